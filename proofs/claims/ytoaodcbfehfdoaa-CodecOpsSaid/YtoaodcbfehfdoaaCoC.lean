
/- codec: Op by contract; the example. Conditions: none but bounds. -/
import Derived.Test.YtoaodcbfehfdoaaCoB
namespace Go.Proofs.Ytoaodcbfehfdoaa
open Go.ChangeShapes Go.WideShapes Go.ChangeAt Go.RowKit
def opE (h : Hp) (l : List Mm) : List Nat := (((tn [h.kind, h.vip, h.be_, h.ve] ++ adE h.a) ++ be h.port 2) ++ tn [(h.proto : Int), h.way]) ++ (l.length :: msE l)
theorem opE_len (h : Hp) (l : List Mm) : (opE h l).length = 10 + adN h.a + 2 * l.length := by
  unfold opE
  simp only [List.length_append, List.length_cons, adE_len, be_length, msE_len]
  show 4 + (1 + adN h.a) + 2 + 2 + (2 * l.length + 1) = _
  omega
set_option maxRecDepth 100000 in
set_option maxHeartbeats 8000000 in
theorem coop_no_c (h : Hp) (L : Option Addr) (n c : Nat) (l : List Mm) (w0 : World) (hv : View w0 w0.heap.size L (flat mmV l)) (hl : l.length = n) (hn : n ≤ 1000) (hlim : hpLim h) (hok : ¬ okOp h l) :
    Calls Try.prog 12 #[.agg (opV h L n c).toArray] w0 fun e w' => e = .returned (.slice none 0 0) ∧ Kp [] w0 w' := by
  have hS := (St.sv w0).vcons rfl hv
  refine ent (n := 38) Try.func12 rfl rfl ?_
  refine wp_seq_k ?_; intro K1 hK1
  refine wlit ?_
  refine wl_e rfl ?_; intro K hK
  refine ow_box hS (tmA rfl rfl) rfl ?_
  clear hS; intro g0_0 w hg0_0 hS
  refine hK _ _ ?_; clear hK K
  refine wl_v (x_assign ev_c) ?_
  refine wl_nil ?_
  refine then_n (hK1 _ _ ?_); clear hK1 K1
  refine wp_seq_k ?_; intro K2 hK2
  refine wp_seq_k ?_; intro K3 hK3
  refine wlit ?_
  refine wl_v (x_loadA (cs := [_, _, _, _, _, _, _, _, _, _, _]) Try.underlying35 rfl ts_35 (tmP rfl rfl) (rangeB hS.ok 0 rfl rfl)) ?_
  refine wl_e rfl ?_; intro K hK
  refine ow_call Try.func10 rfl rfl (evs_cons (tmA rfl rfl) <| evs_nil) (coright_c h L n c l _ (viewV hS.ok 1 rfl) hl hn hlim) ?_
  rintro e w ⟨rfl, hk⟩
  refine ⟨_, rfl, ?_⟩
  replace hS := hS.kept hk
  clear hk
  refine hK _ _ ?_; clear hK K
  refine wl_v (x_not (tmB rfl rfl)) ?_
  refine wl_nil ?_
  refine then_n (hK3 _ _ ?_); clear hK3 K3
  refine cnds (tm rfl) (fun hc0 => ?_) (fun hc0 => ?_)
  · exfalso
    simp [hok] at hc0
  try (exfalso; first | with_reducible exact absurd hc0 Bool.false_ne_true | with_reducible exact absurd hc0.symm Bool.false_ne_true | (simp only [nrm] at hc0; omega) | (simp at hc0; done))
  all_goals
   try simp only [nrm] at hc0
   refine wp_seq_k ?_; intro K4 hK4
   refine wlit ?_
   refine wl_v (x_assign ev_c) ?_
   refine wl_nil ?_
   refine then_n (hK4 _ _ ?_); clear hK4 K4
   refine wp_ret ?_
   refine then_r ?_
   refine ret1 rfl (.tmp rfl (show _ = Value.slice _ _ _ from rfl)) ?_
   exact ⟨rfl, hS.kp⟩
set_option maxRecDepth 100000 in
set_option maxHeartbeats 8000000 in
theorem coop_c (h : Hp) (L : Option Addr) (n c : Nat) (l : List Mm) (w0 : World) (hv : View w0 w0.heap.size L (flat mmV l)) (hl : l.length = n) (hlim : hpLim h) (hok : okOp h l) :
    Calls Try.prog 12 #[.agg (opV h L n c).toArray] w0 fun e w' => ∃ G m cg, e = .returned (.slice G m cg) ∧ m = (opE h l).length ∧ New w0 w' (.row (.slice G m cg) 5 1 m ((opE h l).map u8v)) ∧ Kp [] w0 w' := by
  obtain ⟨hms, ⟨o1, o2, o3, o4, o5⟩, o6, o7⟩ := id hok
  obtain ⟨hla, hlp, hlq⟩ := id hlim
  rw [hl] at o7
  have hn16 := adN_le h.a
  have hlen := opE_len h l
  have hS := (St.sv w0).vcons rfl hv
  refine ent (n := 38) Try.func12 rfl rfl ?_
  refine wp_seq_k ?_; intro K1 hK1
  refine wlit ?_
  refine wl_e rfl ?_; intro K hK
  refine ow_box hS (tmA rfl rfl) rfl ?_
  clear hS; intro g0_0 w hg0_0 hS
  refine hK _ _ ?_; clear hK K
  refine wl_v (x_assign ev_c) ?_
  refine wl_nil ?_
  refine then_n (hK1 _ _ ?_); clear hK1 K1
  refine wp_seq_k ?_; intro K2 hK2
  refine wp_seq_k ?_; intro K3 hK3
  refine wlit ?_
  refine wl_v (x_loadA (cs := [_, _, _, _, _, _, _, _, _, _, _]) Try.underlying35 rfl ts_35 (tmP rfl rfl) (rangeB hS.ok 0 rfl rfl)) ?_
  refine wl_e rfl ?_; intro K hK
  refine ow_call Try.func10 rfl rfl (evs_cons (tmA rfl rfl) <| evs_nil) (coright_c h L n c l _ (viewV hS.ok 1 rfl) hl (by omega) hlim) ?_
  rintro e w ⟨rfl, hk⟩
  refine ⟨_, rfl, ?_⟩
  replace hS := hS.kept hk
  clear hk
  refine hK _ _ ?_; clear hK K
  refine wl_v (x_not (tmB rfl rfl)) ?_
  refine wl_nil ?_
  refine then_n (hK3 _ _ ?_); clear hK3 K3
  refine cnd (tm rfl) (fun hc0 => ?_) (fun hc0 => ?_)
  · exfalso
    simp [hok] at hc0
  try (exfalso; first | with_reducible exact absurd hc0 Bool.false_ne_true | with_reducible exact absurd hc0.symm Bool.false_ne_true | (simp only [nrm] at hc0; omega) | (simp at hc0; done))
  all_goals
   try simp only [nrm] at hc0
   refine wp_skip ?_
   refine then_n (hK2 _ _ ?_); clear hK2 K2
   refine wp_seq_k ?_; intro K4 hK4
   replace hS := hS.nilrow 5 1
   refine wlit ?_
   refine wl_v (x_fa 0 Try.underlying35 rfl rfl ts_3 (tmP rfl rfl)) ?_
   first
    | refine wl_v (x_load Try.underlying3 rfl (tmP rfl rfl) (cellB hS.ok 1 rfl rfl)) ?_
    | refine wl_v (x_load Try.underlying3 rfl (tmP rfl rfl) (cellB hS.ok 1 rfl (getm (by omega)))) ?_
   refine wl_v (x_fa 1 Try.underlying35 rfl rfl ts_3 (tmP rfl rfl)) ?_
   first
    | refine wl_v (x_load Try.underlying3 rfl (tmP rfl rfl) (cellB hS.ok 1 rfl rfl)) ?_
    | refine wl_v (x_load Try.underlying3 rfl (tmP rfl rfl) (cellB hS.ok 1 rfl (getm (by omega)))) ?_
   refine wl_v (x_fa 2 Try.underlying35 rfl rfl ts_3 (tmP rfl rfl)) ?_
   first
    | refine wl_v (x_load Try.underlying3 rfl (tmP rfl rfl) (cellB hS.ok 1 rfl rfl)) ?_
    | refine wl_v (x_load Try.underlying3 rfl (tmP rfl rfl) (cellB hS.ok 1 rfl (getm (by omega)))) ?_
   refine wl_v (x_fa 3 Try.underlying35 rfl rfl ts_3 (tmP rfl rfl)) ?_
   first
    | refine wl_v (x_load Try.underlying3 rfl (tmP rfl rfl) (cellB hS.ok 1 rfl rfl)) ?_
    | refine wl_v (x_load Try.underlying3 rfl (tmP rfl rfl) (cellB hS.ok 1 rfl (getm (by omega)))) ?_
   refine wl_e rfl ?_; intro K hK
   refine ow_build hS Try.underlying87 tz_3 (bc_take (tmI rfl rfl) <| bc_take (tmI rfl rfl) <| bc_take (tmI rfl rfl) <| bc_take (tmI rfl rfl) <| bc_nil) rfl rfl (by kernel_rfl) ?_
   clear hS; intro g3_8 w hg3_8 hS
   refine hK _ _ ?_; clear hK K
   refine wl_e rfl ?_; intro K hK
   refine ow_call Try.func27 rfl rfl (evs_cons ev_c <| evs_cons (tmS rfl rfl) <| evs_nil) (pbytes_c none 0 0 [] (some ⟨g3_8, 0, none⟩) 4 4 [h.kind, h.vip, h.be_, h.ve] _ _ (hS.enter [1] [0] rfl rfl) rfl (by intro z hz; simp only [List.mem_cons, List.not_mem_nil, or_false] at hz; rcases hz with rfl | rfl | rfl | rfl; exact o1; exact o2; exact o3; exact o4) (by omega)) ?_
   rintro e w ⟨G1, c1, rfl, hS2⟩
   refine ⟨_, rfl, ?_⟩
   replace hS := hS.leave [1] [2, 3] rfl rfl rfl hS2 rfl --ents row,g0_0,vl
   clear hS2
   try replace hS := St.nm (M' := [.row _ _ _ _ _, .blk _ _ [_, _, _, _, _, _, _, _, _, _, _], .vw _ _]) hS rfl
   refine hK _ _ ?_; clear hK K
   refine wl_v (x_assign (tmS rfl rfl)) ?_
   refine wl_nil ?_
   refine then_n (hK4 _ _ ?_); clear hK4 K4
   refine wp_seq_k ?_; intro K5 hK5
   refine wlit ?_
   refine wl_v (x_move (tmS rfl rfl)) ?_
   refine wl_v (x_fa 4 Try.underlying35 rfl rfl ts_24 (tmP rfl rfl)) ?_
   refine wl_v (x_loadA (cs := [_, _, _]) Try.underlying24 rfl ts_24 (tmP rfl rfl) (rangeB hS.ok 1 rfl rfl)) ?_
   refine wl_e rfl ?_; intro K hK
   refine ow_call Try.func28 rfl rfl (evs_cons (tmS rfl rfl) <| evs_cons (tmA rfl rfl) <| evs_nil) (paddr_c _ _ _ _ h.a _ _ (hS.enter [0] [] rfl rfl) hla (by omega)) ?_
   rintro e w ⟨G2, m2, c2, rfl, hm2, hS2⟩
   refine ⟨_, rfl, ?_⟩
   replace hS := hS.leave [0] [1, 2] rfl rfl rfl hS2 rfl --ents row,g0_0,vl
   clear hS2
   rw [List.nil_append] at hS
   try replace hS := St.nm (M' := [.row _ _ _ _ _, .blk _ _ [_, _, _, _, _, _, _, _, _, _, _], .vw _ _]) hS rfl
   refine hK _ _ ?_; clear hK K
   refine wl_v (x_assign (tmS rfl rfl)) ?_
   refine wl_nil ?_
   refine then_n (hK5 _ _ ?_); clear hK5 K5
   refine wp_seq_k ?_; intro K6 hK6
   refine wlit ?_
   refine wl_v (x_move (tmS rfl rfl)) ?_
   refine wl_v (x_fa 7 Try.underlying35 rfl rfl ts_25 (tmP rfl rfl)) ?_
   first
    | refine wl_v (x_load Try.underlying25 rfl (tmP rfl rfl) (cellB hS.ok 1 rfl rfl)) ?_
    | refine wl_v (x_load Try.underlying25 rfl (tmP rfl rfl) (cellB hS.ok 1 rfl (getm (by omega)))) ?_
   first
    | refine wl_v (x_convN Try.underlying25 Try.underlying22 (tmI rfl rfl) (fit_u64 (by omega))) ?_
    | refine wl_v (x_convU Try.underlying25 Try.underlying22 (tmI rfl rfl) rfl) ?_
    | refine wl_v (x_conv Try.underlying25 Try.underlying22 (tmI rfl rfl)) ?_
   refine wl_e rfl ?_; intro K hK
   refine ow_call Try.func29 rfl rfl (evs_cons (tmS rfl rfl) <| evs_cons (tmI rfl rfl) <| evs_cons (ev_cN 2) <| evs_nil) (put_c m2 G2 c2 (tn [h.kind, h.vip, h.be_, h.ve] ++ adE h.a) h.port 2 _ (viewR hS.ok 0 rfl) (by rw [List.length_append, adE_len]; show 4 + _ = _; omega) (by omega) (by omega) (by omega)) ?_
   rintro e w ⟨g3, rfl, hn, hk⟩
   refine ⟨_, rfl, ?_⟩
   replace hS := (hS.add hk hn).pick [0, 2, 3] rfl rfl --ents row,g0_0,vl
   clear hn hk
   try replace hS := St.nm (M' := [.row _ _ _ _ _, .blk _ _ [_, _, _, _, _, _, _, _, _, _, _], .vw _ _]) hS rfl
   refine hK _ _ ?_; clear hK K
   refine wl_v (x_assign (tmS rfl rfl)) ?_
   refine wl_nil ?_
   refine then_n (hK6 _ _ ?_); clear hK6 K6
   refine wp_seq_k ?_; intro K7 hK7
   refine wlit ?_
   refine wl_v (x_move (tmS rfl rfl)) ?_
   refine wl_v (x_fa 8 Try.underlying35 rfl rfl ts_5 (tmP rfl rfl)) ?_
   first
    | refine wl_v (x_load Try.underlying5 rfl (tmP rfl rfl) (cellB hS.ok 1 rfl rfl)) ?_
    | refine wl_v (x_load Try.underlying5 rfl (tmP rfl rfl) (cellB hS.ok 1 rfl (getm (by omega)))) ?_
   first
    | refine wl_v (x_convN Try.underlying5 Try.underlying3 (tmI rfl rfl) (fit_i64 (by omega))) ?_
    | refine wl_v (x_conv Try.underlying5 Try.underlying3 (tmI rfl rfl)) ?_
   refine wl_v (x_fa 9 Try.underlying35 rfl rfl ts_3 (tmP rfl rfl)) ?_
   first
    | refine wl_v (x_load Try.underlying3 rfl (tmP rfl rfl) (cellB hS.ok 1 rfl rfl)) ?_
    | refine wl_v (x_load Try.underlying3 rfl (tmP rfl rfl) (cellB hS.ok 1 rfl (getm (by omega)))) ?_
   refine wl_e rfl ?_; intro K hK
   refine ow_build hS Try.underlying87 tz_3 (bc_take (tmI rfl rfl) <| bc_take (tmI rfl rfl) <| bc_nil) rfl rfl (by kernel_rfl) ?_
   clear hS; intro g6_6 w hg6_6 hS
   refine hK _ _ ?_; clear hK K
   refine wl_e rfl ?_; intro K hK
   refine ow_call Try.func27 rfl rfl (evs_cons (tmS rfl rfl) <| evs_cons (tmS rfl rfl) <| evs_nil) (pbytes_c _ _ _ _ (some ⟨g6_6, 0, none⟩) 2 2 [(h.proto : Int), h.way] _ _ (hS.enter [1] [0] rfl rfl) rfl (by intro z hz; simp only [List.mem_cons, List.not_mem_nil, or_false] at hz; rcases hz with rfl | rfl; unfold okI; omega; exact o5) (by omega)) ?_
   rintro e w ⟨G4, c4, rfl, hS2⟩
   refine ⟨_, rfl, ?_⟩
   replace hS := hS.leave [1] [2, 3] rfl rfl rfl hS2 rfl --ents row,g0_0,vl
   clear hS2
   try replace hS := St.nm (M' := [.row _ _ _ _ _, .blk _ _ [_, _, _, _, _, _, _, _, _, _, _], .vw _ _]) hS rfl
   refine hK _ _ ?_; clear hK K
   refine wl_v (x_assign (tmS rfl rfl)) ?_
   refine wl_nil ?_
   refine then_n (hK7 _ _ ?_); clear hK7 K7
   refine wp_seq_k ?_; intro K8 hK8
   refine wlit ?_
   refine wl_v (x_move (tmS rfl rfl)) ?_
   refine wl_v (x_fa 10 Try.underlying35 rfl rfl ts_33 (tmP rfl rfl)) ?_
   first
    | refine wl_v (x_load Try.underlying33 rfl (tmP rfl rfl) (cellB hS.ok 1 rfl rfl)) ?_
    | refine wl_v (x_load Try.underlying33 rfl (tmP rfl rfl) (cellB hS.ok 1 rfl (getm (by omega)))) ?_
   refine wl_e rfl ?_; intro K hK
   refine ow_call Try.func30 rfl rfl (evs_cons (tmS rfl rfl) <| evs_cons (tmS rfl rfl) <| evs_nil) (pmembers_c _ _ _ _ L n c l _ _ (hS.enter [0] [2] rfl rfl) hl o7 hms (by omega)) ?_
   rintro e w ⟨G5, m5, c5, rfl, hm5, hS2⟩
   refine ⟨_, rfl, ?_⟩
   replace hS := hS.leave [0] [1, 2] rfl rfl rfl hS2 rfl --ents row,g0_0,vl
   clear hS2
   try replace hS := St.nm (M' := [.row _ _ _ _ _, .blk _ _ [_, _, _, _, _, _, _, _, _, _, _], .vw _ _]) hS rfl
   refine hK _ _ ?_; clear hK K
   refine wl_v (x_assign (tmS rfl rfl)) ?_
   refine wl_nil ?_
   refine then_n (hK8 _ _ ?_); clear hK8 K8
   refine wp_ret ?_
   refine ret1 rfl (.tmp rfl (show _ = Value.slice _ _ _ from rfl)) ?_
   subst hl
   exact ⟨_, _, _, rfl, by omega, hS.new 0 rfl rfl, hS.kp⟩
def zH : Hp := ⟨8, 0, 0, 0, ⟨false, 0, 0⟩, 0, 0, 0⟩
set_option maxRecDepth 100000 in
set_option maxHeartbeats 8000000 in
theorem law23_awake_c (w0 : World) : Calls Try.prog 5 #[] w0 fun e w' => e = .returned (.bool true) ∧ Kp [] w0 w' := by
  have hS := St.sv w0
  refine ent (n := 5) Try.func5 rfl rfl ?_
  refine wp_seq_k ?_; intro K1 hK1
  refine wlit ?_
  refine wl_v (x_assign ev_c) ?_
  refine wl_nil ?_
  refine then_n (hK1 _ _ ?_); clear hK1 K1
  refine wp_seq_k ?_; intro K2 hK2
  refine wlit ?_
  refine wl_v (x_build (bc_take (ev_cN 8) <| bc_skip (.int .i64 0) <| bc_skip (.int .i64 0) <| bc_skip (.int .i64 0) <| bc_skipL [.bool false, .int .u64 0, .int .u64 0] <| bc_skip (.int .u16 0) <| bc_skip (.int .u8 0) <| bc_skip (.int .i64 0) <| bc_skip (.slice none 0 0) <| bc_nil) (by kernel_rfl)) ?_
  refine wl_e rfl ?_; intro K hK
  refine ow_call Try.func12 rfl rfl (evs_cons (tmA rfl rfl) <| evs_nil) (coop_c zH none 0 0 [] _ View.nil_ rfl ⟨⟨by decide, by decide⟩, by decide, by decide⟩ (by decide)) ?_
  rintro e w ⟨G, m, cg, rfl, hm, hn, hk⟩
  refine ⟨_, rfl, ?_⟩
  replace hS := hS.add hk hn -- +row
  clear hn hk
  obtain rfl : m = 14 := by rw [hm, opE_len]; rfl
  refine hK _ _ ?_; clear hK K
  refine wl_v (x_len Try.underlying29 (tmS rfl rfl)) ?_
  refine wl_v (x_eql (tmI rfl rfl) (ev_cN 14)) ?_
  refine wl_v (x_assign (tmB rfl rfl)) ?_
  refine wl_nil ?_
  refine then_n (hK2 _ _ ?_); clear hK2 K2
  refine wp_ret ?_
  refine ret1 rfl (.tmp rfl (show _ = Value.bool _ from rfl)) ?_
  exact ⟨rfl, hS.kp⟩
end Go.Proofs.Ytoaodcbfehfdoaa
