
/- icmp: TooBig, Bytes, and the references' TooBig and Same, by contract. Conditions: none but bounds. -/
import Derived.Test.YtfagblcepibliaaOct
namespace Go.Proofs.Ytfagblcepibliaa
open Go.RowKit

def msgV (ty code sum word : Nat) (A : Option Addr) (n c : Nat) : List Value := [.int .u8 (ty : Int), .int .u8 (code : Int), .int .u16 (sum : Int), .int .u32 (word : Int), .slice A n c]
def icmpB (ty code sum word : Nat) (l : List Nat) : List Nat := [] ++ be ty 1 ++ be code 1 ++ be sum 2 ++ be word 4 ++ l

set_option maxRecDepth 100000 in
set_option maxHeartbeats 4000000 in
theorem icmp_bytes_c (ty code sum word : Nat) (A : Option Addr) (n c : Nat) (l : List Nat) (w0 : World) (hv : View w0 w0.heap.size A (l.map u8v)) (hl : l.length = n) (hn4 : n ≤ 900000) (h1 : ty ≤ 255) (h2 : code ≤ 255) (h3 : sum ≤ 65535) (h4 : word ≤ 4294967295) :
    Calls Try.prog 67 #[.agg (msgV ty code sum word A n c).toArray] w0 fun e w' => ∃ A' m c', m = 8 + n ∧ e = .returned (.slice A' m c') ∧ New w0 w' (.row (.slice A' m c') 5 1 m ((icmpB ty code sum word l).map u8v)) ∧ Kp [] w0 w' := by
  have hS := (St.sv w0).vcons rfl hv
  refine ent (n := 27) Try.func67 rfl rfl ?_
  refine wp_seq_k ?_; intro K1 hK1
  refine wlit ?_
  refine wl_e rfl ?_; intro K hK
  refine ow_box hS (tmA rfl rfl) rfl ?_
  clear hS; intro g0_0 w hg0_0 hS
  refine hK _ _ ?_; clear hK K
  refine wl_v (x_assign ev_c) ?_
  refine wl_nil ?_
  refine then_n (hK1 _ _ ?_); clear hK1 K1
  refine wp_seq_k ?_; intro K2 hK2
  refine wlit ?_
  refine wl_v (x_fa 0 Try.underlying85 rfl rfl ts_5 (tmP rfl rfl)) ?_
  first
   | refine wl_v (x_load Try.underlying5 rfl (tmP rfl rfl) (cellB hS.ok 0 rfl rfl)) ?_
   | refine wl_v (x_load Try.underlying5 rfl (tmP rfl rfl) (cellB hS.ok 0 rfl (getm (by omega)))) ?_
  first
   | refine wl_v (x_convN Try.underlying5 Try.underlying25 (tmI rfl rfl) (fit_u64 (by omega))) ?_
   | refine wl_v (x_convU Try.underlying5 Try.underlying25 (tmI rfl rfl) rfl) ?_
   | refine wl_v (x_conv Try.underlying5 Try.underlying25 (tmI rfl rfl)) ?_
  refine wl_e rfl ?_; intro K hK
  refine ow_call Try.func109 rfl rfl (evs_cons ev_c <| evs_cons (tmI rfl rfl) <| evs_cons (ev_cN 1) <| evs_nil) (put_c 0 none 0 [] ty 1 _ View.nil_ rfl (by omega) (by omega) (by omega)) ?_
  rintro e w ⟨g1, rfl, hn, hk⟩
  refine ⟨_, rfl, ?_⟩
  replace hS := hS.add hk hn -- +1
  clear hn hk
  refine hK _ _ ?_; clear hK K
  refine wl_v (x_assign (tmS rfl rfl)) ?_
  refine wl_nil ?_
  refine then_n (hK2 _ _ ?_); clear hK2 K2
  refine wp_seq_k ?_; intro K3 hK3
  refine wlit ?_
  refine wl_v (x_move (tmS rfl rfl)) ?_
  refine wl_v (x_fa 1 Try.underlying85 rfl rfl ts_5 (tmP rfl rfl)) ?_
  first
   | refine wl_v (x_load Try.underlying5 rfl (tmP rfl rfl) (cellB hS.ok 1 rfl rfl)) ?_
   | refine wl_v (x_load Try.underlying5 rfl (tmP rfl rfl) (cellB hS.ok 1 rfl (getm (by omega)))) ?_
  first
   | refine wl_v (x_convN Try.underlying5 Try.underlying25 (tmI rfl rfl) (fit_u64 (by omega))) ?_
   | refine wl_v (x_convU Try.underlying5 Try.underlying25 (tmI rfl rfl) rfl) ?_
   | refine wl_v (x_conv Try.underlying5 Try.underlying25 (tmI rfl rfl)) ?_
  refine wl_e rfl ?_; intro K hK
  refine ow_call Try.func109 rfl rfl (evs_cons (tmS rfl rfl) <| evs_cons (tmI rfl rfl) <| evs_cons (ev_cN 1) <| evs_nil) (put_c _ _ _ _ code 1 _ (viewR hS.ok 0 rfl) (by simp [be_length]) (by omega) (by omega) (by omega)) ?_
  rintro e w ⟨g2, rfl, hn, hk⟩
  refine ⟨_, rfl, ?_⟩
  replace hS := (hS.add hk hn).pick [0, 2, 3] rfl rfl
  clear hn hk
  refine hK _ _ ?_; clear hK K
  refine wl_v (x_assign (tmS rfl rfl)) ?_
  refine wl_nil ?_
  refine then_n (hK3 _ _ ?_); clear hK3 K3
  refine wp_seq_k ?_; intro K4 hK4
  refine wlit ?_
  refine wl_v (x_move (tmS rfl rfl)) ?_
  refine wl_v (x_fa 2 Try.underlying85 rfl rfl ts_24 (tmP rfl rfl)) ?_
  first
   | refine wl_v (x_load Try.underlying24 rfl (tmP rfl rfl) (cellB hS.ok 1 rfl rfl)) ?_
   | refine wl_v (x_load Try.underlying24 rfl (tmP rfl rfl) (cellB hS.ok 1 rfl (getm (by omega)))) ?_
  first
   | refine wl_v (x_convN Try.underlying24 Try.underlying25 (tmI rfl rfl) (fit_u64 (by omega))) ?_
   | refine wl_v (x_convU Try.underlying24 Try.underlying25 (tmI rfl rfl) rfl) ?_
   | refine wl_v (x_conv Try.underlying24 Try.underlying25 (tmI rfl rfl)) ?_
  refine wl_e rfl ?_; intro K hK
  refine ow_call Try.func109 rfl rfl (evs_cons (tmS rfl rfl) <| evs_cons (tmI rfl rfl) <| evs_cons (ev_cN 2) <| evs_nil) (put_c _ _ _ _ sum 2 _ (viewR hS.ok 0 rfl) (by simp [be_length]) (by omega) (by omega) (by omega)) ?_
  rintro e w ⟨g3, rfl, hn, hk⟩
  refine ⟨_, rfl, ?_⟩
  replace hS := (hS.add hk hn).pick [0, 2, 3] rfl rfl
  clear hn hk
  refine hK _ _ ?_; clear hK K
  refine wl_v (x_assign (tmS rfl rfl)) ?_
  refine wl_nil ?_
  refine then_n (hK4 _ _ ?_); clear hK4 K4
  refine wp_seq_k ?_; intro K5 hK5
  refine wlit ?_
  refine wl_v (x_move (tmS rfl rfl)) ?_
  refine wl_v (x_fa 3 Try.underlying85 rfl rfl ts_50 (tmP rfl rfl)) ?_
  first
   | refine wl_v (x_load Try.underlying50 rfl (tmP rfl rfl) (cellB hS.ok 1 rfl rfl)) ?_
   | refine wl_v (x_load Try.underlying50 rfl (tmP rfl rfl) (cellB hS.ok 1 rfl (getm (by omega)))) ?_
  first
   | refine wl_v (x_convN Try.underlying50 Try.underlying25 (tmI rfl rfl) (fit_u64 (by omega))) ?_
   | refine wl_v (x_convU Try.underlying50 Try.underlying25 (tmI rfl rfl) rfl) ?_
   | refine wl_v (x_conv Try.underlying50 Try.underlying25 (tmI rfl rfl)) ?_
  refine wl_e rfl ?_; intro K hK
  refine ow_call Try.func109 rfl rfl (evs_cons (tmS rfl rfl) <| evs_cons (tmI rfl rfl) <| evs_cons (ev_cN 4) <| evs_nil) (put_c _ _ _ _ word 4 _ (viewR hS.ok 0 rfl) (by simp [be_length]) (by omega) (by omega) (by omega)) ?_
  rintro e w ⟨g4, rfl, hn, hk⟩
  refine ⟨_, rfl, ?_⟩
  replace hS := (hS.add hk hn).pick [0, 2, 3] rfl rfl
  clear hn hk
  refine hK _ _ ?_; clear hK K
  refine wl_v (x_assign (tmS rfl rfl)) ?_
  refine wl_nil ?_
  refine then_n (hK5 _ _ ?_); clear hK5 K5
  refine wp_seq_k ?_; intro K6 hK6
  refine wlit ?_
  refine wl_v (x_move (tmS rfl rfl)) ?_
  refine wl_v (x_fa 4 Try.underlying85 rfl rfl ts_22 (tmP rfl rfl)) ?_
  first
   | refine wl_v (x_load Try.underlying22 rfl (tmP rfl rfl) (cellB hS.ok 1 rfl rfl)) ?_
   | refine wl_v (x_load Try.underlying22 rfl (tmP rfl rfl) (cellB hS.ok 1 rfl (getm (by omega)))) ?_
  refine wl_e rfl ?_; intro K hK
  first
   | (refine ow_append hS 0 1 rfl rfl Try.underlying22 tz_5 rfl (tmS rfl rfl) (tmS rfl rfl) rfl ⟨by decide, by decide, rfl⟩ (by simp only [maxLen]; omega) (by omega) ?_; clear hS; intro g5_3 cg5_3 w hS)
   | (refine ow_append hS 0 2 rfl rfl Try.underlying22 tz_5 rfl (tmS rfl rfl) (tmS rfl rfl) rfl ⟨by decide, by decide, rfl⟩ (by simp only [maxLen]; omega) (by omega) ?_; clear hS; intro g5_3 cg5_3 w hS)
   | (refine ow_appendV hS 0 rfl (viewV hS.ok 0 rfl) Try.underlying22 tz_5 rfl (tmS rfl rfl) (tmS rfl rfl) (by first | exact u8v_one _ | (intro u hu; simp at hu; first | (rcases hu with rfl | rfl <;> rfl) | (obtain ⟨_, _, rfl⟩ := hu; rfl))) ⟨by decide, by first | rfl | (simp; done) | (simp; omega)⟩ (by simp only [maxLen]; omega) (by omega) ?_; clear hS; intro g5_3 cg5_3 w hAg5_3 hCg5_3 hS)
   | (refine ow_appendV hS 0 rfl (viewR hS.ok 0 rfl) Try.underlying22 tz_5 rfl (tmS rfl rfl) (tmS rfl rfl) (by first | exact u8v_one _ | (intro u hu; simp at hu; first | (rcases hu with rfl | rfl <;> rfl) | (obtain ⟨_, _, rfl⟩ := hu; rfl))) ⟨by decide, by first | rfl | (simp; done) | (simp; omega)⟩ (by simp only [maxLen]; omega) (by omega) ?_; clear hS; intro g5_3 cg5_3 w hAg5_3 hCg5_3 hS)
   | (refine ow_appendV hS 0 rfl (viewB hS.ok 0 rfl) Try.underlying22 tz_5 rfl (tmS rfl rfl) (tmS rfl rfl) (by first | exact u8v_one _ | (intro u hu; simp at hu; first | (rcases hu with rfl | rfl <;> rfl) | (obtain ⟨_, _, rfl⟩ := hu; rfl))) ⟨by decide, by first | rfl | (simp; done) | (simp; omega)⟩ (by simp only [maxLen]; omega) (by omega) ?_; clear hS; intro g5_3 cg5_3 w hAg5_3 hCg5_3 hS)
   | (refine ow_appendV hS 0 rfl (viewV hS.ok 1 rfl) Try.underlying22 tz_5 rfl (tmS rfl rfl) (tmS rfl rfl) (by first | exact u8v_one _ | (intro u hu; simp at hu; first | (rcases hu with rfl | rfl <;> rfl) | (obtain ⟨_, _, rfl⟩ := hu; rfl))) ⟨by decide, by first | rfl | (simp; done) | (simp; omega)⟩ (by simp only [maxLen]; omega) (by omega) ?_; clear hS; intro g5_3 cg5_3 w hAg5_3 hCg5_3 hS)
   | (refine ow_appendV hS 0 rfl (viewR hS.ok 1 rfl) Try.underlying22 tz_5 rfl (tmS rfl rfl) (tmS rfl rfl) (by first | exact u8v_one _ | (intro u hu; simp at hu; first | (rcases hu with rfl | rfl <;> rfl) | (obtain ⟨_, _, rfl⟩ := hu; rfl))) ⟨by decide, by first | rfl | (simp; done) | (simp; omega)⟩ (by simp only [maxLen]; omega) (by omega) ?_; clear hS; intro g5_3 cg5_3 w hAg5_3 hCg5_3 hS)
   | (refine ow_appendV hS 0 rfl (viewB hS.ok 1 rfl) Try.underlying22 tz_5 rfl (tmS rfl rfl) (tmS rfl rfl) (by first | exact u8v_one _ | (intro u hu; simp at hu; first | (rcases hu with rfl | rfl <;> rfl) | (obtain ⟨_, _, rfl⟩ := hu; rfl))) ⟨by decide, by first | rfl | (simp; done) | (simp; omega)⟩ (by simp only [maxLen]; omega) (by omega) ?_; clear hS; intro g5_3 cg5_3 w hAg5_3 hCg5_3 hS)
   | (refine ow_appendV hS 0 rfl (viewV hS.ok 2 rfl) Try.underlying22 tz_5 rfl (tmS rfl rfl) (tmS rfl rfl) (by first | exact u8v_one _ | (intro u hu; simp at hu; first | (rcases hu with rfl | rfl <;> rfl) | (obtain ⟨_, _, rfl⟩ := hu; rfl))) ⟨by decide, by first | rfl | (simp; done) | (simp; omega)⟩ (by simp only [maxLen]; omega) (by omega) ?_; clear hS; intro g5_3 cg5_3 w hAg5_3 hCg5_3 hS)
   | (refine ow_appendV hS 0 rfl (viewR hS.ok 2 rfl) Try.underlying22 tz_5 rfl (tmS rfl rfl) (tmS rfl rfl) (by first | exact u8v_one _ | (intro u hu; simp at hu; first | (rcases hu with rfl | rfl <;> rfl) | (obtain ⟨_, _, rfl⟩ := hu; rfl))) ⟨by decide, by first | rfl | (simp; done) | (simp; omega)⟩ (by simp only [maxLen]; omega) (by omega) ?_; clear hS; intro g5_3 cg5_3 w hAg5_3 hCg5_3 hS)
   | (refine ow_appendV hS 0 rfl (viewB hS.ok 2 rfl) Try.underlying22 tz_5 rfl (tmS rfl rfl) (tmS rfl rfl) (by first | exact u8v_one _ | (intro u hu; simp at hu; first | (rcases hu with rfl | rfl <;> rfl) | (obtain ⟨_, _, rfl⟩ := hu; rfl))) ⟨by decide, by first | rfl | (simp; done) | (simp; omega)⟩ (by simp only [maxLen]; omega) (by omega) ?_; clear hS; intro g5_3 cg5_3 w hAg5_3 hCg5_3 hS)
   | (refine ow_appendV hS 0 rfl View.nil_ Try.underlying22 tz_5 rfl (tmS rfl rfl) (tmS rfl rfl) (by first | exact u8v_one _ | (intro u hu; simp at hu; first | (rcases hu with rfl | rfl <;> rfl) | (obtain ⟨_, _, rfl⟩ := hu; rfl))) ⟨by decide, by first | rfl | (simp; done) | (simp; omega)⟩ (by simp only [maxLen]; omega) (by omega) ?_; clear hS; intro g5_3 cg5_3 w hAg5_3 hCg5_3 hS)
  refine hK _ _ ?_; clear hK K
  refine wl_v (x_assign (tmS rfl rfl)) ?_
  refine wl_nil ?_
  rw [← List.map_append] at hS
  refine then_n (hK6 _ _ ?_); clear hK6 K6
  refine wp_ret ?_
  refine ret1 rfl (.tmp rfl (show _ = Value.slice _ _ _ from rfl)) ?_
  exact ⟨_, _, _, by omega, rfl, hS.new 0 rfl rfl, hS.kp⟩

set_option maxRecDepth 100000 in
set_option maxHeartbeats 4000000 in
theorem toobig_c (n : Nat) (A : Option Addr) (c : Nat) (l : List Nat) (most : Nat) (six : Bool) (w0 : World) (hv : View w0 w0.heap.size A (l.map u8v)) (hl : l.length = n) (hc : n ≤ c) (hn4 : n ≤ 1000000) (h2 : most ≤ 65535) :
    Calls Try.prog 126 #[.slice A n c, .int .u16 (most : Int), .bool six] w0 fun e w' => ∃ A' k c', k = min (cond six 1232 548) n ∧ e = .returned (.agg (msgV (cond six 2 3) (cond six 0 4) 0 most A' k c').toArray) ∧ New w0 w' (.row (.slice A' k c') 5 1 k ((l.take k).map u8v)) ∧ Kp [] w0 w' := by
  have hS := (St.sv w0).vcons rfl hv
  refine ent (n := 24) Try.func126 rfl rfl ?_
  refine wp_seq_k ?_; intro K1 hK1
  refine wlit ?_
  refine wl_e rfl ?_; intro K hK
  refine ow_alloc hS tz_85 rfl ?_
  clear hS; intro g0_0 w hg0_0 hS
  refine hK _ _ ?_; clear hK K
  refine wl_nil ?_
  refine then_n (hK1 _ _ ?_); clear hK1 K1
  refine wp_seq_k ?_; intro K2 hK2
  refine wlit ?_
  refine wl_v (x_move (tmI rfl rfl)) ?_
  first
   | refine wl_v (x_convN Try.underlying24 Try.underlying50 (tmI rfl rfl) (fit_u32 (by omega))) ?_
   | refine wl_v (x_convU Try.underlying24 Try.underlying50 (tmI rfl rfl) rfl) ?_
   | refine wl_v (x_conv Try.underlying24 Try.underlying50 (tmI rfl rfl)) ?_
  refine wl_v (x_build (bc_take (ev_cN 3) <| bc_take (ev_cN 4) <| bc_skip (.int .u16 0) <| bc_take (tmI rfl rfl) <| bc_skip (.slice none 0 0) <| bc_nil) (by kernel_rfl)) ?_
  refine wl_e rfl ?_; intro K hK
  refine ow_alloc hS tz_85 rfl ?_
  clear hS; intro g1_3 w hg1_3 hS
  refine hK _ _ ?_; clear hK K
  refine wl_e rfl ?_; intro K hK
  refine ow_storeA hS 0 rfl ts_85 (tmP rfl rfl) (tmA rfl rfl) rfl rfl rfl ?_
  clear hS; intro w hS
  refine hK _ _ ?_; clear hK K
  refine wl_nil ?_
  refine then_n (hK2 _ _ ?_); clear hK2 K2
  refine wp_seq_k ?_; intro K3 hK3
  refine wlit ?_
  refine wl_v (x_assign (ev_cN 548)) ?_
  refine wl_nil ?_
  refine then_n (hK3 _ _ ?_); clear hK3 K3
  refine wp_seq_k ?_; intro K4 hK4
  refine wp_seq_k ?_; intro K5 hK5
  refine wlit ?_
  refine wl_v (x_move (tmB rfl rfl)) ?_
  refine wl_nil ?_
  refine then_n (hK5 _ _ ?_); clear hK5 K5
  refine cutc [8, 13, 14] (fun g w => g 8 = .int .i64 ((cond six 1232 548 : Nat) : Int) ∧ St [] w0 [.blk g1_3 85 (msgV (cond six 2 3) (cond six 0 4) 0 most none 0 0), .blk g0_0 85 (msgV 0 0 0 0 none 0 0), .vw A (l.map u8v)] w) ?_ ?_
  · skip
    refine cnd (tm rfl) (fun hc0 => ?_) (fun hc0 => ?_)
    · try (exfalso; first | with_reducible exact absurd hc0 Bool.false_ne_true | with_reducible exact absurd hc0.symm Bool.false_ne_true | (simp only [nrm] at hc0; omega) | (simp at hc0; done))
      all_goals
       try simp only [nrm] at hc0
       subst hc0
       refine wlit ?_
       refine wl_v (x_fa 0 Try.underlying85 rfl rfl ts_5 (tmP rfl rfl)) ?_
       refine wl_e rfl ?_; intro K hK
       first
        | refine ow_store hS 0 rfl ts_5 (tmP rfl rfl) (ev_cN 2) rfl rfl ?_
        | refine ow_storeX hS 0 rfl ts_5 (tmP rfl rfl) (ev_cN 2) rfl (by simp; omega) ?_
       clear hS; intro w hS
       refine hK _ _ ?_; clear hK K
       refine wl_v (x_fa 1 Try.underlying85 rfl rfl ts_5 (tmP rfl rfl)) ?_
       refine wl_e rfl ?_; intro K hK
       first
        | refine ow_store hS 0 rfl ts_5 (tmP rfl rfl) (ev_cN 0) rfl rfl ?_
        | refine ow_storeX hS 0 rfl ts_5 (tmP rfl rfl) (ev_cN 0) rfl (by simp; omega) ?_
       clear hS; intro w hS
       refine hK _ _ ?_; clear hK K
       refine wl_v (x_assign (ev_cN 1232)) ?_
       refine wl_nil ?_
       exact then_n ⟨_, rfl, (by repeat (first | exact agree_self | exact agree_refl | refine agree_upd rfl ?_ | refine agree_mix rfl ?_)), (by first | rfl | go_num | exact congrArg (Value.int _) (by first | omega | (simp; done) | (simp; omega))), hS⟩
    try (exfalso; first | with_reducible exact absurd hc0 Bool.false_ne_true | with_reducible exact absurd hc0.symm Bool.false_ne_true | (simp only [nrm] at hc0; omega) | (simp at hc0; done))
    all_goals
     try simp only [nrm] at hc0
     subst hc0
     refine wp_skip ?_
     exact then_n ⟨_, rfl, (by repeat (first | exact agree_self | exact agree_refl | refine agree_upd rfl ?_ | refine agree_mix rfl ?_)), (by first | rfl | go_num | exact congrArg (Value.int _) (by first | omega | (simp; done) | (simp; omega))), hS⟩
  · clear hS; intro g w hI
    obtain ⟨hs8, hS⟩ := hI
    refine fr_knowQ (d := 8) hs8 ?_; clear hs8
    refine then_n (hK4 _ _ ?_); clear hK4 K4
    refine wp_seq_k ?_; intro K7 hK7
    refine wlit ?_
    refine wl_v (x_move (tmS rfl rfl)) ?_
    refine wl_v (x_move (tmI rfl rfl)) ?_
    refine wl_v (x_move (tmS rfl rfl)) ?_
    refine wl_v (x_len Try.underlying22 (tmS rfl rfl)) ?_
    first
     | refine wl_v (x_min (tmI rfl rfl) (tmI rfl rfl)) ?_
     | refine wl_v (x_minI (tmI rfl rfl) (tmI rfl rfl)) ?_
    refine wl_v (x_sliceH Try.underlying22 ts_5 (tmS rfl rfl) (tmI rfl rfl) (by omega)) ?_
    replace hS := hS.cutb 2 0 (min (cond six 1232 548) n) rfl (by omega : l.length ≤ c)
    refine wl_e rfl ?_; intro K hK
    refine ow_call Try.func127 rfl rfl (evs_cons (tmS rfl rfl) <| evs_nil) (clone_c _ _ _ _ _ (viewV hS.ok 0 rfl) (by rw [List.drop_zero, List.length_take]; omega) (by omega)) ?_
    rintro e w ⟨A', c', rfl, hn, hk⟩
    refine ⟨_, rfl, ?_⟩
    replace hS := hS.add hk hn -- +1
    clear hn hk
    refine hK _ _ ?_; clear hK K
    refine wl_v (x_fa 4 Try.underlying85 rfl rfl ts_22 (tmP rfl rfl)) ?_
    refine wl_e rfl ?_; intro K hK
    first
     | refine ow_store hS 2 rfl ts_22 (tmP rfl rfl) (tmS rfl rfl) rfl rfl ?_
     | refine ow_storeX hS 2 rfl ts_22 (tmP rfl rfl) (tmS rfl rfl) rfl (by simp; omega) ?_
    clear hS; intro w hS
    refine hK _ _ ?_; clear hK K
    refine wl_nil ?_
    refine then_n (hK7 _ _ ?_); clear hK7 K7
    refine wp_seq_k ?_; intro K8 hK8
    refine wlit ?_
    refine wl_v (x_loadA (cs := [_, _, _, _, _]) Try.underlying85 rfl ts_85 (tmP rfl rfl) (rangeB hS.ok 2 rfl rfl)) ?_
    refine wl_e rfl ?_; intro K hK
    refine ow_storeA hS 3 rfl ts_85 (tmP rfl rfl) (tmA rfl rfl) rfl rfl rfl ?_
    clear hS; intro w hS
    refine hK _ _ ?_; clear hK K
    refine wl_nil ?_
    refine then_n (hK8 _ _ ?_); clear hK8 K8
    refine wp_ret ?_
    refine ret1 rfl (.cell rfl rfl (load_rowB (cs := [_, _, _, _, _]) hS.ok 3 rfl Try.underlying85 rfl ts_85 rfl)) ?_
    exact ⟨_, _, _, rfl, rfl, hS.new 0 rfl rfl, hS.kp⟩

set_option maxRecDepth 100000 in
set_option maxHeartbeats 4000000 in
theorem same08_c (t c s d t' c' s' d' : Nat) (A : Option Addr) (n k : Nat) (A' : Option Addr) (n' k' : Nat) (l l' : List Nat) (w0 : World) (hv : View w0 w0.heap.size A (l.map u8v)) (hl : l.length = n) (hb : Bytes l) (hv' : View w0 w0.heap.size A' (l'.map u8v)) (hl' : l'.length = n') (hb' : Bytes l') :
    Calls Try.prog 63 #[.agg (msgV t c s d A n k).toArray, .agg (msgV t' c' s' d' A' n' k').toArray] w0 fun e w' => e = .returned (.bool (decide (t = t' ∧ c = c' ∧ s = s' ∧ d = d' ∧ l = l'))) ∧ Kp [] w0 w' := by
  have hS := ((St.sv w0).vcons rfl hv).vcons rfl hv'
  refine ent (n := 40) Try.func63 rfl rfl ?_
  refine wp_seq_k ?_; intro K1 hK1
  refine wlit ?_
  refine wl_e rfl ?_; intro K hK
  refine ow_box hS (tmA rfl rfl) rfl ?_
  clear hS; intro g0_0 w hg0_0 hS
  refine hK _ _ ?_; clear hK K
  refine wl_e rfl ?_; intro K hK
  refine ow_box hS (tmA rfl rfl) rfl ?_
  clear hS; intro g0_1 w hg0_1 hS
  refine hK _ _ ?_; clear hK K
  refine wl_v (x_assign ev_c) ?_
  refine wl_nil ?_
  refine then_n (hK1 _ _ ?_); clear hK1 K1
  refine wp_seq_k ?_; intro K2 hK2
  refine wlit ?_
  refine wl_v (x_fa 0 Try.underlying88 rfl rfl ts_5 (tmP rfl rfl)) ?_
  first
   | refine wl_v (x_load Try.underlying5 rfl (tmP rfl rfl) (cellB hS.ok 1 rfl rfl)) ?_
   | refine wl_v (x_load Try.underlying5 rfl (tmP rfl rfl) (cellB hS.ok 1 rfl (getm (by omega)))) ?_
  refine wl_v (x_fa 0 Try.underlying88 rfl rfl ts_5 (tmP rfl rfl)) ?_
  first
   | refine wl_v (x_load Try.underlying5 rfl (tmP rfl rfl) (cellB hS.ok 0 rfl rfl)) ?_
   | refine wl_v (x_load Try.underlying5 rfl (tmP rfl rfl) (cellB hS.ok 0 rfl (getm (by omega)))) ?_
  refine wl_v (x_eql (tmI rfl rfl) (tmI rfl rfl)) ?_
  refine wl_v (x_move (tmB rfl rfl)) ?_
  refine gs_wl (tm (t := 10) rfl) (fun hg1_5 => ?_) (fun hg1_5 => ?_)
  · have hg1_5' := hg1_5; (try simp only [nrm] at hg1_5'); try (exfalso; first | with_reducible exact absurd hg1_5 Bool.false_ne_true | with_reducible exact absurd hg1_5.symm Bool.false_ne_true | omega | (simp at hg1_5; done))
    all_goals
     refine wl_gv (want_y rfl rfl rfl rfl (by rw [hg1_5]; rfl)) (x_fa 1 Try.underlying88 rfl rfl ts_5 (tmP rfl rfl)) ?_
     first
      | refine wl_gv (want_y rfl rfl rfl rfl (by rw [hg1_5]; rfl)) (x_load Try.underlying5 rfl (tmP rfl rfl) (cellB hS.ok 1 rfl rfl)) ?_
      | refine wl_gv (want_y rfl rfl rfl rfl (by rw [hg1_5]; rfl)) (x_load Try.underlying5 rfl (tmP rfl rfl) (cellB hS.ok 1 rfl (getm (by omega)))) ?_
     refine wl_gv (want_y rfl rfl rfl rfl (by rw [hg1_5]; rfl)) (x_fa 1 Try.underlying88 rfl rfl ts_5 (tmP rfl rfl)) ?_
     first
      | refine wl_gv (want_y rfl rfl rfl rfl (by rw [hg1_5]; rfl)) (x_load Try.underlying5 rfl (tmP rfl rfl) (cellB hS.ok 0 rfl rfl)) ?_
      | refine wl_gv (want_y rfl rfl rfl rfl (by rw [hg1_5]; rfl)) (x_load Try.underlying5 rfl (tmP rfl rfl) (cellB hS.ok 0 rfl (getm (by omega)))) ?_
     refine wl_gv (want_y rfl rfl rfl rfl (by rw [hg1_5]; rfl)) (x_eql (tmI rfl rfl) (tmI rfl rfl)) ?_
     refine wl_v (x_pickT (tmB rfl rfl) hg1_5 (tmB rfl rfl)) ?_
     refine wl_v (x_move (tmB rfl rfl)) ?_
     refine gs_wl (tm (t := 17) rfl) (fun hg1_12 => ?_) (fun hg1_12 => ?_)
     · have hg1_12' := hg1_12; (try simp only [nrm] at hg1_12'); try (exfalso; first | with_reducible exact absurd hg1_12 Bool.false_ne_true | with_reducible exact absurd hg1_12.symm Bool.false_ne_true | omega | (simp at hg1_12; done))
       all_goals
        refine wl_gv (want_y rfl rfl rfl rfl (by rw [hg1_12]; rfl)) (x_fa 2 Try.underlying88 rfl rfl ts_24 (tmP rfl rfl)) ?_
        first
         | refine wl_gv (want_y rfl rfl rfl rfl (by rw [hg1_12]; rfl)) (x_load Try.underlying24 rfl (tmP rfl rfl) (cellB hS.ok 1 rfl rfl)) ?_
         | refine wl_gv (want_y rfl rfl rfl rfl (by rw [hg1_12]; rfl)) (x_load Try.underlying24 rfl (tmP rfl rfl) (cellB hS.ok 1 rfl (getm (by omega)))) ?_
        refine wl_gv (want_y rfl rfl rfl rfl (by rw [hg1_12]; rfl)) (x_fa 2 Try.underlying88 rfl rfl ts_24 (tmP rfl rfl)) ?_
        first
         | refine wl_gv (want_y rfl rfl rfl rfl (by rw [hg1_12]; rfl)) (x_load Try.underlying24 rfl (tmP rfl rfl) (cellB hS.ok 0 rfl rfl)) ?_
         | refine wl_gv (want_y rfl rfl rfl rfl (by rw [hg1_12]; rfl)) (x_load Try.underlying24 rfl (tmP rfl rfl) (cellB hS.ok 0 rfl (getm (by omega)))) ?_
        refine wl_gv (want_y rfl rfl rfl rfl (by rw [hg1_12]; rfl)) (x_eql (tmI rfl rfl) (tmI rfl rfl)) ?_
        refine wl_v (x_pickT (tmB rfl rfl) hg1_12 (tmB rfl rfl)) ?_
        refine wl_v (x_move (tmB rfl rfl)) ?_
        refine gs_wl (tm (t := 24) rfl) (fun hg1_19 => ?_) (fun hg1_19 => ?_)
        · have hg1_19' := hg1_19; (try simp only [nrm] at hg1_19'); try (exfalso; first | with_reducible exact absurd hg1_19 Bool.false_ne_true | with_reducible exact absurd hg1_19.symm Bool.false_ne_true | omega | (simp at hg1_19; done))
          all_goals
           refine wl_gv (want_y rfl rfl rfl rfl (by rw [hg1_19]; rfl)) (x_fa 3 Try.underlying88 rfl rfl ts_50 (tmP rfl rfl)) ?_
           first
            | refine wl_gv (want_y rfl rfl rfl rfl (by rw [hg1_19]; rfl)) (x_load Try.underlying50 rfl (tmP rfl rfl) (cellB hS.ok 1 rfl rfl)) ?_
            | refine wl_gv (want_y rfl rfl rfl rfl (by rw [hg1_19]; rfl)) (x_load Try.underlying50 rfl (tmP rfl rfl) (cellB hS.ok 1 rfl (getm (by omega)))) ?_
           refine wl_gv (want_y rfl rfl rfl rfl (by rw [hg1_19]; rfl)) (x_fa 3 Try.underlying88 rfl rfl ts_50 (tmP rfl rfl)) ?_
           first
            | refine wl_gv (want_y rfl rfl rfl rfl (by rw [hg1_19]; rfl)) (x_load Try.underlying50 rfl (tmP rfl rfl) (cellB hS.ok 0 rfl rfl)) ?_
            | refine wl_gv (want_y rfl rfl rfl rfl (by rw [hg1_19]; rfl)) (x_load Try.underlying50 rfl (tmP rfl rfl) (cellB hS.ok 0 rfl (getm (by omega)))) ?_
           refine wl_gv (want_y rfl rfl rfl rfl (by rw [hg1_19]; rfl)) (x_eql (tmI rfl rfl) (tmI rfl rfl)) ?_
           refine wl_v (x_pickT (tmB rfl rfl) hg1_19 (tmB rfl rfl)) ?_
           refine wl_v (x_move (tmB rfl rfl)) ?_
           refine gs_wl (tm (t := 31) rfl) (fun hg1_26 => ?_) (fun hg1_26 => ?_)
           · have hg1_26' := hg1_26; (try simp only [nrm] at hg1_26'); try (exfalso; first | with_reducible exact absurd hg1_26 Bool.false_ne_true | with_reducible exact absurd hg1_26.symm Bool.false_ne_true | omega | (simp at hg1_26; done))
             all_goals
              refine wl_gv (want_y rfl rfl rfl rfl (by rw [hg1_26]; rfl)) (x_fa 4 Try.underlying88 rfl rfl ts_22 (tmP rfl rfl)) ?_
              first
               | refine wl_gv (want_y rfl rfl rfl rfl (by rw [hg1_26]; rfl)) (x_load Try.underlying22 rfl (tmP rfl rfl) (cellB hS.ok 1 rfl rfl)) ?_
               | refine wl_gv (want_y rfl rfl rfl rfl (by rw [hg1_26]; rfl)) (x_load Try.underlying22 rfl (tmP rfl rfl) (cellB hS.ok 1 rfl (getm (by omega)))) ?_
              first
               | refine wl_gv (want_y rfl rfl rfl rfl (by rw [hg1_26]; rfl)) (x_bstr Try.underlying22 Try.underlying5 Try.underlying9 (tmS rfl rfl) (viewV hS.ok 0 rfl) (by first | assumption | exact Bytes.nil | (repeat' (first | assumption | exact Bytes.nil | exact be_bytes _ _ | apply Bytes.append | apply Bytes.take | apply Bytes.drop | apply Bytes.replicate))) (by first | rfl | assumption | (simp; done) | (simp; omega) | omega)) ?_
               | refine wl_gv (want_y rfl rfl rfl rfl (by rw [hg1_26]; rfl)) (x_bstr Try.underlying22 Try.underlying5 Try.underlying9 (tmS rfl rfl) (viewR hS.ok 0 rfl) (by first | assumption | exact Bytes.nil | (repeat' (first | assumption | exact Bytes.nil | exact be_bytes _ _ | apply Bytes.append | apply Bytes.take | apply Bytes.drop | apply Bytes.replicate))) (by first | rfl | assumption | (simp; done) | (simp; omega) | omega)) ?_
               | refine wl_gv (want_y rfl rfl rfl rfl (by rw [hg1_26]; rfl)) (x_bstr Try.underlying22 Try.underlying5 Try.underlying9 (tmS rfl rfl) (viewB hS.ok 0 rfl) (by first | assumption | exact Bytes.nil | (repeat' (first | assumption | exact Bytes.nil | exact be_bytes _ _ | apply Bytes.append | apply Bytes.take | apply Bytes.drop | apply Bytes.replicate))) (by first | rfl | assumption | (simp; done) | (simp; omega) | omega)) ?_
               | refine wl_gv (want_y rfl rfl rfl rfl (by rw [hg1_26]; rfl)) (x_bstr Try.underlying22 Try.underlying5 Try.underlying9 (tmS rfl rfl) (viewV hS.ok 1 rfl) (by first | assumption | exact Bytes.nil | (repeat' (first | assumption | exact Bytes.nil | exact be_bytes _ _ | apply Bytes.append | apply Bytes.take | apply Bytes.drop | apply Bytes.replicate))) (by first | rfl | assumption | (simp; done) | (simp; omega) | omega)) ?_
               | refine wl_gv (want_y rfl rfl rfl rfl (by rw [hg1_26]; rfl)) (x_bstr Try.underlying22 Try.underlying5 Try.underlying9 (tmS rfl rfl) (viewR hS.ok 1 rfl) (by first | assumption | exact Bytes.nil | (repeat' (first | assumption | exact Bytes.nil | exact be_bytes _ _ | apply Bytes.append | apply Bytes.take | apply Bytes.drop | apply Bytes.replicate))) (by first | rfl | assumption | (simp; done) | (simp; omega) | omega)) ?_
               | refine wl_gv (want_y rfl rfl rfl rfl (by rw [hg1_26]; rfl)) (x_bstr Try.underlying22 Try.underlying5 Try.underlying9 (tmS rfl rfl) (viewB hS.ok 1 rfl) (by first | assumption | exact Bytes.nil | (repeat' (first | assumption | exact Bytes.nil | exact be_bytes _ _ | apply Bytes.append | apply Bytes.take | apply Bytes.drop | apply Bytes.replicate))) (by first | rfl | assumption | (simp; done) | (simp; omega) | omega)) ?_
               | refine wl_gv (want_y rfl rfl rfl rfl (by rw [hg1_26]; rfl)) (x_bstr Try.underlying22 Try.underlying5 Try.underlying9 (tmS rfl rfl) (viewV hS.ok 2 rfl) (by first | assumption | exact Bytes.nil | (repeat' (first | assumption | exact Bytes.nil | exact be_bytes _ _ | apply Bytes.append | apply Bytes.take | apply Bytes.drop | apply Bytes.replicate))) (by first | rfl | assumption | (simp; done) | (simp; omega) | omega)) ?_
               | refine wl_gv (want_y rfl rfl rfl rfl (by rw [hg1_26]; rfl)) (x_bstr Try.underlying22 Try.underlying5 Try.underlying9 (tmS rfl rfl) (viewR hS.ok 2 rfl) (by first | assumption | exact Bytes.nil | (repeat' (first | assumption | exact Bytes.nil | exact be_bytes _ _ | apply Bytes.append | apply Bytes.take | apply Bytes.drop | apply Bytes.replicate))) (by first | rfl | assumption | (simp; done) | (simp; omega) | omega)) ?_
               | refine wl_gv (want_y rfl rfl rfl rfl (by rw [hg1_26]; rfl)) (x_bstr Try.underlying22 Try.underlying5 Try.underlying9 (tmS rfl rfl) (viewB hS.ok 2 rfl) (by first | assumption | exact Bytes.nil | (repeat' (first | assumption | exact Bytes.nil | exact be_bytes _ _ | apply Bytes.append | apply Bytes.take | apply Bytes.drop | apply Bytes.replicate))) (by first | rfl | assumption | (simp; done) | (simp; omega) | omega)) ?_
               | refine wl_gv (want_y rfl rfl rfl rfl (by rw [hg1_26]; rfl)) (x_bstr Try.underlying22 Try.underlying5 Try.underlying9 (tmS rfl rfl) (viewV hS.ok 3 rfl) (by first | assumption | exact Bytes.nil | (repeat' (first | assumption | exact Bytes.nil | exact be_bytes _ _ | apply Bytes.append | apply Bytes.take | apply Bytes.drop | apply Bytes.replicate))) (by first | rfl | assumption | (simp; done) | (simp; omega) | omega)) ?_
               | refine wl_gv (want_y rfl rfl rfl rfl (by rw [hg1_26]; rfl)) (x_bstr Try.underlying22 Try.underlying5 Try.underlying9 (tmS rfl rfl) (viewR hS.ok 3 rfl) (by first | assumption | exact Bytes.nil | (repeat' (first | assumption | exact Bytes.nil | exact be_bytes _ _ | apply Bytes.append | apply Bytes.take | apply Bytes.drop | apply Bytes.replicate))) (by first | rfl | assumption | (simp; done) | (simp; omega) | omega)) ?_
               | refine wl_gv (want_y rfl rfl rfl rfl (by rw [hg1_26]; rfl)) (x_bstr Try.underlying22 Try.underlying5 Try.underlying9 (tmS rfl rfl) (viewB hS.ok 3 rfl) (by first | assumption | exact Bytes.nil | (repeat' (first | assumption | exact Bytes.nil | exact be_bytes _ _ | apply Bytes.append | apply Bytes.take | apply Bytes.drop | apply Bytes.replicate))) (by first | rfl | assumption | (simp; done) | (simp; omega) | omega)) ?_
               | refine wl_gv (want_y rfl rfl rfl rfl (by rw [hg1_26]; rfl)) (x_bstr Try.underlying22 Try.underlying5 Try.underlying9 (tmS rfl rfl) View.nil_ (by first | assumption | exact Bytes.nil | (repeat' (first | assumption | exact Bytes.nil | exact be_bytes _ _ | apply Bytes.append | apply Bytes.take | apply Bytes.drop | apply Bytes.replicate))) (by first | rfl | assumption | (simp; done) | (simp; omega) | omega)) ?_
              refine wl_gv (want_y rfl rfl rfl rfl (by rw [hg1_26]; rfl)) (x_fa 4 Try.underlying88 rfl rfl ts_22 (tmP rfl rfl)) ?_
              first
               | refine wl_gv (want_y rfl rfl rfl rfl (by rw [hg1_26]; rfl)) (x_load Try.underlying22 rfl (tmP rfl rfl) (cellB hS.ok 0 rfl rfl)) ?_
               | refine wl_gv (want_y rfl rfl rfl rfl (by rw [hg1_26]; rfl)) (x_load Try.underlying22 rfl (tmP rfl rfl) (cellB hS.ok 0 rfl (getm (by omega)))) ?_
              first
               | refine wl_gv (want_y rfl rfl rfl rfl (by rw [hg1_26]; rfl)) (x_bstr Try.underlying22 Try.underlying5 Try.underlying9 (tmS rfl rfl) (viewV hS.ok 0 rfl) (by first | assumption | exact Bytes.nil | (repeat' (first | assumption | exact Bytes.nil | exact be_bytes _ _ | apply Bytes.append | apply Bytes.take | apply Bytes.drop | apply Bytes.replicate))) (by first | rfl | assumption | (simp; done) | (simp; omega) | omega)) ?_
               | refine wl_gv (want_y rfl rfl rfl rfl (by rw [hg1_26]; rfl)) (x_bstr Try.underlying22 Try.underlying5 Try.underlying9 (tmS rfl rfl) (viewR hS.ok 0 rfl) (by first | assumption | exact Bytes.nil | (repeat' (first | assumption | exact Bytes.nil | exact be_bytes _ _ | apply Bytes.append | apply Bytes.take | apply Bytes.drop | apply Bytes.replicate))) (by first | rfl | assumption | (simp; done) | (simp; omega) | omega)) ?_
               | refine wl_gv (want_y rfl rfl rfl rfl (by rw [hg1_26]; rfl)) (x_bstr Try.underlying22 Try.underlying5 Try.underlying9 (tmS rfl rfl) (viewB hS.ok 0 rfl) (by first | assumption | exact Bytes.nil | (repeat' (first | assumption | exact Bytes.nil | exact be_bytes _ _ | apply Bytes.append | apply Bytes.take | apply Bytes.drop | apply Bytes.replicate))) (by first | rfl | assumption | (simp; done) | (simp; omega) | omega)) ?_
               | refine wl_gv (want_y rfl rfl rfl rfl (by rw [hg1_26]; rfl)) (x_bstr Try.underlying22 Try.underlying5 Try.underlying9 (tmS rfl rfl) (viewV hS.ok 1 rfl) (by first | assumption | exact Bytes.nil | (repeat' (first | assumption | exact Bytes.nil | exact be_bytes _ _ | apply Bytes.append | apply Bytes.take | apply Bytes.drop | apply Bytes.replicate))) (by first | rfl | assumption | (simp; done) | (simp; omega) | omega)) ?_
               | refine wl_gv (want_y rfl rfl rfl rfl (by rw [hg1_26]; rfl)) (x_bstr Try.underlying22 Try.underlying5 Try.underlying9 (tmS rfl rfl) (viewR hS.ok 1 rfl) (by first | assumption | exact Bytes.nil | (repeat' (first | assumption | exact Bytes.nil | exact be_bytes _ _ | apply Bytes.append | apply Bytes.take | apply Bytes.drop | apply Bytes.replicate))) (by first | rfl | assumption | (simp; done) | (simp; omega) | omega)) ?_
               | refine wl_gv (want_y rfl rfl rfl rfl (by rw [hg1_26]; rfl)) (x_bstr Try.underlying22 Try.underlying5 Try.underlying9 (tmS rfl rfl) (viewB hS.ok 1 rfl) (by first | assumption | exact Bytes.nil | (repeat' (first | assumption | exact Bytes.nil | exact be_bytes _ _ | apply Bytes.append | apply Bytes.take | apply Bytes.drop | apply Bytes.replicate))) (by first | rfl | assumption | (simp; done) | (simp; omega) | omega)) ?_
               | refine wl_gv (want_y rfl rfl rfl rfl (by rw [hg1_26]; rfl)) (x_bstr Try.underlying22 Try.underlying5 Try.underlying9 (tmS rfl rfl) (viewV hS.ok 2 rfl) (by first | assumption | exact Bytes.nil | (repeat' (first | assumption | exact Bytes.nil | exact be_bytes _ _ | apply Bytes.append | apply Bytes.take | apply Bytes.drop | apply Bytes.replicate))) (by first | rfl | assumption | (simp; done) | (simp; omega) | omega)) ?_
               | refine wl_gv (want_y rfl rfl rfl rfl (by rw [hg1_26]; rfl)) (x_bstr Try.underlying22 Try.underlying5 Try.underlying9 (tmS rfl rfl) (viewR hS.ok 2 rfl) (by first | assumption | exact Bytes.nil | (repeat' (first | assumption | exact Bytes.nil | exact be_bytes _ _ | apply Bytes.append | apply Bytes.take | apply Bytes.drop | apply Bytes.replicate))) (by first | rfl | assumption | (simp; done) | (simp; omega) | omega)) ?_
               | refine wl_gv (want_y rfl rfl rfl rfl (by rw [hg1_26]; rfl)) (x_bstr Try.underlying22 Try.underlying5 Try.underlying9 (tmS rfl rfl) (viewB hS.ok 2 rfl) (by first | assumption | exact Bytes.nil | (repeat' (first | assumption | exact Bytes.nil | exact be_bytes _ _ | apply Bytes.append | apply Bytes.take | apply Bytes.drop | apply Bytes.replicate))) (by first | rfl | assumption | (simp; done) | (simp; omega) | omega)) ?_
               | refine wl_gv (want_y rfl rfl rfl rfl (by rw [hg1_26]; rfl)) (x_bstr Try.underlying22 Try.underlying5 Try.underlying9 (tmS rfl rfl) (viewV hS.ok 3 rfl) (by first | assumption | exact Bytes.nil | (repeat' (first | assumption | exact Bytes.nil | exact be_bytes _ _ | apply Bytes.append | apply Bytes.take | apply Bytes.drop | apply Bytes.replicate))) (by first | rfl | assumption | (simp; done) | (simp; omega) | omega)) ?_
               | refine wl_gv (want_y rfl rfl rfl rfl (by rw [hg1_26]; rfl)) (x_bstr Try.underlying22 Try.underlying5 Try.underlying9 (tmS rfl rfl) (viewR hS.ok 3 rfl) (by first | assumption | exact Bytes.nil | (repeat' (first | assumption | exact Bytes.nil | exact be_bytes _ _ | apply Bytes.append | apply Bytes.take | apply Bytes.drop | apply Bytes.replicate))) (by first | rfl | assumption | (simp; done) | (simp; omega) | omega)) ?_
               | refine wl_gv (want_y rfl rfl rfl rfl (by rw [hg1_26]; rfl)) (x_bstr Try.underlying22 Try.underlying5 Try.underlying9 (tmS rfl rfl) (viewB hS.ok 3 rfl) (by first | assumption | exact Bytes.nil | (repeat' (first | assumption | exact Bytes.nil | exact be_bytes _ _ | apply Bytes.append | apply Bytes.take | apply Bytes.drop | apply Bytes.replicate))) (by first | rfl | assumption | (simp; done) | (simp; omega) | omega)) ?_
               | refine wl_gv (want_y rfl rfl rfl rfl (by rw [hg1_26]; rfl)) (x_bstr Try.underlying22 Try.underlying5 Try.underlying9 (tmS rfl rfl) View.nil_ (by first | assumption | exact Bytes.nil | (repeat' (first | assumption | exact Bytes.nil | exact be_bytes _ _ | apply Bytes.append | apply Bytes.take | apply Bytes.drop | apply Bytes.replicate))) (by first | rfl | assumption | (simp; done) | (simp; omega) | omega)) ?_
              refine wl_gv (want_y rfl rfl rfl rfl (by rw [hg1_26]; rfl)) (x_Geql (tmG rfl rfl) (tmG rfl rfl) (by first | assumption | exact Bytes.nil | (repeat' (first | assumption | exact Bytes.nil | exact be_bytes _ _ | apply Bytes.append | apply Bytes.take | apply Bytes.drop | apply Bytes.replicate))) (by first | assumption | exact Bytes.nil | (repeat' (first | assumption | exact Bytes.nil | exact be_bytes _ _ | apply Bytes.append | apply Bytes.take | apply Bytes.drop | apply Bytes.replicate)))) ?_
              refine wl_v (x_pickT (tmB rfl rfl) hg1_26 (tmB rfl rfl)) ?_
              refine wl_v (x_assign (tmB rfl rfl)) ?_
              refine wl_nil ?_
              refine then_n (hK2 _ _ ?_); clear hK2 K2
              refine wp_ret ?_
              refine ret1 rfl (.tmp rfl (show _ = Value.bool _ from rfl)) ?_
              exact ⟨by simp [*], hS.kp⟩
           have hg1_26' := hg1_26; (try simp only [nrm] at hg1_26'); try (exfalso; first | with_reducible exact absurd hg1_26 Bool.false_ne_true | with_reducible exact absurd hg1_26.symm Bool.false_ne_true | omega | (simp at hg1_26; done))
           all_goals
            refine wl_s rfl (want_n rfl rfl rfl rfl (by rw [hg1_26]; rfl)) ?_
            refine wl_s rfl (want_n rfl rfl rfl rfl (by rw [hg1_26]; rfl)) ?_
            refine wl_s rfl (want_n rfl rfl rfl rfl (by rw [hg1_26]; rfl)) ?_
            refine wl_s rfl (want_n rfl rfl rfl rfl (by rw [hg1_26]; rfl)) ?_
            refine wl_s rfl (want_n rfl rfl rfl rfl (by rw [hg1_26]; rfl)) ?_
            refine wl_s rfl (want_n rfl rfl rfl rfl (by rw [hg1_26]; rfl)) ?_
            refine wl_s rfl (want_n rfl rfl rfl rfl (by rw [hg1_26]; rfl)) ?_
            refine wl_v (x_pickF (tmB rfl rfl) hg1_26 ev_c) ?_
            refine wl_v (x_assign (tmB rfl rfl)) ?_
            refine wl_nil ?_
            refine then_n (hK2 _ _ ?_); clear hK2 K2
            refine wp_ret ?_
            refine ret1 rfl (.tmp rfl (show _ = Value.bool _ from rfl)) ?_
            exact ⟨by simp [*], hS.kp⟩
        have hg1_19' := hg1_19; (try simp only [nrm] at hg1_19'); try (exfalso; first | with_reducible exact absurd hg1_19 Bool.false_ne_true | with_reducible exact absurd hg1_19.symm Bool.false_ne_true | omega | (simp at hg1_19; done))
        all_goals
         refine wl_s rfl (want_n rfl rfl rfl rfl (by rw [hg1_19]; rfl)) ?_
         refine wl_s rfl (want_n rfl rfl rfl rfl (by rw [hg1_19]; rfl)) ?_
         refine wl_s rfl (want_n rfl rfl rfl rfl (by rw [hg1_19]; rfl)) ?_
         refine wl_s rfl (want_n rfl rfl rfl rfl (by rw [hg1_19]; rfl)) ?_
         refine wl_s rfl (want_n rfl rfl rfl rfl (by rw [hg1_19]; rfl)) ?_
         refine wl_v (x_pickF (tmB rfl rfl) hg1_19 ev_c) ?_
         refine wl_v (x_move (tmB rfl rfl)) ?_
         refine wl_s rfl (want_n rfl rfl rfl rfl rfl) ?_
         refine wl_s rfl (want_n rfl rfl rfl rfl rfl) ?_
         refine wl_s rfl (want_n rfl rfl rfl rfl rfl) ?_
         refine wl_s rfl (want_n rfl rfl rfl rfl rfl) ?_
         refine wl_s rfl (want_n rfl rfl rfl rfl rfl) ?_
         refine wl_s rfl (want_n rfl rfl rfl rfl rfl) ?_
         refine wl_s rfl (want_n rfl rfl rfl rfl rfl) ?_
         refine wl_v (x_pickF (tmB rfl rfl) rfl ev_c) ?_
         refine wl_v (x_assign (tmB rfl rfl)) ?_
         refine wl_nil ?_
         refine then_n (hK2 _ _ ?_); clear hK2 K2
         refine wp_ret ?_
         refine ret1 rfl (.tmp rfl (show _ = Value.bool _ from rfl)) ?_
         exact ⟨by simp [*], hS.kp⟩
     have hg1_12' := hg1_12; (try simp only [nrm] at hg1_12'); try (exfalso; first | with_reducible exact absurd hg1_12 Bool.false_ne_true | with_reducible exact absurd hg1_12.symm Bool.false_ne_true | omega | (simp at hg1_12; done))
     all_goals
      refine wl_s rfl (want_n rfl rfl rfl rfl (by rw [hg1_12]; rfl)) ?_
      refine wl_s rfl (want_n rfl rfl rfl rfl (by rw [hg1_12]; rfl)) ?_
      refine wl_s rfl (want_n rfl rfl rfl rfl (by rw [hg1_12]; rfl)) ?_
      refine wl_s rfl (want_n rfl rfl rfl rfl (by rw [hg1_12]; rfl)) ?_
      refine wl_s rfl (want_n rfl rfl rfl rfl (by rw [hg1_12]; rfl)) ?_
      refine wl_v (x_pickF (tmB rfl rfl) hg1_12 ev_c) ?_
      refine wl_v (x_move (tmB rfl rfl)) ?_
      refine wl_s rfl (want_n rfl rfl rfl rfl rfl) ?_
      refine wl_s rfl (want_n rfl rfl rfl rfl rfl) ?_
      refine wl_s rfl (want_n rfl rfl rfl rfl rfl) ?_
      refine wl_s rfl (want_n rfl rfl rfl rfl rfl) ?_
      refine wl_s rfl (want_n rfl rfl rfl rfl rfl) ?_
      refine wl_v (x_pickF (tmB rfl rfl) rfl ev_c) ?_
      refine wl_v (x_move (tmB rfl rfl)) ?_
      refine wl_s rfl (want_n rfl rfl rfl rfl rfl) ?_
      refine wl_s rfl (want_n rfl rfl rfl rfl rfl) ?_
      refine wl_s rfl (want_n rfl rfl rfl rfl rfl) ?_
      refine wl_s rfl (want_n rfl rfl rfl rfl rfl) ?_
      refine wl_s rfl (want_n rfl rfl rfl rfl rfl) ?_
      refine wl_s rfl (want_n rfl rfl rfl rfl rfl) ?_
      refine wl_s rfl (want_n rfl rfl rfl rfl rfl) ?_
      refine wl_v (x_pickF (tmB rfl rfl) rfl ev_c) ?_
      refine wl_v (x_assign (tmB rfl rfl)) ?_
      refine wl_nil ?_
      refine then_n (hK2 _ _ ?_); clear hK2 K2
      refine wp_ret ?_
      refine ret1 rfl (.tmp rfl (show _ = Value.bool _ from rfl)) ?_
      exact ⟨by simp [*], hS.kp⟩
  have hg1_5' := hg1_5; (try simp only [nrm] at hg1_5'); try (exfalso; first | with_reducible exact absurd hg1_5 Bool.false_ne_true | with_reducible exact absurd hg1_5.symm Bool.false_ne_true | omega | (simp at hg1_5; done))
  all_goals
   refine wl_s rfl (want_n rfl rfl rfl rfl (by rw [hg1_5]; rfl)) ?_
   refine wl_s rfl (want_n rfl rfl rfl rfl (by rw [hg1_5]; rfl)) ?_
   refine wl_s rfl (want_n rfl rfl rfl rfl (by rw [hg1_5]; rfl)) ?_
   refine wl_s rfl (want_n rfl rfl rfl rfl (by rw [hg1_5]; rfl)) ?_
   refine wl_s rfl (want_n rfl rfl rfl rfl (by rw [hg1_5]; rfl)) ?_
   refine wl_v (x_pickF (tmB rfl rfl) hg1_5 ev_c) ?_
   refine wl_v (x_move (tmB rfl rfl)) ?_
   refine wl_s rfl (want_n rfl rfl rfl rfl rfl) ?_
   refine wl_s rfl (want_n rfl rfl rfl rfl rfl) ?_
   refine wl_s rfl (want_n rfl rfl rfl rfl rfl) ?_
   refine wl_s rfl (want_n rfl rfl rfl rfl rfl) ?_
   refine wl_s rfl (want_n rfl rfl rfl rfl rfl) ?_
   refine wl_v (x_pickF (tmB rfl rfl) rfl ev_c) ?_
   refine wl_v (x_move (tmB rfl rfl)) ?_
   refine wl_s rfl (want_n rfl rfl rfl rfl rfl) ?_
   refine wl_s rfl (want_n rfl rfl rfl rfl rfl) ?_
   refine wl_s rfl (want_n rfl rfl rfl rfl rfl) ?_
   refine wl_s rfl (want_n rfl rfl rfl rfl rfl) ?_
   refine wl_s rfl (want_n rfl rfl rfl rfl rfl) ?_
   refine wl_v (x_pickF (tmB rfl rfl) rfl ev_c) ?_
   refine wl_v (x_move (tmB rfl rfl)) ?_
   refine wl_s rfl (want_n rfl rfl rfl rfl rfl) ?_
   refine wl_s rfl (want_n rfl rfl rfl rfl rfl) ?_
   refine wl_s rfl (want_n rfl rfl rfl rfl rfl) ?_
   refine wl_s rfl (want_n rfl rfl rfl rfl rfl) ?_
   refine wl_s rfl (want_n rfl rfl rfl rfl rfl) ?_
   refine wl_s rfl (want_n rfl rfl rfl rfl rfl) ?_
   refine wl_s rfl (want_n rfl rfl rfl rfl rfl) ?_
   refine wl_v (x_pickF (tmB rfl rfl) rfl ev_c) ?_
   refine wl_v (x_assign (tmB rfl rfl)) ?_
   refine wl_nil ?_
   refine then_n (hK2 _ _ ?_); clear hK2 K2
   refine wp_ret ?_
   refine ret1 rfl (.tmp rfl (show _ = Value.bool _ from rfl)) ?_
   exact ⟨by simp [*], hS.kp⟩

set_option maxRecDepth 100000 in
set_option maxHeartbeats 4000000 in
theorem of08_c (t c s d : Nat) (A : Option Addr) (n k : Nat) (w0 : World) :
    Calls Try.prog 64 #[.agg (msgV t c s d A n k).toArray] w0 fun e w' => e = .returned (.agg (msgV t c s d A n k).toArray) ∧ Kp [] w0 w' := by
  have hS := St.sv w0
  refine ent (n := 14) Try.func64 rfl rfl ?_
  refine wp_seq_k ?_; intro K1 hK1
  refine wlit ?_
  refine wl_e rfl ?_; intro K hK
  refine ow_box hS (tmA rfl rfl) rfl ?_
  clear hS; intro g0_0 w hg0_0 hS
  refine hK _ _ ?_; clear hK K
  refine wl_e rfl ?_; intro K hK
  refine ow_alloc hS tz_88 rfl ?_
  clear hS; intro g0_1 w hg0_1 hS
  refine hK _ _ ?_; clear hK K
  refine wl_nil ?_
  refine then_n (hK1 _ _ ?_); clear hK1 K1
  refine wp_seq_k ?_; intro K2 hK2
  refine wlit ?_
  refine wl_v (x_fa 0 Try.underlying85 rfl rfl ts_5 (tmP rfl rfl)) ?_
  first
   | refine wl_v (x_load Try.underlying5 rfl (tmP rfl rfl) (cellB hS.ok 1 rfl rfl)) ?_
   | refine wl_v (x_load Try.underlying5 rfl (tmP rfl rfl) (cellB hS.ok 1 rfl (getm (by omega)))) ?_
  refine wl_v (x_fa 1 Try.underlying85 rfl rfl ts_5 (tmP rfl rfl)) ?_
  first
   | refine wl_v (x_load Try.underlying5 rfl (tmP rfl rfl) (cellB hS.ok 1 rfl rfl)) ?_
   | refine wl_v (x_load Try.underlying5 rfl (tmP rfl rfl) (cellB hS.ok 1 rfl (getm (by omega)))) ?_
  refine wl_v (x_fa 2 Try.underlying85 rfl rfl ts_24 (tmP rfl rfl)) ?_
  first
   | refine wl_v (x_load Try.underlying24 rfl (tmP rfl rfl) (cellB hS.ok 1 rfl rfl)) ?_
   | refine wl_v (x_load Try.underlying24 rfl (tmP rfl rfl) (cellB hS.ok 1 rfl (getm (by omega)))) ?_
  refine wl_v (x_fa 3 Try.underlying85 rfl rfl ts_50 (tmP rfl rfl)) ?_
  first
   | refine wl_v (x_load Try.underlying50 rfl (tmP rfl rfl) (cellB hS.ok 1 rfl rfl)) ?_
   | refine wl_v (x_load Try.underlying50 rfl (tmP rfl rfl) (cellB hS.ok 1 rfl (getm (by omega)))) ?_
  refine wl_v (x_fa 4 Try.underlying85 rfl rfl ts_22 (tmP rfl rfl)) ?_
  first
   | refine wl_v (x_load Try.underlying22 rfl (tmP rfl rfl) (cellB hS.ok 1 rfl rfl)) ?_
   | refine wl_v (x_load Try.underlying22 rfl (tmP rfl rfl) (cellB hS.ok 1 rfl (getm (by omega)))) ?_
  refine wl_v (x_build (bc_take (tmI rfl rfl) <| bc_take (tmI rfl rfl) <| bc_take (tmI rfl rfl) <| bc_take (tmI rfl rfl) <| bc_take (tmS rfl rfl) <| bc_nil) (by kernel_rfl)) ?_
  refine wl_e rfl ?_; intro K hK
  refine ow_storeA hS 0 rfl ts_88 (tmP rfl rfl) (tmA rfl rfl) rfl rfl rfl ?_
  clear hS; intro w hS
  refine hK _ _ ?_; clear hK K
  refine wl_nil ?_
  refine then_n (hK2 _ _ ?_); clear hK2 K2
  refine wp_ret ?_
  refine ret1 rfl (.cell rfl rfl (load_rowB (cs := [_, _, _, _, _]) hS.ok 0 rfl Try.underlying88 rfl ts_88 rfl)) ?_
  exact ⟨rfl, hS.kp⟩

set_option maxRecDepth 100000 in
set_option maxHeartbeats 4000000 in
theorem law08_awake_c (w0 : World) :
    Calls Try.prog 60 #[] w0 fun e w' => e = .returned (.bool true) ∧ Kp [] w0 w' := by
  have hS := St.sv w0
  refine ent (n := 20) Try.func60 rfl rfl ?_
  refine wp_seq_k ?_; intro K1 hK1
  refine wlit ?_
  refine wl_v (x_assign ev_c) ?_
  refine wl_nil ?_
  refine then_n (hK1 _ _ ?_); clear hK1 K1
  refine wp_seq_k ?_; intro K2 hK2
  refine wlit ?_
  refine wl_e rfl ?_; intro K hK
  refine ow_build hS Try.underlying22 tz_5 (bc_take (ev_cN 7) <| bc_take (ev_cN 8) <| bc_take (ev_cN 9) <| bc_nil) rfl rfl (by kernel_rfl) ?_
  clear hS; intro g1_0 w hg1_0 hS
  refine hK _ _ ?_; clear hK K
  refine wl_e rfl ?_; intro K hK
  refine ow_call Try.func126 rfl rfl (evs_cons (tmS rfl rfl) <| evs_cons (ev_cN 1400) <| evs_cons ev_c <| evs_nil) (toobig_c 3 _ _ [7, 8, 9] 1400 false _ (viewB hS.ok 0 rfl) rfl (by omega) (by omega) (by omega)) ?_
  rintro e w ⟨A', k, c', rfl, rfl, hn, hk⟩
  refine ⟨_, rfl, ?_⟩
  replace hS := hS.add hk hn -- +1
  clear hn hk
  refine hK _ _ ?_; clear hK K
  refine wl_e rfl ?_; intro K hK
  refine ow_call Try.func67 rfl rfl (evs_cons (tmA rfl rfl) <| evs_nil) (icmp_bytes_c 3 4 0 1400 A' 3 c' [7, 8, 9] _ (viewR hS.ok 0 rfl) rfl (by omega) (by omega) (by omega) (by omega) (by omega)) ?_
  rintro e w ⟨A2, m, c2, rfl, rfl, hn, hk⟩
  refine ⟨_, rfl, ?_⟩
  replace hS := hS.add hk hn -- +1
  obtain ⟨g2, rfl⟩ := row_some (hS.rowOk 0 rfl) (by omega)
  clear hn hk
  refine hK _ _ ?_; clear hK K
  refine wl_v (x_assign (tmS rfl rfl)) ?_
  refine wl_nil ?_
  refine then_n (hK2 _ _ ?_); clear hK2 K2
  refine wp_seq_k ?_; intro K3 hK3
  refine wlit ?_
  refine wl_v (x_move (tmS rfl rfl)) ?_
  refine wl_v (x_len Try.underlying22 (tmS rfl rfl)) ?_
  refine wl_v (x_eql (tmI rfl rfl) (ev_cN 11)) ?_
  refine wl_v (x_move (tmB rfl rfl)) ?_
  refine gs_wls (tm (t := 8) rfl) (fun hg2_3 => ?_) (fun hg2_3 => ?_)
  · exfalso
    exact absurd hg2_3 (by decide)
  have hg2_3' := hg2_3; (try simp only [nrm] at hg2_3'); try (exfalso; first | with_reducible exact absurd hg2_3 Bool.false_ne_true | with_reducible exact absurd hg2_3.symm Bool.false_ne_true | omega | (simp at hg2_3; done))
  all_goals
   refine wl_gv (want_y rfl rfl rfl rfl (by rw [hg2_3]; rfl)) (x_move (tmS rfl rfl)) ?_
   refine wl_gv (want_y rfl rfl rfl rfl (by rw [hg2_3]; rfl)) (x_ixs1 Try.underlying22 ts_5 (tmS rfl rfl) (ev_cN 0) (by omega)) ?_
   first
    | refine wl_gv (want_y rfl rfl rfl rfl (by rw [hg2_3]; rfl)) (x_load Try.underlying5 rfl (tmP rfl rfl) (cellB hS.ok 0 rfl rfl)) ?_
    | refine wl_gv (want_y rfl rfl rfl rfl (by rw [hg2_3]; rfl)) (x_load Try.underlying5 rfl (tmP rfl rfl) (cellB hS.ok 1 rfl rfl)) ?_
    | refine wl_gv (want_y rfl rfl rfl rfl (by rw [hg2_3]; rfl)) (x_load Try.underlying5 rfl (tmP rfl rfl) (cellB hS.ok 2 rfl rfl)) ?_
    | refine wl_gv (want_y rfl rfl rfl rfl (by rw [hg2_3]; rfl)) (x_load Try.underlying5 rfl (tmP rfl rfl) (cellV hS.ok 0 rfl rfl)) ?_
    | refine wl_gv (want_y rfl rfl rfl rfl (by rw [hg2_3]; rfl)) (x_load Try.underlying5 rfl (tmP rfl rfl) (cellV hS.ok 0 rfl (getm (by omega)))) ?_
    | refine wl_gv (want_y rfl rfl rfl rfl (by rw [hg2_3]; rfl)) (x_load Try.underlying5 rfl (tmP rfl rfl) (cellVs hS.ok 0 rfl (fun _ => rfl) rfl (by omega) rfl)) ?_
    | refine wl_gv (want_y rfl rfl rfl rfl (by rw [hg2_3]; rfl)) (x_load Try.underlying5 rfl (tmP rfl rfl) (cellR hS.ok 0 rfl rfl)) ?_
    | refine wl_gv (want_y rfl rfl rfl rfl (by rw [hg2_3]; rfl)) (x_load Try.underlying5 rfl (tmP rfl rfl) (cellR hS.ok 0 rfl (getm (by omega)))) ?_
    | refine wl_gv (want_y rfl rfl rfl rfl (by rw [hg2_3]; rfl)) (x_load Try.underlying5 rfl (tmP rfl rfl) (cellRs hS.ok 0 rfl (fun _ => rfl) rfl (by omega) rfl)) ?_
    | refine wl_gv (want_y rfl rfl rfl rfl (by rw [hg2_3]; rfl)) (x_load Try.underlying5 rfl (tmP rfl rfl) (cellV hS.ok 1 rfl rfl)) ?_
    | refine wl_gv (want_y rfl rfl rfl rfl (by rw [hg2_3]; rfl)) (x_load Try.underlying5 rfl (tmP rfl rfl) (cellV hS.ok 1 rfl (getm (by omega)))) ?_
    | refine wl_gv (want_y rfl rfl rfl rfl (by rw [hg2_3]; rfl)) (x_load Try.underlying5 rfl (tmP rfl rfl) (cellVs hS.ok 1 rfl (fun _ => rfl) rfl (by omega) rfl)) ?_
    | refine wl_gv (want_y rfl rfl rfl rfl (by rw [hg2_3]; rfl)) (x_load Try.underlying5 rfl (tmP rfl rfl) (cellR hS.ok 1 rfl rfl)) ?_
    | refine wl_gv (want_y rfl rfl rfl rfl (by rw [hg2_3]; rfl)) (x_load Try.underlying5 rfl (tmP rfl rfl) (cellR hS.ok 1 rfl (getm (by omega)))) ?_
    | refine wl_gv (want_y rfl rfl rfl rfl (by rw [hg2_3]; rfl)) (x_load Try.underlying5 rfl (tmP rfl rfl) (cellRs hS.ok 1 rfl (fun _ => rfl) rfl (by omega) rfl)) ?_
    | refine wl_gv (want_y rfl rfl rfl rfl (by rw [hg2_3]; rfl)) (x_load Try.underlying5 rfl (tmP rfl rfl) (cellV hS.ok 2 rfl rfl)) ?_
    | refine wl_gv (want_y rfl rfl rfl rfl (by rw [hg2_3]; rfl)) (x_load Try.underlying5 rfl (tmP rfl rfl) (cellV hS.ok 2 rfl (getm (by omega)))) ?_
    | refine wl_gv (want_y rfl rfl rfl rfl (by rw [hg2_3]; rfl)) (x_load Try.underlying5 rfl (tmP rfl rfl) (cellVs hS.ok 2 rfl (fun _ => rfl) rfl (by omega) rfl)) ?_
    | refine wl_gv (want_y rfl rfl rfl rfl (by rw [hg2_3]; rfl)) (x_load Try.underlying5 rfl (tmP rfl rfl) (cellR hS.ok 2 rfl rfl)) ?_
    | refine wl_gv (want_y rfl rfl rfl rfl (by rw [hg2_3]; rfl)) (x_load Try.underlying5 rfl (tmP rfl rfl) (cellR hS.ok 2 rfl (getm (by omega)))) ?_
    | refine wl_gv (want_y rfl rfl rfl rfl (by rw [hg2_3]; rfl)) (x_load Try.underlying5 rfl (tmP rfl rfl) (cellRs hS.ok 2 rfl (fun _ => rfl) rfl (by omega) rfl)) ?_
   refine wl_gv (want_y rfl rfl rfl rfl (by rw [hg2_3]; rfl)) (x_eql (tmI rfl rfl) (ev_cN 3)) ?_
   refine wl_v (x_pickT (tmB rfl rfl) hg2_3 (tmB rfl rfl)) ?_
   refine wl_v (x_move (tmB rfl rfl)) ?_
   refine gs_wls (tm (t := 14) rfl) (fun hg2_9 => ?_) (fun hg2_9 => ?_)
   · exfalso
     exact absurd hg2_9 (by decide)
   have hg2_9' := hg2_9; (try simp only [nrm] at hg2_9'); try (exfalso; first | with_reducible exact absurd hg2_9 Bool.false_ne_true | with_reducible exact absurd hg2_9.symm Bool.false_ne_true | omega | (simp at hg2_9; done))
   all_goals
    refine wl_gv (want_y rfl rfl rfl rfl (by rw [hg2_9]; rfl)) (x_move (tmS rfl rfl)) ?_
    refine wl_gv (want_y rfl rfl rfl rfl (by rw [hg2_9]; rfl)) (x_ixs1 Try.underlying22 ts_5 (tmS rfl rfl) (ev_cN 1) (by omega)) ?_
    first
     | refine wl_gv (want_y rfl rfl rfl rfl (by rw [hg2_9]; rfl)) (x_load Try.underlying5 rfl (tmP rfl rfl) (cellB hS.ok 0 rfl rfl)) ?_
     | refine wl_gv (want_y rfl rfl rfl rfl (by rw [hg2_9]; rfl)) (x_load Try.underlying5 rfl (tmP rfl rfl) (cellB hS.ok 1 rfl rfl)) ?_
     | refine wl_gv (want_y rfl rfl rfl rfl (by rw [hg2_9]; rfl)) (x_load Try.underlying5 rfl (tmP rfl rfl) (cellB hS.ok 2 rfl rfl)) ?_
     | refine wl_gv (want_y rfl rfl rfl rfl (by rw [hg2_9]; rfl)) (x_load Try.underlying5 rfl (tmP rfl rfl) (cellV hS.ok 0 rfl rfl)) ?_
     | refine wl_gv (want_y rfl rfl rfl rfl (by rw [hg2_9]; rfl)) (x_load Try.underlying5 rfl (tmP rfl rfl) (cellV hS.ok 0 rfl (getm (by omega)))) ?_
     | refine wl_gv (want_y rfl rfl rfl rfl (by rw [hg2_9]; rfl)) (x_load Try.underlying5 rfl (tmP rfl rfl) (cellVs hS.ok 0 rfl (fun _ => rfl) rfl (by omega) rfl)) ?_
     | refine wl_gv (want_y rfl rfl rfl rfl (by rw [hg2_9]; rfl)) (x_load Try.underlying5 rfl (tmP rfl rfl) (cellR hS.ok 0 rfl rfl)) ?_
     | refine wl_gv (want_y rfl rfl rfl rfl (by rw [hg2_9]; rfl)) (x_load Try.underlying5 rfl (tmP rfl rfl) (cellR hS.ok 0 rfl (getm (by omega)))) ?_
     | refine wl_gv (want_y rfl rfl rfl rfl (by rw [hg2_9]; rfl)) (x_load Try.underlying5 rfl (tmP rfl rfl) (cellRs hS.ok 0 rfl (fun _ => rfl) rfl (by omega) rfl)) ?_
     | refine wl_gv (want_y rfl rfl rfl rfl (by rw [hg2_9]; rfl)) (x_load Try.underlying5 rfl (tmP rfl rfl) (cellV hS.ok 1 rfl rfl)) ?_
     | refine wl_gv (want_y rfl rfl rfl rfl (by rw [hg2_9]; rfl)) (x_load Try.underlying5 rfl (tmP rfl rfl) (cellV hS.ok 1 rfl (getm (by omega)))) ?_
     | refine wl_gv (want_y rfl rfl rfl rfl (by rw [hg2_9]; rfl)) (x_load Try.underlying5 rfl (tmP rfl rfl) (cellVs hS.ok 1 rfl (fun _ => rfl) rfl (by omega) rfl)) ?_
     | refine wl_gv (want_y rfl rfl rfl rfl (by rw [hg2_9]; rfl)) (x_load Try.underlying5 rfl (tmP rfl rfl) (cellR hS.ok 1 rfl rfl)) ?_
     | refine wl_gv (want_y rfl rfl rfl rfl (by rw [hg2_9]; rfl)) (x_load Try.underlying5 rfl (tmP rfl rfl) (cellR hS.ok 1 rfl (getm (by omega)))) ?_
     | refine wl_gv (want_y rfl rfl rfl rfl (by rw [hg2_9]; rfl)) (x_load Try.underlying5 rfl (tmP rfl rfl) (cellRs hS.ok 1 rfl (fun _ => rfl) rfl (by omega) rfl)) ?_
     | refine wl_gv (want_y rfl rfl rfl rfl (by rw [hg2_9]; rfl)) (x_load Try.underlying5 rfl (tmP rfl rfl) (cellV hS.ok 2 rfl rfl)) ?_
     | refine wl_gv (want_y rfl rfl rfl rfl (by rw [hg2_9]; rfl)) (x_load Try.underlying5 rfl (tmP rfl rfl) (cellV hS.ok 2 rfl (getm (by omega)))) ?_
     | refine wl_gv (want_y rfl rfl rfl rfl (by rw [hg2_9]; rfl)) (x_load Try.underlying5 rfl (tmP rfl rfl) (cellVs hS.ok 2 rfl (fun _ => rfl) rfl (by omega) rfl)) ?_
     | refine wl_gv (want_y rfl rfl rfl rfl (by rw [hg2_9]; rfl)) (x_load Try.underlying5 rfl (tmP rfl rfl) (cellR hS.ok 2 rfl rfl)) ?_
     | refine wl_gv (want_y rfl rfl rfl rfl (by rw [hg2_9]; rfl)) (x_load Try.underlying5 rfl (tmP rfl rfl) (cellR hS.ok 2 rfl (getm (by omega)))) ?_
     | refine wl_gv (want_y rfl rfl rfl rfl (by rw [hg2_9]; rfl)) (x_load Try.underlying5 rfl (tmP rfl rfl) (cellRs hS.ok 2 rfl (fun _ => rfl) rfl (by omega) rfl)) ?_
    refine wl_gv (want_y rfl rfl rfl rfl (by rw [hg2_9]; rfl)) (x_eql (tmI rfl rfl) (ev_cN 4)) ?_
    refine wl_v (x_pickT (tmB rfl rfl) hg2_9 (tmB rfl rfl)) ?_
    refine wl_v (x_assign (tmB rfl rfl)) ?_
    refine wl_nil ?_
    refine then_n (hK3 _ _ ?_); clear hK3 K3
    refine wp_ret ?_
    refine ret1 rfl (.tmp rfl (show _ = Value.bool _ from rfl)) ?_
    exact ⟨rfl, hS.kp⟩

end Go.Proofs.Ytfagblcepibliaa
