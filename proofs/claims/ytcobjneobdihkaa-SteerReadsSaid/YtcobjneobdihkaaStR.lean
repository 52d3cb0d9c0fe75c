/- steer: Read of both sides, by contract. Conditions: none but bounds. -/
import Derived.Test.YtcobjneobdihkaaSt
namespace Go.Proofs.Ytcobjneobdihkaa
open Go.ChangeShapes Go.WideShapes Go.ChangeAt Go.RowKit
/-- What Read answers. -/
def ReadS (fn : Nat) (six : Bool) (l : List Nat) (q : List Value) (ok : Bool) : Prop := ∀ (w : World) (A : Option Addr) (c : Nat), View w w.heap.size A (l.map u8v) → l.length ≤ c →
  Calls Try.prog fn #[.slice A l.length c, .bool six] w fun e w' => e = .returned (.tuple #[.agg q.toArray, .bool ok]) ∧ Kp [] w w'
theorem getN_drop (l : List Nat) (q p k : Nat) : getN (l.drop q) p k = getN l (q + p) k := by unfold getN; rw [List.drop_drop]
set_option maxRecDepth 100000 in
set_option maxHeartbeats 8000000 in
theorem sread4_tcp (l : List Nat) (hb : Bytes l) (hn : l.length ≤ 3000) (s d : Ad) (sz : Nat) (hH : HdS 12 l s d 6 sz) (h8 : sz + 8 ≤ l.length) (o : List Nat) (er : Nat) (hob : Bytes o) (ho : o.length ≤ 3000) (hP : PTo 33 (l.drop sz) o er) :
    ReadS 6 false l (quV s d (getN l sz 2) (getN l (sz + 2) 2) 6 (stVal o er) (stHas o er)) true := fun w0 A c hv hc => by
  have hS := (St.sv w0).vcons rfl hv
  have hlx : (l.drop sz).length = l.length - sz := List.length_drop
  have hbx : Bytes (l.drop sz) := hb.drop sz
  refine ent (n := 54) Try.func6 rfl rfl ?_
  refine wp_seq_k ?_; intro K1 hK1
  refine wlit ?_
  refine wl_e rfl ?_; intro K hK
  refine ow_alloc hS tz_32 rfl ?_
  clear hS; intro g0_0 w hg0_0 hS
  refine hK _ _ ?_; clear hK K
  refine wl_v (x_assign ev_c) ?_
  refine wl_nil ?_
  refine then_n (hK1 _ _ ?_); clear hK1 K1
  refine wp_seq_k ?_; intro K2 hK2
  refine wlit ?_
  refine wl_v (x_assign rfl) ?_
  refine wl_nil ?_
  refine then_n (hK2 _ _ ?_); clear hK2 K2
  refine wp_seq_k ?_; intro K3 hK3
  refine wp_seq_k ?_; intro K4 hK4
  refine wlit ?_
  refine wl_v (x_move (tmB rfl rfl)) ?_
  refine wl_nil ?_
  refine then_n (hK4 _ _ ?_); clear hK4 K4
  refine cnd (tm rfl) (fun hc0 => ?_) (fun hc0 => ?_)
  · exfalso
    simp at hc0
  all_goals
   try simp only [nrm] at hc0
   refine wp_skip ?_
   refine then_n (hK3 _ _ ?_); clear hK3 K3
   refine wp_seq_k ?_; intro K5 hK5
   refine wlit ?_
   refine wl_v (x_move (tm rfl)) ?_
   refine wl_v (x_move (tmS rfl rfl)) ?_
   refine wl_e rfl ?_; intro K hK
   refine ow_dyn (tm rfl) Try.func12 rfl rfl (evs_cons (tmS rfl rfl) <| evs_nil) (hH _ A c (viewV hS.ok 1 rfl) hc) ?_
   rintro e w ⟨rfl, hk⟩
   refine ⟨_, rfl, ?_⟩
   replace hS := hS.kept hk
   replace hS := hS.dropb 1 sz rfl hc -- +vx
   clear hk
   refine hK _ _ ?_; clear hK K
   refine wl_v (x_move (tmT rfl rfl)) ?_
   refine wl_v (x_ext (tmT rfl rfl) rfl) ?_
   refine wl_v (x_ext (tmT rfl rfl) rfl) ?_
   refine wl_v (x_ext (tmT rfl rfl) rfl) ?_
   refine wl_e rfl ?_; intro K hK
   refine ow_alloc hS tz_29 rfl ?_
   clear hS; intro g4_7 w hg4_7 hS
   refine hK _ _ ?_; clear hK K
   refine wl_e rfl ?_; intro K hK
   refine ow_storeA hS 0 rfl ts_29 (tmP rfl rfl) (tmA rfl rfl) rfl rfl rfl ?_
   clear hS; intro w hS
   try replace hS := St.nm (M' := [.blk _ _ [_, _, _, _, _, _, _, _, _], .vw _ _, .blk _ _ [_, _, _, _, _, _, _, _, _, _, _], .vw _ _]) hS rfl
   refine hK _ _ ?_; clear hK K
   refine wl_v (x_assign (tmS rfl rfl)) ?_
   refine wl_v (x_assign (tmB rfl rfl)) ?_
   refine wl_nil ?_
   refine then_n (hK5 _ _ ?_); clear hK5 K5
   refine wp_seq_k ?_; intro K6 hK6
   refine wp_seq_k ?_; intro K7 hK7
   refine wlit ?_
   refine wl_v (x_move (tmB rfl rfl)) ?_
   refine wl_v (x_not (tmB rfl rfl)) ?_
   refine wl_v (x_move (tmB rfl rfl)) ?_
   refine gs_wl (tm (t := 22) rfl) (fun hg5_2 => ?_) (fun hg5_2 => ?_)
   · exfalso
     simp at hg5_2
   have hg5_2' := hg5_2; (try simp only [nrm] at hg5_2')
   all_goals
    refine wl_gv (want_y rfl rfl rfl rfl (by rw [hg5_2]; rfl)) (x_fa 8 Try.underlying29 rfl rfl ts_5 (tmP rfl rfl)) ?_
    refine wl_gv (want_y rfl rfl rfl rfl (by rw [hg5_2]; rfl)) (x_load Try.underlying5 rfl (tmP rfl rfl) (cellB hS.ok 0 rfl rfl)) ?_
    refine wl_gv (want_y rfl rfl rfl rfl (by rw [hg5_2]; rfl)) (x_neq (tmI rfl rfl) (ev_cN 6)) ?_
    refine wl_gv (want_y rfl rfl rfl rfl (by rw [hg5_2]; rfl)) (x_move (tmB rfl rfl)) ?_
    refine gs_wl (tm (t := 26) rfl) (fun hg5_6 => ?_) (fun hg5_6 => ?_)
    · exfalso
      simp at hg5_6
    have hg5_6' := hg5_6; (try simp only [nrm] at hg5_6')
    all_goals
     refine wl_s rfl (want_n rfl rfl rfl rfl (by rw [hg5_6]; rfl)) ?_
     refine wl_s rfl (want_n rfl rfl rfl rfl (by rw [hg5_6]; rfl)) ?_
     refine wl_s rfl (want_n rfl rfl rfl rfl (by rw [hg5_6]; rfl)) ?_
     refine wl_gv (want_y rfl rfl rfl rfl (by rw [hg5_2]; rfl)) (x_pickF (tmB rfl rfl) hg5_6 ev_c) ?_
     refine wl_v (x_pickF (tmB rfl rfl) hg5_2 (tmB rfl rfl)) ?_
     refine wl_nil ?_
     refine then_n (hK7 _ _ ?_); clear hK7 K7
     refine cnd_f (tmB rfl rfl) rfl ?_
     refine wp_skip ?_
     refine then_n (hK6 _ _ ?_); clear hK6 K6
     refine wp_seq_k ?_; intro K8 hK8
     refine wlit ?_
     refine wl_v (x_move (tmS rfl rfl)) ?_
     refine wl_e rfl ?_; intro K hK
     refine ow_call Try.func14 rfl rfl (evs_cons (tmS rfl rfl) <| evs_nil) (read_c (l.length - sz) _ (c - sz) (l.drop sz) _ (viewV hS.ok 1 rfl) hlx (by omega)) ?_
     rintro e w ⟨gr, A0, rfl, hS2⟩
     refine ⟨_, rfl, ?_⟩
     replace hS := hS.adds hS2 rfl -- +gr,rowb
     clear hS2
     have hA : Off A0 0 (l.length - sz) A0 := off_zero
     have hcp : l.length - sz - 0 ≤ l.length - sz := by omega
     refine hK _ _ ?_; clear hK K
     refine wl_v (x_assign (tmP rfl rfl)) ?_
     refine wl_nil ?_
     refine then_n (hK8 _ _ ?_); clear hK8 K8
     refine wp_seq_k ?_; intro K9 hK9
     refine wlit ?_
     refine wl_v (x_move (tmP rfl rfl)) ?_
     refine wl_e rfl ?_; intro K hK
     refine ow_call Try.func15 rfl rfl (evs_cons (tmP rfl rfl) <| evs_nil) (word_c gr A0 _ _ (l.length - sz) _ (l.drop sz) false _ _ (hS.enter [0] [1] rfl rfl) hA (by omega) hcp hlx hbx) ?_
     rintro e w ⟨A1, c1, rfl, hS2, hA, hcp⟩
     refine ⟨_, rfl, ?_⟩
     replace hS := hS.turn 0 rfl rfl hS2 rfl
     clear hS2
     try replace hS := St.nm (M' := [_, .row _ _ _ _ _, .blk _ _ [_, _, _, _, _, _, _, _, _], .vw _ _, .blk _ _ [_, _, _, _, _, _, _, _, _, _, _], .vw _ _]) hS rfl
     refine hK _ _ ?_; clear hK K
     refine wl_v (x_move (tmP rfl rfl)) ?_
     refine wl_e rfl ?_; intro K hK
     refine ow_call Try.func15 rfl rfl (evs_cons (tmP rfl rfl) <| evs_nil) (word_c gr A0 _ _ (l.length - sz) _ (l.drop sz) false _ _ (hS.enter [0] [1] rfl rfl) hA (by omega) hcp hlx hbx) ?_
     rintro e w ⟨A1, c1, rfl, hS2, hA, hcp⟩
     refine ⟨_, rfl, ?_⟩
     replace hS := hS.turn 0 rfl rfl hS2 rfl
     clear hS2
     try replace hS := St.nm (M' := [_, .row _ _ _ _ _, .blk _ _ [_, _, _, _, _, _, _, _, _], .vw _ _, .blk _ _ [_, _, _, _, _, _, _, _, _, _, _], .vw _ _]) hS rfl
     refine hK _ _ ?_; clear hK K
     refine wl_v (x_fa 6 Try.underlying29 rfl rfl ts_27 (tmP rfl rfl)) ?_
     refine wl_e rfl ?_; intro K hK
     refine ow_store hS 2 rfl ts_27 (tmP rfl rfl) (tmI rfl rfl) rfl rfl ?_
     clear hS; intro w hS
     try replace hS := St.nm (M' := [_, .row _ _ _ _ _, .blk _ _ [_, _, _, _, _, _, _, _, _], .vw _ _, .blk _ _ [_, _, _, _, _, _, _, _, _, _, _], .vw _ _]) hS rfl
     refine hK _ _ ?_; clear hK K
     refine wl_v (x_fa 7 Try.underlying29 rfl rfl ts_27 (tmP rfl rfl)) ?_
     refine wl_e rfl ?_; intro K hK
     refine ow_store hS 2 rfl ts_27 (tmP rfl rfl) (tmI rfl rfl) rfl rfl ?_
     clear hS; intro w hS
     try replace hS := St.nm (M' := [_, .row _ _ _ _ _, .blk _ _ [_, _, _, _, _, _, _, _, _], .vw _ _, .blk _ _ [_, _, _, _, _, _, _, _, _, _, _], .vw _ _]) hS rfl
     refine hK _ _ ?_; clear hK K
     refine wl_nil ?_
     refine then_n (hK9 _ _ ?_); clear hK9 K9
     refine wp_seq_k ?_; intro K10 hK10
     refine wlit ?_
     refine wl_v (x_loadA (cs := [_, _, _, _, _, _, _, _, _]) Try.underlying29 rfl ts_29 (tmP rfl rfl) (rangeB hS.ok 2 rfl rfl)) ?_
     refine wl_v (x_build (bc_takeL (tmA rfl rfl) <| bc_skip (.int .u32 0) <| bc_skip (.bool false) <| bc_nil) (by kernel_rfl)) ?_
     refine wl_e rfl ?_; intro K hK
     refine ow_alloc hS tz_32 rfl ?_
     clear hS; intro g9_2 w hg9_2 hS
     refine hK _ _ ?_; clear hK K
     refine wl_e rfl ?_; intro K hK
     refine ow_storeA hS 0 rfl ts_32 (tmP rfl rfl) (tmA rfl rfl) rfl rfl rfl ?_
     clear hS; intro w hS
     try replace hS := St.nm (M' := [.blk _ _ [_, _, _, _, _, _, _, _, _, _, _], _, .row _ _ _ _ _, .blk _ _ [_, _, _, _, _, _, _, _, _], .vw _ _, .blk _ _ [_, _, _, _, _, _, _, _, _, _, _], .vw _ _]) hS rfl
     refine hK _ _ ?_; clear hK K
     refine wl_nil ?_
     refine then_n (hK10 _ _ ?_); clear hK10 K10
     refine wp_seq_k ?_; intro K11 hK11
     refine wp_seq_k ?_; intro K12 hK12
     refine wlit ?_
     refine wl_v (x_fa 8 Try.underlying29 rfl rfl ts_5 (tmP rfl rfl)) ?_
     refine wl_v (x_load Try.underlying5 rfl (tmP rfl rfl) (cellB hS.ok 3 rfl rfl)) ?_
     refine wl_v (x_eql (tmI rfl rfl) (ev_cN 6)) ?_
     refine wl_nil ?_
     refine then_n (hK12 _ _ ?_); clear hK12 K12
     refine cnds (tm rfl) (fun hc2 => ?_) (fun hc2 => ?_)
     · exfalso
       simp at hc2
     all_goals
      try simp only [nrm] at hc2
      refine wlit ?_
      refine wl_v (x_move (tmS rfl rfl)) ?_
      refine wl_e rfl ?_; intro K hK
      refine ow_call Try.func16 rfl rfl (evs_cons (tmS rfl rfl) <| evs_nil) (stamp_c (l.drop sz) o er hob ho hP (l.length - sz) _ (c - sz) _ (viewV hS.ok 4 rfl) hlx (by omega)) ?_
      rintro e w ⟨rfl, hk⟩
      refine ⟨_, rfl, ?_⟩
      replace hS := hS.kept hk
      clear hk
      refine hK _ _ ?_; clear hK K
      refine wl_v (x_move (tmT rfl rfl)) ?_
      refine wl_v (x_ext (tmT rfl rfl) rfl) ?_
      refine wl_v (x_ext (tmT rfl rfl) rfl) ?_
      refine wl_v (x_fa 9 Try.underlying32 rfl rfl ts_30 (tmP rfl rfl)) ?_
      refine wl_e rfl ?_; intro K hK
      refine ow_store hS 0 rfl ts_30 (tmP rfl rfl) (tmI rfl rfl) rfl rfl ?_
      clear hS; intro w hS
      try replace hS := St.nm (M' := [.blk _ _ [_, _, _, _, _, _, _, _, _, _, _], _, .row _ _ _ _ _, .blk _ _ [_, _, _, _, _, _, _, _, _], .vw _ _, .blk _ _ [_, _, _, _, _, _, _, _, _, _, _], .vw _ _]) hS rfl
      refine hK _ _ ?_; clear hK K
      refine wl_v (x_fa 10 Try.underlying32 rfl rfl ts_4 (tmP rfl rfl)) ?_
      refine wl_e rfl ?_; intro K hK
      refine ow_store hS 0 rfl ts_4 (tmP rfl rfl) (tmB rfl rfl) rfl rfl ?_
      clear hS; intro w hS
      try replace hS := St.nm (M' := [.blk _ _ [_, _, _, _, _, _, _, _, _, _, _], _, .row _ _ _ _ _, .blk _ _ [_, _, _, _, _, _, _, _, _], .vw _ _, .blk _ _ [_, _, _, _, _, _, _, _, _, _, _], .vw _ _]) hS rfl
      refine hK _ _ ?_; clear hK K
      refine wl_nil ?_
      refine then_n (hK11 _ _ ?_); clear hK11 K11
      refine wp_seq_k ?_; intro K13 hK13
      refine wlit ?_
      refine wl_v (x_loadA (cs := [_, _, _, _, _, _, _, _, _, _, _]) Try.underlying32 rfl ts_32 (tmP rfl rfl) (rangeB hS.ok 0 rfl rfl)) ?_
      refine wl_e rfl ?_; intro K hK
      refine ow_storeA hS 5 rfl ts_32 (tmP rfl rfl) (tmA rfl rfl) rfl rfl rfl ?_
      clear hS; intro w hS
      try replace hS := St.nm (M' := [.blk _ _ [_, _, _, _, _, _, _, _, _, _, _], _, .row _ _ _ _ _, .blk _ _ [_, _, _, _, _, _, _, _, _], .vw _ _, .blk _ _ [_, _, _, _, _, _, _, _, _, _, _], .vw _ _]) hS rfl
      refine hK _ _ ?_; clear hK K
      refine wl_v (x_assign ev_c) ?_
      refine wl_nil ?_
      refine then_n (hK13 _ _ ?_); clear hK13 K13
      refine wp_ret ?_
      refine ret2 rfl (.cell rfl rfl (load_rowB (cs := [_, _, _, _, _, _, _, _, _, _, _]) hS.ok 5 rfl Try.underlying32 rfl ts_32 rfl)) (.tmp rfl (show _ = Value.bool _ from rfl)) ?_
      refine ⟨?_, hS.kp⟩
      rw [getN_drop, getN_drop]
      rfl
set_option maxRecDepth 100000 in
set_option maxHeartbeats 8000000 in
theorem sread4_udp (l : List Nat) (hb : Bytes l) (hn : l.length ≤ 3000) (s d : Ad) (sz : Nat) (hH : HdS 12 l s d 17 sz) (h8 : sz + 8 ≤ l.length) :
    ReadS 6 false l (quV s d (getN l sz 2) (getN l (sz + 2) 2) 17 0 false) true := fun w0 A c hv hc => by
  have hS := (St.sv w0).vcons rfl hv
  have hlx : (l.drop sz).length = l.length - sz := List.length_drop
  have hbx : Bytes (l.drop sz) := hb.drop sz
  refine ent (n := 54) Try.func6 rfl rfl ?_
  refine wp_seq_k ?_; intro K1 hK1
  refine wlit ?_
  refine wl_e rfl ?_; intro K hK
  refine ow_alloc hS tz_32 rfl ?_
  clear hS; intro g0_0 w hg0_0 hS
  refine hK _ _ ?_; clear hK K
  refine wl_v (x_assign ev_c) ?_
  refine wl_nil ?_
  refine then_n (hK1 _ _ ?_); clear hK1 K1
  refine wp_seq_k ?_; intro K2 hK2
  refine wlit ?_
  refine wl_v (x_assign rfl) ?_
  refine wl_nil ?_
  refine then_n (hK2 _ _ ?_); clear hK2 K2
  refine wp_seq_k ?_; intro K3 hK3
  refine wp_seq_k ?_; intro K4 hK4
  refine wlit ?_
  refine wl_v (x_move (tmB rfl rfl)) ?_
  refine wl_nil ?_
  refine then_n (hK4 _ _ ?_); clear hK4 K4
  refine cnd (tm rfl) (fun hc0 => ?_) (fun hc0 => ?_)
  · exfalso
    simp at hc0
  all_goals
   try simp only [nrm] at hc0
   refine wp_skip ?_
   refine then_n (hK3 _ _ ?_); clear hK3 K3
   refine wp_seq_k ?_; intro K5 hK5
   refine wlit ?_
   refine wl_v (x_move (tm rfl)) ?_
   refine wl_v (x_move (tmS rfl rfl)) ?_
   refine wl_e rfl ?_; intro K hK
   refine ow_dyn (tm rfl) Try.func12 rfl rfl (evs_cons (tmS rfl rfl) <| evs_nil) (hH _ A c (viewV hS.ok 1 rfl) hc) ?_
   rintro e w ⟨rfl, hk⟩
   refine ⟨_, rfl, ?_⟩
   replace hS := hS.kept hk
   replace hS := hS.dropb 1 sz rfl hc -- +vx
   clear hk
   refine hK _ _ ?_; clear hK K
   refine wl_v (x_move (tmT rfl rfl)) ?_
   refine wl_v (x_ext (tmT rfl rfl) rfl) ?_
   refine wl_v (x_ext (tmT rfl rfl) rfl) ?_
   refine wl_v (x_ext (tmT rfl rfl) rfl) ?_
   refine wl_e rfl ?_; intro K hK
   refine ow_alloc hS tz_29 rfl ?_
   clear hS; intro g4_7 w hg4_7 hS
   refine hK _ _ ?_; clear hK K
   refine wl_e rfl ?_; intro K hK
   refine ow_storeA hS 0 rfl ts_29 (tmP rfl rfl) (tmA rfl rfl) rfl rfl rfl ?_
   clear hS; intro w hS
   try replace hS := St.nm (M' := [.blk _ _ [_, _, _, _, _, _, _, _, _], .vw _ _, .blk _ _ [_, _, _, _, _, _, _, _, _, _, _], .vw _ _]) hS rfl
   refine hK _ _ ?_; clear hK K
   refine wl_v (x_assign (tmS rfl rfl)) ?_
   refine wl_v (x_assign (tmB rfl rfl)) ?_
   refine wl_nil ?_
   refine then_n (hK5 _ _ ?_); clear hK5 K5
   refine wp_seq_k ?_; intro K6 hK6
   refine wp_seq_k ?_; intro K7 hK7
   refine wlit ?_
   refine wl_v (x_move (tmB rfl rfl)) ?_
   refine wl_v (x_not (tmB rfl rfl)) ?_
   refine wl_v (x_move (tmB rfl rfl)) ?_
   refine gs_wl (tm (t := 22) rfl) (fun hg5_2 => ?_) (fun hg5_2 => ?_)
   · exfalso
     simp at hg5_2
   have hg5_2' := hg5_2; (try simp only [nrm] at hg5_2')
   all_goals
    refine wl_gv (want_y rfl rfl rfl rfl (by rw [hg5_2]; rfl)) (x_fa 8 Try.underlying29 rfl rfl ts_5 (tmP rfl rfl)) ?_
    refine wl_gv (want_y rfl rfl rfl rfl (by rw [hg5_2]; rfl)) (x_load Try.underlying5 rfl (tmP rfl rfl) (cellB hS.ok 0 rfl rfl)) ?_
    refine wl_gv (want_y rfl rfl rfl rfl (by rw [hg5_2]; rfl)) (x_neq (tmI rfl rfl) (ev_cN 6)) ?_
    refine wl_gv (want_y rfl rfl rfl rfl (by rw [hg5_2]; rfl)) (x_move (tmB rfl rfl)) ?_
    refine gs_wls (tm (t := 26) rfl) (fun hg5_6 => ?_) (fun hg5_6 => ?_)
    · exfalso
      simp at hg5_6
    have hg5_6' := hg5_6; (try simp only [nrm] at hg5_6')
    all_goals
     refine wl_gv (want_y rfl rfl rfl rfl (by rw [hg5_6]; rfl)) (x_fa 8 Try.underlying29 rfl rfl ts_5 (tmP rfl rfl)) ?_
     refine wl_gv (want_y rfl rfl rfl rfl (by rw [hg5_6]; rfl)) (x_load Try.underlying5 rfl (tmP rfl rfl) (cellB hS.ok 0 rfl rfl)) ?_
     refine wl_gv (want_y rfl rfl rfl rfl (by rw [hg5_6]; rfl)) (x_neq (tmI rfl rfl) (ev_cN 17)) ?_
     refine wl_gv (want_y rfl rfl rfl rfl (by rw [hg5_2]; rfl)) (x_pickT (tmB rfl rfl) hg5_6 (tmB rfl rfl)) ?_
     refine wl_v (x_pickF (tmB rfl rfl) hg5_2 (tmB rfl rfl)) ?_
     refine wl_nil ?_
     refine then_n (hK7 _ _ ?_); clear hK7 K7
     refine cnd (tm rfl) (fun hc1 => ?_) (fun hc1 => ?_)
     · exfalso
       simp at hc1
     all_goals
      try simp only [nrm] at hc1
      refine wp_skip ?_
      refine then_n (hK6 _ _ ?_); clear hK6 K6
      refine wp_seq_k ?_; intro K8 hK8
      refine wlit ?_
      refine wl_v (x_move (tmS rfl rfl)) ?_
      refine wl_e rfl ?_; intro K hK
      refine ow_call Try.func14 rfl rfl (evs_cons (tmS rfl rfl) <| evs_nil) (read_c (l.length - sz) _ (c - sz) (l.drop sz) _ (viewV hS.ok 1 rfl) hlx (by omega)) ?_
      rintro e w ⟨gr, A0, rfl, hS2⟩
      refine ⟨_, rfl, ?_⟩
      replace hS := hS.adds hS2 rfl -- +gr,rowb
      clear hS2
      have hA : Off A0 0 (l.length - sz) A0 := off_zero
      have hcp : l.length - sz - 0 ≤ l.length - sz := by omega
      refine hK _ _ ?_; clear hK K
      refine wl_v (x_assign (tmP rfl rfl)) ?_
      refine wl_nil ?_
      refine then_n (hK8 _ _ ?_); clear hK8 K8
      refine wp_seq_k ?_; intro K9 hK9
      refine wlit ?_
      refine wl_v (x_move (tmP rfl rfl)) ?_
      refine wl_e rfl ?_; intro K hK
      refine ow_call Try.func15 rfl rfl (evs_cons (tmP rfl rfl) <| evs_nil) (word_c gr A0 _ _ (l.length - sz) _ (l.drop sz) false _ _ (hS.enter [0] [1] rfl rfl) hA (by omega) hcp hlx hbx) ?_
      rintro e w ⟨A1, c1, rfl, hS2, hA, hcp⟩
      refine ⟨_, rfl, ?_⟩
      replace hS := hS.turn 0 rfl rfl hS2 rfl
      clear hS2
      try replace hS := St.nm (M' := [_, .row _ _ _ _ _, .blk _ _ [_, _, _, _, _, _, _, _, _], .vw _ _, .blk _ _ [_, _, _, _, _, _, _, _, _, _, _], .vw _ _]) hS rfl
      refine hK _ _ ?_; clear hK K
      refine wl_v (x_move (tmP rfl rfl)) ?_
      refine wl_e rfl ?_; intro K hK
      refine ow_call Try.func15 rfl rfl (evs_cons (tmP rfl rfl) <| evs_nil) (word_c gr A0 _ _ (l.length - sz) _ (l.drop sz) false _ _ (hS.enter [0] [1] rfl rfl) hA (by omega) hcp hlx hbx) ?_
      rintro e w ⟨A1, c1, rfl, hS2, hA, hcp⟩
      refine ⟨_, rfl, ?_⟩
      replace hS := hS.turn 0 rfl rfl hS2 rfl
      clear hS2
      try replace hS := St.nm (M' := [_, .row _ _ _ _ _, .blk _ _ [_, _, _, _, _, _, _, _, _], .vw _ _, .blk _ _ [_, _, _, _, _, _, _, _, _, _, _], .vw _ _]) hS rfl
      refine hK _ _ ?_; clear hK K
      refine wl_v (x_fa 6 Try.underlying29 rfl rfl ts_27 (tmP rfl rfl)) ?_
      refine wl_e rfl ?_; intro K hK
      refine ow_store hS 2 rfl ts_27 (tmP rfl rfl) (tmI rfl rfl) rfl rfl ?_
      clear hS; intro w hS
      try replace hS := St.nm (M' := [_, .row _ _ _ _ _, .blk _ _ [_, _, _, _, _, _, _, _, _], .vw _ _, .blk _ _ [_, _, _, _, _, _, _, _, _, _, _], .vw _ _]) hS rfl
      refine hK _ _ ?_; clear hK K
      refine wl_v (x_fa 7 Try.underlying29 rfl rfl ts_27 (tmP rfl rfl)) ?_
      refine wl_e rfl ?_; intro K hK
      refine ow_store hS 2 rfl ts_27 (tmP rfl rfl) (tmI rfl rfl) rfl rfl ?_
      clear hS; intro w hS
      try replace hS := St.nm (M' := [_, .row _ _ _ _ _, .blk _ _ [_, _, _, _, _, _, _, _, _], .vw _ _, .blk _ _ [_, _, _, _, _, _, _, _, _, _, _], .vw _ _]) hS rfl
      refine hK _ _ ?_; clear hK K
      refine wl_nil ?_
      refine then_n (hK9 _ _ ?_); clear hK9 K9
      refine wp_seq_k ?_; intro K10 hK10
      refine wlit ?_
      refine wl_v (x_loadA (cs := [_, _, _, _, _, _, _, _, _]) Try.underlying29 rfl ts_29 (tmP rfl rfl) (rangeB hS.ok 2 rfl rfl)) ?_
      refine wl_v (x_build (bc_takeL (tmA rfl rfl) <| bc_skip (.int .u32 0) <| bc_skip (.bool false) <| bc_nil) (by kernel_rfl)) ?_
      refine wl_e rfl ?_; intro K hK
      refine ow_alloc hS tz_32 rfl ?_
      clear hS; intro g9_2 w hg9_2 hS
      refine hK _ _ ?_; clear hK K
      refine wl_e rfl ?_; intro K hK
      refine ow_storeA hS 0 rfl ts_32 (tmP rfl rfl) (tmA rfl rfl) rfl rfl rfl ?_
      clear hS; intro w hS
      try replace hS := St.nm (M' := [.blk _ _ [_, _, _, _, _, _, _, _, _, _, _], _, .row _ _ _ _ _, .blk _ _ [_, _, _, _, _, _, _, _, _], .vw _ _, .blk _ _ [_, _, _, _, _, _, _, _, _, _, _], .vw _ _]) hS rfl
      refine hK _ _ ?_; clear hK K
      refine wl_nil ?_
      refine then_n (hK10 _ _ ?_); clear hK10 K10
      refine wp_seq_k ?_; intro K11 hK11
      refine wp_seq_k ?_; intro K12 hK12
      refine wlit ?_
      refine wl_v (x_fa 8 Try.underlying29 rfl rfl ts_5 (tmP rfl rfl)) ?_
      refine wl_v (x_load Try.underlying5 rfl (tmP rfl rfl) (cellB hS.ok 3 rfl rfl)) ?_
      refine wl_v (x_eql (tmI rfl rfl) (ev_cN 6)) ?_
      refine wl_nil ?_
      refine then_n (hK12 _ _ ?_); clear hK12 K12
      refine cnd (tm rfl) (fun hc2 => ?_) (fun hc2 => ?_)
      · exfalso
        simp at hc2
      all_goals
       try simp only [nrm] at hc2
       refine wp_skip ?_
       refine then_n (hK11 _ _ ?_); clear hK11 K11
       refine wp_seq_k ?_; intro K13 hK13
       refine wlit ?_
       refine wl_v (x_loadA (cs := [_, _, _, _, _, _, _, _, _, _, _]) Try.underlying32 rfl ts_32 (tmP rfl rfl) (rangeB hS.ok 0 rfl rfl)) ?_
       refine wl_e rfl ?_; intro K hK
       refine ow_storeA hS 5 rfl ts_32 (tmP rfl rfl) (tmA rfl rfl) rfl rfl rfl ?_
       clear hS; intro w hS
       try replace hS := St.nm (M' := [.blk _ _ [_, _, _, _, _, _, _, _, _, _, _], _, .row _ _ _ _ _, .blk _ _ [_, _, _, _, _, _, _, _, _], .vw _ _, .blk _ _ [_, _, _, _, _, _, _, _, _, _, _], .vw _ _]) hS rfl
       refine hK _ _ ?_; clear hK K
       refine wl_v (x_assign ev_c) ?_
       refine wl_nil ?_
       refine then_n (hK13 _ _ ?_); clear hK13 K13
       refine wp_ret ?_
       refine ret2 rfl (.cell rfl rfl (load_rowB (cs := [_, _, _, _, _, _, _, _, _, _, _]) hS.ok 5 rfl Try.underlying32 rfl ts_32 rfl)) (.tmp rfl (show _ = Value.bool _ from rfl)) ?_
       refine ⟨?_, hS.kp⟩
       rw [getN_drop, getN_drop]
       rfl
set_option maxRecDepth 100000 in
set_option maxHeartbeats 8000000 in
theorem sread4_no (l : List Nat) (hH : HdN 12 l) : ReadS 6 false l (quV adZ adZ 0 0 0 0 false) false := fun w0 A c hv hc => by
  have hS := (St.sv w0).vcons rfl hv
  refine ent (n := 54) Try.func6 rfl rfl ?_
  refine wp_seq_k ?_; intro K1 hK1
  refine wlit ?_
  refine wl_e rfl ?_; intro K hK
  refine ow_alloc hS tz_32 rfl ?_
  clear hS; intro g0_0 w hg0_0 hS
  refine hK _ _ ?_; clear hK K
  refine wl_v (x_assign ev_c) ?_
  refine wl_nil ?_
  refine then_n (hK1 _ _ ?_); clear hK1 K1
  refine wp_seq_k ?_; intro K2 hK2
  refine wlit ?_
  refine wl_v (x_assign rfl) ?_
  refine wl_nil ?_
  refine then_n (hK2 _ _ ?_); clear hK2 K2
  refine wp_seq_k ?_; intro K3 hK3
  refine wp_seq_k ?_; intro K4 hK4
  refine wlit ?_
  refine wl_v (x_move (tmB rfl rfl)) ?_
  refine wl_nil ?_
  refine then_n (hK4 _ _ ?_); clear hK4 K4
  refine cnd (tm rfl) (fun hc0 => ?_) (fun hc0 => ?_)
  · exfalso
    simp at hc0
  all_goals
   try simp only [nrm] at hc0
   refine wp_skip ?_
   refine then_n (hK3 _ _ ?_); clear hK3 K3
   refine wp_seq_k ?_; intro K5 hK5
   refine wlit ?_
   refine wl_v (x_move (tm rfl)) ?_
   refine wl_v (x_move (tmS rfl rfl)) ?_
   refine wl_e rfl ?_; intro K hK
   refine ow_dyn (tm rfl) Try.func12 rfl rfl (evs_cons (tmS rfl rfl) <| evs_nil) (hH _ A c (viewV hS.ok 1 rfl) hc) ?_
   rintro e w ⟨rfl, hk⟩
   refine ⟨_, rfl, ?_⟩
   replace hS := hS.kept hk
   clear hk
   refine hK _ _ ?_; clear hK K
   refine wl_v (x_move (tmT rfl rfl)) ?_
   refine wl_v (x_ext (tmT rfl rfl) rfl) ?_
   refine wl_v (x_ext (tmT rfl rfl) rfl) ?_
   refine wl_v (x_ext (tmT rfl rfl) rfl) ?_
   refine wl_e rfl ?_; intro K hK
   refine ow_alloc hS tz_29 rfl ?_
   clear hS; intro g4_7 w hg4_7 hS
   refine hK _ _ ?_; clear hK K
   refine wl_e rfl ?_; intro K hK
   refine ow_storeA hS 0 rfl ts_29 (tmP rfl rfl) (tmA rfl rfl) rfl rfl rfl ?_
   clear hS; intro w hS
   try replace hS := St.nm (M' := [.blk _ _ [_, _, _, _, _, _, _, _, _], .blk _ _ [_, _, _, _, _, _, _, _, _, _, _], .vw _ _]) hS rfl
   refine hK _ _ ?_; clear hK K
   refine wl_v (x_assign (tmS rfl rfl)) ?_
   refine wl_v (x_assign (tmB rfl rfl)) ?_
   refine wl_nil ?_
   refine then_n (hK5 _ _ ?_); clear hK5 K5
   refine wp_seq_k ?_; intro K6 hK6
   refine wp_seq_k ?_; intro K7 hK7
   refine wlit ?_
   refine wl_v (x_move (tmB rfl rfl)) ?_
   refine wl_v (x_not (tmB rfl rfl)) ?_
   refine wl_v (x_move (tmB rfl rfl)) ?_
   refine gs_wls (tm (t := 22) rfl) (fun hg5_2 => ?_) (fun hg5_2 => ?_)
   · exfalso
     simp at hg5_2
   have hg5_2' := hg5_2; (try simp only [nrm] at hg5_2')
   all_goals
    refine wl_s rfl (want_n rfl rfl rfl rfl (by rw [hg5_2]; rfl)) ?_
    refine wl_s rfl (want_n rfl rfl rfl rfl (by rw [hg5_2]; rfl)) ?_
    refine wl_s rfl (want_n rfl rfl rfl rfl (by rw [hg5_2]; rfl)) ?_
    refine wl_s rfl (want_n rfl rfl rfl rfl (by rw [hg5_2]; rfl)) ?_
    refine wl_s rfl (want_u rfl rfl rfl rfl) ?_
    refine wl_s rfl (want_u rfl rfl rfl rfl) ?_
    refine wl_s rfl (want_u rfl rfl rfl rfl) ?_
    refine wl_s rfl (want_n rfl rfl rfl rfl (by rw [hg5_2]; rfl)) ?_
    refine wl_v (x_pickT (tmB rfl rfl) hg5_2 ev_c) ?_
    refine wl_nil ?_
    refine then_n (hK7 _ _ ?_); clear hK7 K7
    refine cnd_t (tmB rfl rfl) rfl ?_
    refine wp_seq_k ?_; intro K8 hK8
    refine wlit ?_
    refine wl_v (x_build (bc_skipL [.bool false, .int .u64 0, .int .u64 0, .bool false, .int .u64 0, .int .u64 0, .int .u16 0, .int .u16 0, .int .u8 0] <| bc_skip (.int .u32 0) <| bc_skip (.bool false) <| bc_nil) (by kernel_rfl)) ?_
    refine wl_e rfl ?_; intro K hK
    refine ow_storeA hS 1 rfl ts_32 (tmP rfl rfl) (tmA rfl rfl) rfl rfl rfl ?_
    clear hS; intro w hS
    try replace hS := St.nm (M' := [.blk _ _ [_, _, _, _, _, _, _, _, _], .blk _ _ [_, _, _, _, _, _, _, _, _, _, _], .vw _ _]) hS rfl
    refine hK _ _ ?_; clear hK K
    refine wl_v (x_assign ev_c) ?_
    refine wl_nil ?_
    refine then_n (hK8 _ _ ?_); clear hK8 K8
    refine wp_ret ?_
    refine then_r ?_
    refine ret2 rfl (.cell rfl rfl (load_rowB (cs := [_, _, _, _, _, _, _, _, _, _, _]) hS.ok 1 rfl Try.underlying32 rfl ts_32 rfl)) (.tmp rfl (show _ = Value.bool _ from rfl)) ?_
    exact ⟨rfl, hS.kp⟩
set_option maxRecDepth 100000 in
set_option maxHeartbeats 8000000 in
theorem sread4_other (l : List Nat) (s d : Ad) (sz pr : Nat) (hH : HdS 12 l s d pr sz) (h6 : pr ≠ 6) (h17 : pr ≠ 17) : ReadS 6 false l (quV adZ adZ 0 0 0 0 false) false := fun w0 A c hv hc => by
  have hS := (St.sv w0).vcons rfl hv
  refine ent (n := 54) Try.func6 rfl rfl ?_
  refine wp_seq_k ?_; intro K1 hK1
  refine wlit ?_
  refine wl_e rfl ?_; intro K hK
  refine ow_alloc hS tz_32 rfl ?_
  clear hS; intro g0_0 w hg0_0 hS
  refine hK _ _ ?_; clear hK K
  refine wl_v (x_assign ev_c) ?_
  refine wl_nil ?_
  refine then_n (hK1 _ _ ?_); clear hK1 K1
  refine wp_seq_k ?_; intro K2 hK2
  refine wlit ?_
  refine wl_v (x_assign rfl) ?_
  refine wl_nil ?_
  refine then_n (hK2 _ _ ?_); clear hK2 K2
  refine wp_seq_k ?_; intro K3 hK3
  refine wp_seq_k ?_; intro K4 hK4
  refine wlit ?_
  refine wl_v (x_move (tmB rfl rfl)) ?_
  refine wl_nil ?_
  refine then_n (hK4 _ _ ?_); clear hK4 K4
  refine cnd (tm rfl) (fun hc0 => ?_) (fun hc0 => ?_)
  · exfalso
    simp at hc0
  all_goals
   try simp only [nrm] at hc0
   refine wp_skip ?_
   refine then_n (hK3 _ _ ?_); clear hK3 K3
   refine wp_seq_k ?_; intro K5 hK5
   refine wlit ?_
   refine wl_v (x_move (tm rfl)) ?_
   refine wl_v (x_move (tmS rfl rfl)) ?_
   refine wl_e rfl ?_; intro K hK
   refine ow_dyn (tm rfl) Try.func12 rfl rfl (evs_cons (tmS rfl rfl) <| evs_nil) (hH _ A c (viewV hS.ok 1 rfl) hc) ?_
   rintro e w ⟨rfl, hk⟩
   refine ⟨_, rfl, ?_⟩
   replace hS := hS.kept hk
   clear hk
   refine hK _ _ ?_; clear hK K
   refine wl_v (x_move (tmT rfl rfl)) ?_
   refine wl_v (x_ext (tmT rfl rfl) rfl) ?_
   refine wl_v (x_ext (tmT rfl rfl) rfl) ?_
   refine wl_v (x_ext (tmT rfl rfl) rfl) ?_
   refine wl_e rfl ?_; intro K hK
   refine ow_alloc hS tz_29 rfl ?_
   clear hS; intro g4_7 w hg4_7 hS
   refine hK _ _ ?_; clear hK K
   refine wl_e rfl ?_; intro K hK
   refine ow_storeA hS 0 rfl ts_29 (tmP rfl rfl) (tmA rfl rfl) rfl rfl rfl ?_
   clear hS; intro w hS
   try replace hS := St.nm (M' := [.blk _ _ [_, _, _, _, _, _, _, _, _], .blk _ _ [_, _, _, _, _, _, _, _, _, _, _], .vw _ _]) hS rfl
   refine hK _ _ ?_; clear hK K
   refine wl_v (x_assign (tmS rfl rfl)) ?_
   refine wl_v (x_assign (tmB rfl rfl)) ?_
   refine wl_nil ?_
   refine then_n (hK5 _ _ ?_); clear hK5 K5
   refine wp_seq_k ?_; intro K6 hK6
   refine wp_seq_k ?_; intro K7 hK7
   refine wlit ?_
   refine wl_v (x_move (tmB rfl rfl)) ?_
   refine wl_v (x_not (tmB rfl rfl)) ?_
   refine wl_v (x_move (tmB rfl rfl)) ?_
   refine gs_wl (tm (t := 22) rfl) (fun hg5_2 => ?_) (fun hg5_2 => ?_)
   · exfalso
     simp at hg5_2
   have hg5_2' := hg5_2; (try simp only [nrm] at hg5_2')
   all_goals
    refine wl_gv (want_y rfl rfl rfl rfl (by rw [hg5_2]; rfl)) (x_fa 8 Try.underlying29 rfl rfl ts_5 (tmP rfl rfl)) ?_
    refine wl_gv (want_y rfl rfl rfl rfl (by rw [hg5_2]; rfl)) (x_load Try.underlying5 rfl (tmP rfl rfl) (cellB hS.ok 0 rfl rfl)) ?_
    refine wl_gv (want_y rfl rfl rfl rfl (by rw [hg5_2]; rfl)) (x_neq (tmI rfl rfl) (ev_cN 6)) ?_
    refine wl_gv (want_y rfl rfl rfl rfl (by rw [hg5_2]; rfl)) (x_move (tmB rfl rfl)) ?_
    refine gs_wls (tm (t := 26) rfl) (fun hg5_6 => ?_) (fun hg5_6 => ?_)
    · exfalso
      first | omega | (simp at hg5_6; omega)
    have hg5_6' := hg5_6; (try simp only [nrm] at hg5_6')
    all_goals
     refine wl_gv (want_y rfl rfl rfl rfl (by rw [hg5_6]; rfl)) (x_fa 8 Try.underlying29 rfl rfl ts_5 (tmP rfl rfl)) ?_
     refine wl_gv (want_y rfl rfl rfl rfl (by rw [hg5_6]; rfl)) (x_load Try.underlying5 rfl (tmP rfl rfl) (cellB hS.ok 0 rfl rfl)) ?_
     refine wl_gv (want_y rfl rfl rfl rfl (by rw [hg5_6]; rfl)) (x_neq (tmI rfl rfl) (ev_cN 17)) ?_
     refine wl_gv (want_y rfl rfl rfl rfl (by rw [hg5_2]; rfl)) (x_pickT (tmB rfl rfl) hg5_6 (tmB rfl rfl)) ?_
     refine wl_v (x_pickF (tmB rfl rfl) hg5_2 (tmB rfl rfl)) ?_
     refine wl_nil ?_
     refine then_n (hK7 _ _ ?_); clear hK7 K7
     refine cnds (tm rfl) (fun hc1 => ?_) (fun hc1 => ?_)
     · exfalso
       first | omega | (simp at hc1; omega)
     all_goals
      try simp only [nrm] at hc1
      refine wp_seq_k ?_; intro K8 hK8
      refine wlit ?_
      refine wl_v (x_build (bc_skipL [.bool false, .int .u64 0, .int .u64 0, .bool false, .int .u64 0, .int .u64 0, .int .u16 0, .int .u16 0, .int .u8 0] <| bc_skip (.int .u32 0) <| bc_skip (.bool false) <| bc_nil) (by kernel_rfl)) ?_
      refine wl_e rfl ?_; intro K hK
      refine ow_storeA hS 1 rfl ts_32 (tmP rfl rfl) (tmA rfl rfl) rfl rfl rfl ?_
      clear hS; intro w hS
      try replace hS := St.nm (M' := [.blk _ _ [_, _, _, _, _, _, _, _, _], .blk _ _ [_, _, _, _, _, _, _, _, _, _, _], .vw _ _]) hS rfl
      refine hK _ _ ?_; clear hK K
      refine wl_v (x_assign ev_c) ?_
      refine wl_nil ?_
      refine then_n (hK8 _ _ ?_); clear hK8 K8
      refine wp_ret ?_
      refine then_r ?_
      refine ret2 rfl (.cell rfl rfl (load_rowB (cs := [_, _, _, _, _, _, _, _, _, _, _]) hS.ok 1 rfl Try.underlying32 rfl ts_32 rfl)) (.tmp rfl (show _ = Value.bool _ from rfl)) ?_
      exact ⟨rfl, hS.kp⟩
set_option maxRecDepth 100000 in
set_option maxHeartbeats 8000000 in
theorem sread6_tcp (l : List Nat) (hb : Bytes l) (hn : l.length ≤ 3000) (s d : Ad) (sz : Nat) (hH : HdS 13 l s d 6 sz) (h8 : sz + 8 ≤ l.length) (o : List Nat) (er : Nat) (hob : Bytes o) (ho : o.length ≤ 3000) (hP : PTo 33 (l.drop sz) o er) :
    ReadS 6 true l (quV s d (getN l sz 2) (getN l (sz + 2) 2) 6 (stVal o er) (stHas o er)) true := fun w0 A c hv hc => by
  have hS := (St.sv w0).vcons rfl hv
  have hlx : (l.drop sz).length = l.length - sz := List.length_drop
  have hbx : Bytes (l.drop sz) := hb.drop sz
  refine ent (n := 54) Try.func6 rfl rfl ?_
  refine wp_seq_k ?_; intro K1 hK1
  refine wlit ?_
  refine wl_e rfl ?_; intro K hK
  refine ow_alloc hS tz_32 rfl ?_
  clear hS; intro g0_0 w hg0_0 hS
  refine hK _ _ ?_; clear hK K
  refine wl_v (x_assign ev_c) ?_
  refine wl_nil ?_
  refine then_n (hK1 _ _ ?_); clear hK1 K1
  refine wp_seq_k ?_; intro K2 hK2
  refine wlit ?_
  refine wl_v (x_assign rfl) ?_
  refine wl_nil ?_
  refine then_n (hK2 _ _ ?_); clear hK2 K2
  refine wp_seq_k ?_; intro K3 hK3
  refine wp_seq_k ?_; intro K4 hK4
  refine wlit ?_
  refine wl_v (x_move (tmB rfl rfl)) ?_
  refine wl_nil ?_
  refine then_n (hK4 _ _ ?_); clear hK4 K4
  refine cnds (tm rfl) (fun hc0 => ?_) (fun hc0 => ?_)
  · exfalso
    simp at hc0
  all_goals
   try simp only [nrm] at hc0
   refine wlit ?_
   refine wl_v (x_assign rfl) ?_
   refine wl_nil ?_
   refine then_n (hK3 _ _ ?_); clear hK3 K3
   refine wp_seq_k ?_; intro K5 hK5
   refine wlit ?_
   refine wl_v (x_move (tm rfl)) ?_
   refine wl_v (x_move (tmS rfl rfl)) ?_
   refine wl_e rfl ?_; intro K hK
   refine ow_dyn (tm rfl) Try.func13 rfl rfl (evs_cons (tmS rfl rfl) <| evs_nil) (hH _ A c (viewV hS.ok 1 rfl) hc) ?_
   rintro e w ⟨rfl, hk⟩
   refine ⟨_, rfl, ?_⟩
   replace hS := hS.kept hk
   replace hS := hS.dropb 1 sz rfl hc -- +vx
   clear hk
   refine hK _ _ ?_; clear hK K
   refine wl_v (x_move (tmT rfl rfl)) ?_
   refine wl_v (x_ext (tmT rfl rfl) rfl) ?_
   refine wl_v (x_ext (tmT rfl rfl) rfl) ?_
   refine wl_v (x_ext (tmT rfl rfl) rfl) ?_
   refine wl_e rfl ?_; intro K hK
   refine ow_alloc hS tz_29 rfl ?_
   clear hS; intro g4_7 w hg4_7 hS
   refine hK _ _ ?_; clear hK K
   refine wl_e rfl ?_; intro K hK
   refine ow_storeA hS 0 rfl ts_29 (tmP rfl rfl) (tmA rfl rfl) rfl rfl rfl ?_
   clear hS; intro w hS
   try replace hS := St.nm (M' := [.blk _ _ [_, _, _, _, _, _, _, _, _], .vw _ _, .blk _ _ [_, _, _, _, _, _, _, _, _, _, _], .vw _ _]) hS rfl
   refine hK _ _ ?_; clear hK K
   refine wl_v (x_assign (tmS rfl rfl)) ?_
   refine wl_v (x_assign (tmB rfl rfl)) ?_
   refine wl_nil ?_
   refine then_n (hK5 _ _ ?_); clear hK5 K5
   refine wp_seq_k ?_; intro K6 hK6
   refine wp_seq_k ?_; intro K7 hK7
   refine wlit ?_
   refine wl_v (x_move (tmB rfl rfl)) ?_
   refine wl_v (x_not (tmB rfl rfl)) ?_
   refine wl_v (x_move (tmB rfl rfl)) ?_
   refine gs_wl (tm (t := 22) rfl) (fun hg5_2 => ?_) (fun hg5_2 => ?_)
   · exfalso
     simp at hg5_2
   have hg5_2' := hg5_2; (try simp only [nrm] at hg5_2')
   all_goals
    refine wl_gv (want_y rfl rfl rfl rfl (by rw [hg5_2]; rfl)) (x_fa 8 Try.underlying29 rfl rfl ts_5 (tmP rfl rfl)) ?_
    refine wl_gv (want_y rfl rfl rfl rfl (by rw [hg5_2]; rfl)) (x_load Try.underlying5 rfl (tmP rfl rfl) (cellB hS.ok 0 rfl rfl)) ?_
    refine wl_gv (want_y rfl rfl rfl rfl (by rw [hg5_2]; rfl)) (x_neq (tmI rfl rfl) (ev_cN 6)) ?_
    refine wl_gv (want_y rfl rfl rfl rfl (by rw [hg5_2]; rfl)) (x_move (tmB rfl rfl)) ?_
    refine gs_wl (tm (t := 26) rfl) (fun hg5_6 => ?_) (fun hg5_6 => ?_)
    · exfalso
      simp at hg5_6
    have hg5_6' := hg5_6; (try simp only [nrm] at hg5_6')
    all_goals
     refine wl_s rfl (want_n rfl rfl rfl rfl (by rw [hg5_6]; rfl)) ?_
     refine wl_s rfl (want_n rfl rfl rfl rfl (by rw [hg5_6]; rfl)) ?_
     refine wl_s rfl (want_n rfl rfl rfl rfl (by rw [hg5_6]; rfl)) ?_
     refine wl_gv (want_y rfl rfl rfl rfl (by rw [hg5_2]; rfl)) (x_pickF (tmB rfl rfl) hg5_6 ev_c) ?_
     refine wl_v (x_pickF (tmB rfl rfl) hg5_2 (tmB rfl rfl)) ?_
     refine wl_nil ?_
     refine then_n (hK7 _ _ ?_); clear hK7 K7
     refine cnd_f (tmB rfl rfl) rfl ?_
     refine wp_skip ?_
     refine then_n (hK6 _ _ ?_); clear hK6 K6
     refine wp_seq_k ?_; intro K8 hK8
     refine wlit ?_
     refine wl_v (x_move (tmS rfl rfl)) ?_
     refine wl_e rfl ?_; intro K hK
     refine ow_call Try.func14 rfl rfl (evs_cons (tmS rfl rfl) <| evs_nil) (read_c (l.length - sz) _ (c - sz) (l.drop sz) _ (viewV hS.ok 1 rfl) hlx (by omega)) ?_
     rintro e w ⟨gr, A0, rfl, hS2⟩
     refine ⟨_, rfl, ?_⟩
     replace hS := hS.adds hS2 rfl -- +gr,rowb
     clear hS2
     have hA : Off A0 0 (l.length - sz) A0 := off_zero
     have hcp : l.length - sz - 0 ≤ l.length - sz := by omega
     refine hK _ _ ?_; clear hK K
     refine wl_v (x_assign (tmP rfl rfl)) ?_
     refine wl_nil ?_
     refine then_n (hK8 _ _ ?_); clear hK8 K8
     refine wp_seq_k ?_; intro K9 hK9
     refine wlit ?_
     refine wl_v (x_move (tmP rfl rfl)) ?_
     refine wl_e rfl ?_; intro K hK
     refine ow_call Try.func15 rfl rfl (evs_cons (tmP rfl rfl) <| evs_nil) (word_c gr A0 _ _ (l.length - sz) _ (l.drop sz) false _ _ (hS.enter [0] [1] rfl rfl) hA (by omega) hcp hlx hbx) ?_
     rintro e w ⟨A1, c1, rfl, hS2, hA, hcp⟩
     refine ⟨_, rfl, ?_⟩
     replace hS := hS.turn 0 rfl rfl hS2 rfl
     clear hS2
     try replace hS := St.nm (M' := [_, .row _ _ _ _ _, .blk _ _ [_, _, _, _, _, _, _, _, _], .vw _ _, .blk _ _ [_, _, _, _, _, _, _, _, _, _, _], .vw _ _]) hS rfl
     refine hK _ _ ?_; clear hK K
     refine wl_v (x_move (tmP rfl rfl)) ?_
     refine wl_e rfl ?_; intro K hK
     refine ow_call Try.func15 rfl rfl (evs_cons (tmP rfl rfl) <| evs_nil) (word_c gr A0 _ _ (l.length - sz) _ (l.drop sz) false _ _ (hS.enter [0] [1] rfl rfl) hA (by omega) hcp hlx hbx) ?_
     rintro e w ⟨A1, c1, rfl, hS2, hA, hcp⟩
     refine ⟨_, rfl, ?_⟩
     replace hS := hS.turn 0 rfl rfl hS2 rfl
     clear hS2
     try replace hS := St.nm (M' := [_, .row _ _ _ _ _, .blk _ _ [_, _, _, _, _, _, _, _, _], .vw _ _, .blk _ _ [_, _, _, _, _, _, _, _, _, _, _], .vw _ _]) hS rfl
     refine hK _ _ ?_; clear hK K
     refine wl_v (x_fa 6 Try.underlying29 rfl rfl ts_27 (tmP rfl rfl)) ?_
     refine wl_e rfl ?_; intro K hK
     refine ow_store hS 2 rfl ts_27 (tmP rfl rfl) (tmI rfl rfl) rfl rfl ?_
     clear hS; intro w hS
     try replace hS := St.nm (M' := [_, .row _ _ _ _ _, .blk _ _ [_, _, _, _, _, _, _, _, _], .vw _ _, .blk _ _ [_, _, _, _, _, _, _, _, _, _, _], .vw _ _]) hS rfl
     refine hK _ _ ?_; clear hK K
     refine wl_v (x_fa 7 Try.underlying29 rfl rfl ts_27 (tmP rfl rfl)) ?_
     refine wl_e rfl ?_; intro K hK
     refine ow_store hS 2 rfl ts_27 (tmP rfl rfl) (tmI rfl rfl) rfl rfl ?_
     clear hS; intro w hS
     try replace hS := St.nm (M' := [_, .row _ _ _ _ _, .blk _ _ [_, _, _, _, _, _, _, _, _], .vw _ _, .blk _ _ [_, _, _, _, _, _, _, _, _, _, _], .vw _ _]) hS rfl
     refine hK _ _ ?_; clear hK K
     refine wl_nil ?_
     refine then_n (hK9 _ _ ?_); clear hK9 K9
     refine wp_seq_k ?_; intro K10 hK10
     refine wlit ?_
     refine wl_v (x_loadA (cs := [_, _, _, _, _, _, _, _, _]) Try.underlying29 rfl ts_29 (tmP rfl rfl) (rangeB hS.ok 2 rfl rfl)) ?_
     refine wl_v (x_build (bc_takeL (tmA rfl rfl) <| bc_skip (.int .u32 0) <| bc_skip (.bool false) <| bc_nil) (by kernel_rfl)) ?_
     refine wl_e rfl ?_; intro K hK
     refine ow_alloc hS tz_32 rfl ?_
     clear hS; intro g9_2 w hg9_2 hS
     refine hK _ _ ?_; clear hK K
     refine wl_e rfl ?_; intro K hK
     refine ow_storeA hS 0 rfl ts_32 (tmP rfl rfl) (tmA rfl rfl) rfl rfl rfl ?_
     clear hS; intro w hS
     try replace hS := St.nm (M' := [.blk _ _ [_, _, _, _, _, _, _, _, _, _, _], _, .row _ _ _ _ _, .blk _ _ [_, _, _, _, _, _, _, _, _], .vw _ _, .blk _ _ [_, _, _, _, _, _, _, _, _, _, _], .vw _ _]) hS rfl
     refine hK _ _ ?_; clear hK K
     refine wl_nil ?_
     refine then_n (hK10 _ _ ?_); clear hK10 K10
     refine wp_seq_k ?_; intro K11 hK11
     refine wp_seq_k ?_; intro K12 hK12
     refine wlit ?_
     refine wl_v (x_fa 8 Try.underlying29 rfl rfl ts_5 (tmP rfl rfl)) ?_
     refine wl_v (x_load Try.underlying5 rfl (tmP rfl rfl) (cellB hS.ok 3 rfl rfl)) ?_
     refine wl_v (x_eql (tmI rfl rfl) (ev_cN 6)) ?_
     refine wl_nil ?_
     refine then_n (hK12 _ _ ?_); clear hK12 K12
     refine cnds (tm rfl) (fun hc2 => ?_) (fun hc2 => ?_)
     · exfalso
       simp at hc2
     all_goals
      try simp only [nrm] at hc2
      refine wlit ?_
      refine wl_v (x_move (tmS rfl rfl)) ?_
      refine wl_e rfl ?_; intro K hK
      refine ow_call Try.func16 rfl rfl (evs_cons (tmS rfl rfl) <| evs_nil) (stamp_c (l.drop sz) o er hob ho hP (l.length - sz) _ (c - sz) _ (viewV hS.ok 4 rfl) hlx (by omega)) ?_
      rintro e w ⟨rfl, hk⟩
      refine ⟨_, rfl, ?_⟩
      replace hS := hS.kept hk
      clear hk
      refine hK _ _ ?_; clear hK K
      refine wl_v (x_move (tmT rfl rfl)) ?_
      refine wl_v (x_ext (tmT rfl rfl) rfl) ?_
      refine wl_v (x_ext (tmT rfl rfl) rfl) ?_
      refine wl_v (x_fa 9 Try.underlying32 rfl rfl ts_30 (tmP rfl rfl)) ?_
      refine wl_e rfl ?_; intro K hK
      refine ow_store hS 0 rfl ts_30 (tmP rfl rfl) (tmI rfl rfl) rfl rfl ?_
      clear hS; intro w hS
      try replace hS := St.nm (M' := [.blk _ _ [_, _, _, _, _, _, _, _, _, _, _], _, .row _ _ _ _ _, .blk _ _ [_, _, _, _, _, _, _, _, _], .vw _ _, .blk _ _ [_, _, _, _, _, _, _, _, _, _, _], .vw _ _]) hS rfl
      refine hK _ _ ?_; clear hK K
      refine wl_v (x_fa 10 Try.underlying32 rfl rfl ts_4 (tmP rfl rfl)) ?_
      refine wl_e rfl ?_; intro K hK
      refine ow_store hS 0 rfl ts_4 (tmP rfl rfl) (tmB rfl rfl) rfl rfl ?_
      clear hS; intro w hS
      try replace hS := St.nm (M' := [.blk _ _ [_, _, _, _, _, _, _, _, _, _, _], _, .row _ _ _ _ _, .blk _ _ [_, _, _, _, _, _, _, _, _], .vw _ _, .blk _ _ [_, _, _, _, _, _, _, _, _, _, _], .vw _ _]) hS rfl
      refine hK _ _ ?_; clear hK K
      refine wl_nil ?_
      refine then_n (hK11 _ _ ?_); clear hK11 K11
      refine wp_seq_k ?_; intro K13 hK13
      refine wlit ?_
      refine wl_v (x_loadA (cs := [_, _, _, _, _, _, _, _, _, _, _]) Try.underlying32 rfl ts_32 (tmP rfl rfl) (rangeB hS.ok 0 rfl rfl)) ?_
      refine wl_e rfl ?_; intro K hK
      refine ow_storeA hS 5 rfl ts_32 (tmP rfl rfl) (tmA rfl rfl) rfl rfl rfl ?_
      clear hS; intro w hS
      try replace hS := St.nm (M' := [.blk _ _ [_, _, _, _, _, _, _, _, _, _, _], _, .row _ _ _ _ _, .blk _ _ [_, _, _, _, _, _, _, _, _], .vw _ _, .blk _ _ [_, _, _, _, _, _, _, _, _, _, _], .vw _ _]) hS rfl
      refine hK _ _ ?_; clear hK K
      refine wl_v (x_assign ev_c) ?_
      refine wl_nil ?_
      refine then_n (hK13 _ _ ?_); clear hK13 K13
      refine wp_ret ?_
      refine ret2 rfl (.cell rfl rfl (load_rowB (cs := [_, _, _, _, _, _, _, _, _, _, _]) hS.ok 5 rfl Try.underlying32 rfl ts_32 rfl)) (.tmp rfl (show _ = Value.bool _ from rfl)) ?_
      refine ⟨?_, hS.kp⟩
      rw [getN_drop, getN_drop]
      rfl
set_option maxRecDepth 100000 in
set_option maxHeartbeats 8000000 in
theorem sread6_udp (l : List Nat) (hb : Bytes l) (hn : l.length ≤ 3000) (s d : Ad) (sz : Nat) (hH : HdS 13 l s d 17 sz) (h8 : sz + 8 ≤ l.length) :
    ReadS 6 true l (quV s d (getN l sz 2) (getN l (sz + 2) 2) 17 0 false) true := fun w0 A c hv hc => by
  have hS := (St.sv w0).vcons rfl hv
  have hlx : (l.drop sz).length = l.length - sz := List.length_drop
  have hbx : Bytes (l.drop sz) := hb.drop sz
  refine ent (n := 54) Try.func6 rfl rfl ?_
  refine wp_seq_k ?_; intro K1 hK1
  refine wlit ?_
  refine wl_e rfl ?_; intro K hK
  refine ow_alloc hS tz_32 rfl ?_
  clear hS; intro g0_0 w hg0_0 hS
  refine hK _ _ ?_; clear hK K
  refine wl_v (x_assign ev_c) ?_
  refine wl_nil ?_
  refine then_n (hK1 _ _ ?_); clear hK1 K1
  refine wp_seq_k ?_; intro K2 hK2
  refine wlit ?_
  refine wl_v (x_assign rfl) ?_
  refine wl_nil ?_
  refine then_n (hK2 _ _ ?_); clear hK2 K2
  refine wp_seq_k ?_; intro K3 hK3
  refine wp_seq_k ?_; intro K4 hK4
  refine wlit ?_
  refine wl_v (x_move (tmB rfl rfl)) ?_
  refine wl_nil ?_
  refine then_n (hK4 _ _ ?_); clear hK4 K4
  refine cnds (tm rfl) (fun hc0 => ?_) (fun hc0 => ?_)
  · exfalso
    simp at hc0
  all_goals
   try simp only [nrm] at hc0
   refine wlit ?_
   refine wl_v (x_assign rfl) ?_
   refine wl_nil ?_
   refine then_n (hK3 _ _ ?_); clear hK3 K3
   refine wp_seq_k ?_; intro K5 hK5
   refine wlit ?_
   refine wl_v (x_move (tm rfl)) ?_
   refine wl_v (x_move (tmS rfl rfl)) ?_
   refine wl_e rfl ?_; intro K hK
   refine ow_dyn (tm rfl) Try.func13 rfl rfl (evs_cons (tmS rfl rfl) <| evs_nil) (hH _ A c (viewV hS.ok 1 rfl) hc) ?_
   rintro e w ⟨rfl, hk⟩
   refine ⟨_, rfl, ?_⟩
   replace hS := hS.kept hk
   replace hS := hS.dropb 1 sz rfl hc -- +vx
   clear hk
   refine hK _ _ ?_; clear hK K
   refine wl_v (x_move (tmT rfl rfl)) ?_
   refine wl_v (x_ext (tmT rfl rfl) rfl) ?_
   refine wl_v (x_ext (tmT rfl rfl) rfl) ?_
   refine wl_v (x_ext (tmT rfl rfl) rfl) ?_
   refine wl_e rfl ?_; intro K hK
   refine ow_alloc hS tz_29 rfl ?_
   clear hS; intro g4_7 w hg4_7 hS
   refine hK _ _ ?_; clear hK K
   refine wl_e rfl ?_; intro K hK
   refine ow_storeA hS 0 rfl ts_29 (tmP rfl rfl) (tmA rfl rfl) rfl rfl rfl ?_
   clear hS; intro w hS
   try replace hS := St.nm (M' := [.blk _ _ [_, _, _, _, _, _, _, _, _], .vw _ _, .blk _ _ [_, _, _, _, _, _, _, _, _, _, _], .vw _ _]) hS rfl
   refine hK _ _ ?_; clear hK K
   refine wl_v (x_assign (tmS rfl rfl)) ?_
   refine wl_v (x_assign (tmB rfl rfl)) ?_
   refine wl_nil ?_
   refine then_n (hK5 _ _ ?_); clear hK5 K5
   refine wp_seq_k ?_; intro K6 hK6
   refine wp_seq_k ?_; intro K7 hK7
   refine wlit ?_
   refine wl_v (x_move (tmB rfl rfl)) ?_
   refine wl_v (x_not (tmB rfl rfl)) ?_
   refine wl_v (x_move (tmB rfl rfl)) ?_
   refine gs_wl (tm (t := 22) rfl) (fun hg5_2 => ?_) (fun hg5_2 => ?_)
   · exfalso
     simp at hg5_2
   have hg5_2' := hg5_2; (try simp only [nrm] at hg5_2')
   all_goals
    refine wl_gv (want_y rfl rfl rfl rfl (by rw [hg5_2]; rfl)) (x_fa 8 Try.underlying29 rfl rfl ts_5 (tmP rfl rfl)) ?_
    refine wl_gv (want_y rfl rfl rfl rfl (by rw [hg5_2]; rfl)) (x_load Try.underlying5 rfl (tmP rfl rfl) (cellB hS.ok 0 rfl rfl)) ?_
    refine wl_gv (want_y rfl rfl rfl rfl (by rw [hg5_2]; rfl)) (x_neq (tmI rfl rfl) (ev_cN 6)) ?_
    refine wl_gv (want_y rfl rfl rfl rfl (by rw [hg5_2]; rfl)) (x_move (tmB rfl rfl)) ?_
    refine gs_wls (tm (t := 26) rfl) (fun hg5_6 => ?_) (fun hg5_6 => ?_)
    · exfalso
      simp at hg5_6
    have hg5_6' := hg5_6; (try simp only [nrm] at hg5_6')
    all_goals
     refine wl_gv (want_y rfl rfl rfl rfl (by rw [hg5_6]; rfl)) (x_fa 8 Try.underlying29 rfl rfl ts_5 (tmP rfl rfl)) ?_
     refine wl_gv (want_y rfl rfl rfl rfl (by rw [hg5_6]; rfl)) (x_load Try.underlying5 rfl (tmP rfl rfl) (cellB hS.ok 0 rfl rfl)) ?_
     refine wl_gv (want_y rfl rfl rfl rfl (by rw [hg5_6]; rfl)) (x_neq (tmI rfl rfl) (ev_cN 17)) ?_
     refine wl_gv (want_y rfl rfl rfl rfl (by rw [hg5_2]; rfl)) (x_pickT (tmB rfl rfl) hg5_6 (tmB rfl rfl)) ?_
     refine wl_v (x_pickF (tmB rfl rfl) hg5_2 (tmB rfl rfl)) ?_
     refine wl_nil ?_
     refine then_n (hK7 _ _ ?_); clear hK7 K7
     refine cnd (tm rfl) (fun hc1 => ?_) (fun hc1 => ?_)
     · exfalso
       simp at hc1
     all_goals
      try simp only [nrm] at hc1
      refine wp_skip ?_
      refine then_n (hK6 _ _ ?_); clear hK6 K6
      refine wp_seq_k ?_; intro K8 hK8
      refine wlit ?_
      refine wl_v (x_move (tmS rfl rfl)) ?_
      refine wl_e rfl ?_; intro K hK
      refine ow_call Try.func14 rfl rfl (evs_cons (tmS rfl rfl) <| evs_nil) (read_c (l.length - sz) _ (c - sz) (l.drop sz) _ (viewV hS.ok 1 rfl) hlx (by omega)) ?_
      rintro e w ⟨gr, A0, rfl, hS2⟩
      refine ⟨_, rfl, ?_⟩
      replace hS := hS.adds hS2 rfl -- +gr,rowb
      clear hS2
      have hA : Off A0 0 (l.length - sz) A0 := off_zero
      have hcp : l.length - sz - 0 ≤ l.length - sz := by omega
      refine hK _ _ ?_; clear hK K
      refine wl_v (x_assign (tmP rfl rfl)) ?_
      refine wl_nil ?_
      refine then_n (hK8 _ _ ?_); clear hK8 K8
      refine wp_seq_k ?_; intro K9 hK9
      refine wlit ?_
      refine wl_v (x_move (tmP rfl rfl)) ?_
      refine wl_e rfl ?_; intro K hK
      refine ow_call Try.func15 rfl rfl (evs_cons (tmP rfl rfl) <| evs_nil) (word_c gr A0 _ _ (l.length - sz) _ (l.drop sz) false _ _ (hS.enter [0] [1] rfl rfl) hA (by omega) hcp hlx hbx) ?_
      rintro e w ⟨A1, c1, rfl, hS2, hA, hcp⟩
      refine ⟨_, rfl, ?_⟩
      replace hS := hS.turn 0 rfl rfl hS2 rfl
      clear hS2
      try replace hS := St.nm (M' := [_, .row _ _ _ _ _, .blk _ _ [_, _, _, _, _, _, _, _, _], .vw _ _, .blk _ _ [_, _, _, _, _, _, _, _, _, _, _], .vw _ _]) hS rfl
      refine hK _ _ ?_; clear hK K
      refine wl_v (x_move (tmP rfl rfl)) ?_
      refine wl_e rfl ?_; intro K hK
      refine ow_call Try.func15 rfl rfl (evs_cons (tmP rfl rfl) <| evs_nil) (word_c gr A0 _ _ (l.length - sz) _ (l.drop sz) false _ _ (hS.enter [0] [1] rfl rfl) hA (by omega) hcp hlx hbx) ?_
      rintro e w ⟨A1, c1, rfl, hS2, hA, hcp⟩
      refine ⟨_, rfl, ?_⟩
      replace hS := hS.turn 0 rfl rfl hS2 rfl
      clear hS2
      try replace hS := St.nm (M' := [_, .row _ _ _ _ _, .blk _ _ [_, _, _, _, _, _, _, _, _], .vw _ _, .blk _ _ [_, _, _, _, _, _, _, _, _, _, _], .vw _ _]) hS rfl
      refine hK _ _ ?_; clear hK K
      refine wl_v (x_fa 6 Try.underlying29 rfl rfl ts_27 (tmP rfl rfl)) ?_
      refine wl_e rfl ?_; intro K hK
      refine ow_store hS 2 rfl ts_27 (tmP rfl rfl) (tmI rfl rfl) rfl rfl ?_
      clear hS; intro w hS
      try replace hS := St.nm (M' := [_, .row _ _ _ _ _, .blk _ _ [_, _, _, _, _, _, _, _, _], .vw _ _, .blk _ _ [_, _, _, _, _, _, _, _, _, _, _], .vw _ _]) hS rfl
      refine hK _ _ ?_; clear hK K
      refine wl_v (x_fa 7 Try.underlying29 rfl rfl ts_27 (tmP rfl rfl)) ?_
      refine wl_e rfl ?_; intro K hK
      refine ow_store hS 2 rfl ts_27 (tmP rfl rfl) (tmI rfl rfl) rfl rfl ?_
      clear hS; intro w hS
      try replace hS := St.nm (M' := [_, .row _ _ _ _ _, .blk _ _ [_, _, _, _, _, _, _, _, _], .vw _ _, .blk _ _ [_, _, _, _, _, _, _, _, _, _, _], .vw _ _]) hS rfl
      refine hK _ _ ?_; clear hK K
      refine wl_nil ?_
      refine then_n (hK9 _ _ ?_); clear hK9 K9
      refine wp_seq_k ?_; intro K10 hK10
      refine wlit ?_
      refine wl_v (x_loadA (cs := [_, _, _, _, _, _, _, _, _]) Try.underlying29 rfl ts_29 (tmP rfl rfl) (rangeB hS.ok 2 rfl rfl)) ?_
      refine wl_v (x_build (bc_takeL (tmA rfl rfl) <| bc_skip (.int .u32 0) <| bc_skip (.bool false) <| bc_nil) (by kernel_rfl)) ?_
      refine wl_e rfl ?_; intro K hK
      refine ow_alloc hS tz_32 rfl ?_
      clear hS; intro g9_2 w hg9_2 hS
      refine hK _ _ ?_; clear hK K
      refine wl_e rfl ?_; intro K hK
      refine ow_storeA hS 0 rfl ts_32 (tmP rfl rfl) (tmA rfl rfl) rfl rfl rfl ?_
      clear hS; intro w hS
      try replace hS := St.nm (M' := [.blk _ _ [_, _, _, _, _, _, _, _, _, _, _], _, .row _ _ _ _ _, .blk _ _ [_, _, _, _, _, _, _, _, _], .vw _ _, .blk _ _ [_, _, _, _, _, _, _, _, _, _, _], .vw _ _]) hS rfl
      refine hK _ _ ?_; clear hK K
      refine wl_nil ?_
      refine then_n (hK10 _ _ ?_); clear hK10 K10
      refine wp_seq_k ?_; intro K11 hK11
      refine wp_seq_k ?_; intro K12 hK12
      refine wlit ?_
      refine wl_v (x_fa 8 Try.underlying29 rfl rfl ts_5 (tmP rfl rfl)) ?_
      refine wl_v (x_load Try.underlying5 rfl (tmP rfl rfl) (cellB hS.ok 3 rfl rfl)) ?_
      refine wl_v (x_eql (tmI rfl rfl) (ev_cN 6)) ?_
      refine wl_nil ?_
      refine then_n (hK12 _ _ ?_); clear hK12 K12
      refine cnd (tm rfl) (fun hc2 => ?_) (fun hc2 => ?_)
      · exfalso
        simp at hc2
      all_goals
       try simp only [nrm] at hc2
       refine wp_skip ?_
       refine then_n (hK11 _ _ ?_); clear hK11 K11
       refine wp_seq_k ?_; intro K13 hK13
       refine wlit ?_
       refine wl_v (x_loadA (cs := [_, _, _, _, _, _, _, _, _, _, _]) Try.underlying32 rfl ts_32 (tmP rfl rfl) (rangeB hS.ok 0 rfl rfl)) ?_
       refine wl_e rfl ?_; intro K hK
       refine ow_storeA hS 5 rfl ts_32 (tmP rfl rfl) (tmA rfl rfl) rfl rfl rfl ?_
       clear hS; intro w hS
       try replace hS := St.nm (M' := [.blk _ _ [_, _, _, _, _, _, _, _, _, _, _], _, .row _ _ _ _ _, .blk _ _ [_, _, _, _, _, _, _, _, _], .vw _ _, .blk _ _ [_, _, _, _, _, _, _, _, _, _, _], .vw _ _]) hS rfl
       refine hK _ _ ?_; clear hK K
       refine wl_v (x_assign ev_c) ?_
       refine wl_nil ?_
       refine then_n (hK13 _ _ ?_); clear hK13 K13
       refine wp_ret ?_
       refine ret2 rfl (.cell rfl rfl (load_rowB (cs := [_, _, _, _, _, _, _, _, _, _, _]) hS.ok 5 rfl Try.underlying32 rfl ts_32 rfl)) (.tmp rfl (show _ = Value.bool _ from rfl)) ?_
       refine ⟨?_, hS.kp⟩
       rw [getN_drop, getN_drop]
       rfl
set_option maxRecDepth 100000 in
set_option maxHeartbeats 8000000 in
theorem sread6_no (l : List Nat) (hH : HdN 13 l) : ReadS 6 true l (quV adZ adZ 0 0 0 0 false) false := fun w0 A c hv hc => by
  have hS := (St.sv w0).vcons rfl hv
  refine ent (n := 54) Try.func6 rfl rfl ?_
  refine wp_seq_k ?_; intro K1 hK1
  refine wlit ?_
  refine wl_e rfl ?_; intro K hK
  refine ow_alloc hS tz_32 rfl ?_
  clear hS; intro g0_0 w hg0_0 hS
  refine hK _ _ ?_; clear hK K
  refine wl_v (x_assign ev_c) ?_
  refine wl_nil ?_
  refine then_n (hK1 _ _ ?_); clear hK1 K1
  refine wp_seq_k ?_; intro K2 hK2
  refine wlit ?_
  refine wl_v (x_assign rfl) ?_
  refine wl_nil ?_
  refine then_n (hK2 _ _ ?_); clear hK2 K2
  refine wp_seq_k ?_; intro K3 hK3
  refine wp_seq_k ?_; intro K4 hK4
  refine wlit ?_
  refine wl_v (x_move (tmB rfl rfl)) ?_
  refine wl_nil ?_
  refine then_n (hK4 _ _ ?_); clear hK4 K4
  refine cnds (tm rfl) (fun hc0 => ?_) (fun hc0 => ?_)
  · exfalso
    simp at hc0
  all_goals
   try simp only [nrm] at hc0
   refine wlit ?_
   refine wl_v (x_assign rfl) ?_
   refine wl_nil ?_
   refine then_n (hK3 _ _ ?_); clear hK3 K3
   refine wp_seq_k ?_; intro K5 hK5
   refine wlit ?_
   refine wl_v (x_move (tm rfl)) ?_
   refine wl_v (x_move (tmS rfl rfl)) ?_
   refine wl_e rfl ?_; intro K hK
   refine ow_dyn (tm rfl) Try.func13 rfl rfl (evs_cons (tmS rfl rfl) <| evs_nil) (hH _ A c (viewV hS.ok 1 rfl) hc) ?_
   rintro e w ⟨rfl, hk⟩
   refine ⟨_, rfl, ?_⟩
   replace hS := hS.kept hk
   clear hk
   refine hK _ _ ?_; clear hK K
   refine wl_v (x_move (tmT rfl rfl)) ?_
   refine wl_v (x_ext (tmT rfl rfl) rfl) ?_
   refine wl_v (x_ext (tmT rfl rfl) rfl) ?_
   refine wl_v (x_ext (tmT rfl rfl) rfl) ?_
   refine wl_e rfl ?_; intro K hK
   refine ow_alloc hS tz_29 rfl ?_
   clear hS; intro g4_7 w hg4_7 hS
   refine hK _ _ ?_; clear hK K
   refine wl_e rfl ?_; intro K hK
   refine ow_storeA hS 0 rfl ts_29 (tmP rfl rfl) (tmA rfl rfl) rfl rfl rfl ?_
   clear hS; intro w hS
   try replace hS := St.nm (M' := [.blk _ _ [_, _, _, _, _, _, _, _, _], .blk _ _ [_, _, _, _, _, _, _, _, _, _, _], .vw _ _]) hS rfl
   refine hK _ _ ?_; clear hK K
   refine wl_v (x_assign (tmS rfl rfl)) ?_
   refine wl_v (x_assign (tmB rfl rfl)) ?_
   refine wl_nil ?_
   refine then_n (hK5 _ _ ?_); clear hK5 K5
   refine wp_seq_k ?_; intro K6 hK6
   refine wp_seq_k ?_; intro K7 hK7
   refine wlit ?_
   refine wl_v (x_move (tmB rfl rfl)) ?_
   refine wl_v (x_not (tmB rfl rfl)) ?_
   refine wl_v (x_move (tmB rfl rfl)) ?_
   refine gs_wls (tm (t := 22) rfl) (fun hg5_2 => ?_) (fun hg5_2 => ?_)
   · exfalso
     simp at hg5_2
   have hg5_2' := hg5_2; (try simp only [nrm] at hg5_2')
   all_goals
    refine wl_s rfl (want_n rfl rfl rfl rfl (by rw [hg5_2]; rfl)) ?_
    refine wl_s rfl (want_n rfl rfl rfl rfl (by rw [hg5_2]; rfl)) ?_
    refine wl_s rfl (want_n rfl rfl rfl rfl (by rw [hg5_2]; rfl)) ?_
    refine wl_s rfl (want_n rfl rfl rfl rfl (by rw [hg5_2]; rfl)) ?_
    refine wl_s rfl (want_u rfl rfl rfl rfl) ?_
    refine wl_s rfl (want_u rfl rfl rfl rfl) ?_
    refine wl_s rfl (want_u rfl rfl rfl rfl) ?_
    refine wl_s rfl (want_n rfl rfl rfl rfl (by rw [hg5_2]; rfl)) ?_
    refine wl_v (x_pickT (tmB rfl rfl) hg5_2 ev_c) ?_
    refine wl_nil ?_
    refine then_n (hK7 _ _ ?_); clear hK7 K7
    refine cnd_t (tmB rfl rfl) rfl ?_
    refine wp_seq_k ?_; intro K8 hK8
    refine wlit ?_
    refine wl_v (x_build (bc_skipL [.bool false, .int .u64 0, .int .u64 0, .bool false, .int .u64 0, .int .u64 0, .int .u16 0, .int .u16 0, .int .u8 0] <| bc_skip (.int .u32 0) <| bc_skip (.bool false) <| bc_nil) (by kernel_rfl)) ?_
    refine wl_e rfl ?_; intro K hK
    refine ow_storeA hS 1 rfl ts_32 (tmP rfl rfl) (tmA rfl rfl) rfl rfl rfl ?_
    clear hS; intro w hS
    try replace hS := St.nm (M' := [.blk _ _ [_, _, _, _, _, _, _, _, _], .blk _ _ [_, _, _, _, _, _, _, _, _, _, _], .vw _ _]) hS rfl
    refine hK _ _ ?_; clear hK K
    refine wl_v (x_assign ev_c) ?_
    refine wl_nil ?_
    refine then_n (hK8 _ _ ?_); clear hK8 K8
    refine wp_ret ?_
    refine then_r ?_
    refine ret2 rfl (.cell rfl rfl (load_rowB (cs := [_, _, _, _, _, _, _, _, _, _, _]) hS.ok 1 rfl Try.underlying32 rfl ts_32 rfl)) (.tmp rfl (show _ = Value.bool _ from rfl)) ?_
    exact ⟨rfl, hS.kp⟩
set_option maxRecDepth 100000 in
set_option maxHeartbeats 8000000 in
theorem sread6_other (l : List Nat) (s d : Ad) (sz pr : Nat) (hH : HdS 13 l s d pr sz) (h6 : pr ≠ 6) (h17 : pr ≠ 17) : ReadS 6 true l (quV adZ adZ 0 0 0 0 false) false := fun w0 A c hv hc => by
  have hS := (St.sv w0).vcons rfl hv
  refine ent (n := 54) Try.func6 rfl rfl ?_
  refine wp_seq_k ?_; intro K1 hK1
  refine wlit ?_
  refine wl_e rfl ?_; intro K hK
  refine ow_alloc hS tz_32 rfl ?_
  clear hS; intro g0_0 w hg0_0 hS
  refine hK _ _ ?_; clear hK K
  refine wl_v (x_assign ev_c) ?_
  refine wl_nil ?_
  refine then_n (hK1 _ _ ?_); clear hK1 K1
  refine wp_seq_k ?_; intro K2 hK2
  refine wlit ?_
  refine wl_v (x_assign rfl) ?_
  refine wl_nil ?_
  refine then_n (hK2 _ _ ?_); clear hK2 K2
  refine wp_seq_k ?_; intro K3 hK3
  refine wp_seq_k ?_; intro K4 hK4
  refine wlit ?_
  refine wl_v (x_move (tmB rfl rfl)) ?_
  refine wl_nil ?_
  refine then_n (hK4 _ _ ?_); clear hK4 K4
  refine cnds (tm rfl) (fun hc0 => ?_) (fun hc0 => ?_)
  · exfalso
    simp at hc0
  all_goals
   try simp only [nrm] at hc0
   refine wlit ?_
   refine wl_v (x_assign rfl) ?_
   refine wl_nil ?_
   refine then_n (hK3 _ _ ?_); clear hK3 K3
   refine wp_seq_k ?_; intro K5 hK5
   refine wlit ?_
   refine wl_v (x_move (tm rfl)) ?_
   refine wl_v (x_move (tmS rfl rfl)) ?_
   refine wl_e rfl ?_; intro K hK
   refine ow_dyn (tm rfl) Try.func13 rfl rfl (evs_cons (tmS rfl rfl) <| evs_nil) (hH _ A c (viewV hS.ok 1 rfl) hc) ?_
   rintro e w ⟨rfl, hk⟩
   refine ⟨_, rfl, ?_⟩
   replace hS := hS.kept hk
   clear hk
   refine hK _ _ ?_; clear hK K
   refine wl_v (x_move (tmT rfl rfl)) ?_
   refine wl_v (x_ext (tmT rfl rfl) rfl) ?_
   refine wl_v (x_ext (tmT rfl rfl) rfl) ?_
   refine wl_v (x_ext (tmT rfl rfl) rfl) ?_
   refine wl_e rfl ?_; intro K hK
   refine ow_alloc hS tz_29 rfl ?_
   clear hS; intro g4_7 w hg4_7 hS
   refine hK _ _ ?_; clear hK K
   refine wl_e rfl ?_; intro K hK
   refine ow_storeA hS 0 rfl ts_29 (tmP rfl rfl) (tmA rfl rfl) rfl rfl rfl ?_
   clear hS; intro w hS
   try replace hS := St.nm (M' := [.blk _ _ [_, _, _, _, _, _, _, _, _], .blk _ _ [_, _, _, _, _, _, _, _, _, _, _], .vw _ _]) hS rfl
   refine hK _ _ ?_; clear hK K
   refine wl_v (x_assign (tmS rfl rfl)) ?_
   refine wl_v (x_assign (tmB rfl rfl)) ?_
   refine wl_nil ?_
   refine then_n (hK5 _ _ ?_); clear hK5 K5
   refine wp_seq_k ?_; intro K6 hK6
   refine wp_seq_k ?_; intro K7 hK7
   refine wlit ?_
   refine wl_v (x_move (tmB rfl rfl)) ?_
   refine wl_v (x_not (tmB rfl rfl)) ?_
   refine wl_v (x_move (tmB rfl rfl)) ?_
   refine gs_wl (tm (t := 22) rfl) (fun hg5_2 => ?_) (fun hg5_2 => ?_)
   · exfalso
     simp at hg5_2
   have hg5_2' := hg5_2; (try simp only [nrm] at hg5_2')
   all_goals
    refine wl_gv (want_y rfl rfl rfl rfl (by rw [hg5_2]; rfl)) (x_fa 8 Try.underlying29 rfl rfl ts_5 (tmP rfl rfl)) ?_
    refine wl_gv (want_y rfl rfl rfl rfl (by rw [hg5_2]; rfl)) (x_load Try.underlying5 rfl (tmP rfl rfl) (cellB hS.ok 0 rfl rfl)) ?_
    refine wl_gv (want_y rfl rfl rfl rfl (by rw [hg5_2]; rfl)) (x_neq (tmI rfl rfl) (ev_cN 6)) ?_
    refine wl_gv (want_y rfl rfl rfl rfl (by rw [hg5_2]; rfl)) (x_move (tmB rfl rfl)) ?_
    refine gs_wls (tm (t := 26) rfl) (fun hg5_6 => ?_) (fun hg5_6 => ?_)
    · exfalso
      first | omega | (simp at hg5_6; omega)
    have hg5_6' := hg5_6; (try simp only [nrm] at hg5_6')
    all_goals
     refine wl_gv (want_y rfl rfl rfl rfl (by rw [hg5_6]; rfl)) (x_fa 8 Try.underlying29 rfl rfl ts_5 (tmP rfl rfl)) ?_
     refine wl_gv (want_y rfl rfl rfl rfl (by rw [hg5_6]; rfl)) (x_load Try.underlying5 rfl (tmP rfl rfl) (cellB hS.ok 0 rfl rfl)) ?_
     refine wl_gv (want_y rfl rfl rfl rfl (by rw [hg5_6]; rfl)) (x_neq (tmI rfl rfl) (ev_cN 17)) ?_
     refine wl_gv (want_y rfl rfl rfl rfl (by rw [hg5_2]; rfl)) (x_pickT (tmB rfl rfl) hg5_6 (tmB rfl rfl)) ?_
     refine wl_v (x_pickF (tmB rfl rfl) hg5_2 (tmB rfl rfl)) ?_
     refine wl_nil ?_
     refine then_n (hK7 _ _ ?_); clear hK7 K7
     refine cnds (tm rfl) (fun hc1 => ?_) (fun hc1 => ?_)
     · exfalso
       first | omega | (simp at hc1; omega)
     all_goals
      try simp only [nrm] at hc1
      refine wp_seq_k ?_; intro K8 hK8
      refine wlit ?_
      refine wl_v (x_build (bc_skipL [.bool false, .int .u64 0, .int .u64 0, .bool false, .int .u64 0, .int .u64 0, .int .u16 0, .int .u16 0, .int .u8 0] <| bc_skip (.int .u32 0) <| bc_skip (.bool false) <| bc_nil) (by kernel_rfl)) ?_
      refine wl_e rfl ?_; intro K hK
      refine ow_storeA hS 1 rfl ts_32 (tmP rfl rfl) (tmA rfl rfl) rfl rfl rfl ?_
      clear hS; intro w hS
      try replace hS := St.nm (M' := [.blk _ _ [_, _, _, _, _, _, _, _, _], .blk _ _ [_, _, _, _, _, _, _, _, _, _, _], .vw _ _]) hS rfl
      refine hK _ _ ?_; clear hK K
      refine wl_v (x_assign ev_c) ?_
      refine wl_nil ?_
      refine then_n (hK8 _ _ ?_); clear hK8 K8
      refine wp_ret ?_
      refine then_r ?_
      refine ret2 rfl (.cell rfl rfl (load_rowB (cs := [_, _, _, _, _, _, _, _, _, _, _]) hS.ok 1 rfl Try.underlying32 rfl ts_32 rfl)) (.tmp rfl (show _ = Value.bool _ from rfl)) ?_
      exact ⟨rfl, hS.kp⟩
end Go.Proofs.Ytcobjneobdihkaa
