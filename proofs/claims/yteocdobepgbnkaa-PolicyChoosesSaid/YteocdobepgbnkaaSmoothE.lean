
/- smooth: what a pick keeps; the law's own example (awake) by contract. Conditions: none. -/
import Derived.Test.YteocdobepgbnkaaSmoothD
namespace Go.Proofs.Yteocdobepgbnkaa
open Go.RowKit

theorem payP_len (ks : List Cr) : (payP ks).length = ks.length := by unfold payP; rw [List.length_set, addP_len]
theorem payP_getD (ks : List Cr) (h0 : 0 < ks.length) (i : Nat) (hi : i < ks.length) : (payP ks).getD i default = ⟨(ks.getD i default).backend, (ks.getD i default).weight, (ks.getD i default).owed + (ks.getD i default).weight - (if besP ks ks.length = i then totP ks ks.length else 0)⟩ := by
  have hb := besP_lt ks ks.length h0
  unfold payP
  rw [set_getD _ _ _ _ (by rw [addP_len]; exact hb)]
  rw [addP_getD ks ks.length (Nat.le_refl _) i, if_pos hi]
  split
  · rename_i h; subst h; rw [addP_getD ks ks.length (Nat.le_refl _) _, if_pos hb]; rfl
  · rw [Int.sub_zero]; rfl
theorem same_fresh (wt : List Cn) : SameP wt (wt.map fresh) := by
  refine ⟨by simp, fun i hi => ?_⟩
  have h : (wt.map fresh).getD i default = fresh (wt.getD i default) := by
    rw [List.getD_eq_getElem?_getD, List.getD_eq_getElem?_getD, List.getElem?_map, List.getElem?_eq_getElem hi]; rfl
  rw [h]; exact ⟨rfl, rfl⟩
theorem same_pay {wt : List Cn} {ks : List Cr} (h : SameP wt ks) (h0 : 0 < wt.length) : SameP wt (payP ks) := by
  refine ⟨by rw [payP_len]; exact h.1, fun i hi => ?_⟩
  rw [payP_getD ks (by rw [← h.1]; exact h0) i (by rw [← h.1]; exact hi)]
  exact h.2 i hi
theorem start_same {wt : List Cn} {ks : List Cr} (h : SameP wt ks) : startP wt ks = ks := by unfold startP; rw [if_pos (sameB_yes h)]
theorem start_nil {wt : List Cn} (h0 : 0 < wt.length) : startP wt [] = wt.map fresh := by
  unfold startP; rw [if_neg]
  rw [sameB_no (fun h => by have := h.1; simp at this; rw [this] at h0; simp at h0)]; simp
def mildB (c : Cr) : Bool := decide (0 ≤ c.weight) && decide (c.weight ≤ 1000000) && decide (-1000000000000 ≤ c.owed) && decide (c.owed ≤ 1000000000000)
theorem Mild_of {ks : List Cr} (h : ks.all mildB = true) : Mild ks := by
  intro i
  by_cases hi : i < ks.length
  · have := List.all_eq_true.1 h (ks.getD i default) (by rw [List.getD_eq_getElem?_getD, List.getElem?_eq_getElem hi]; exact List.getElem_mem hi)
    simp only [mildB, Bool.and_eq_true, decide_eq_true_eq] at this
    exact ⟨this.1.1.1, this.1.1.2, this.1.2, this.2⟩
  · rw [List.getD_eq_getElem?_getD, List.getElem?_eq_none (by omega)]
    exact ⟨by decide, by decide, by decide, by decide⟩

def exL : List Cn := [⟨0, 1, 5, 0⟩, ⟨1, 2, 1, 0⟩, ⟨2, 3, 1, 0⟩]
def exB : List Int := [1, 1, 2, 1, 3, 1, 1]
def exS : Nat → List Cr
  | 0 => exL.map fresh
  | k + 1 => payP (exS k)
def exK : Nat → List Cr
  | 0 => []
  | k + 1 => exS (k + 1)
theorem ex_wf : wfT exL 3 = exL := rfl
theorem ex_same (k : Nat) : SameP exL (exS k) := by
  induction k with
  | zero => exact same_fresh exL
  | succ k ih => exact same_pay ih (by decide)
theorem ex_start (k : Nat) : startP exL (exK k) = exS k := by
  cases k with
  | zero => exact start_nil (by decide)
  | succ k => exact start_same (ex_same (k + 1))
theorem ex_fact : ∀ k, k < 7 → (exS k).all mildB = true ∧ (exL.getD (besP (exS k) 3) default).backend = exB.getD k 0 := by decide +kernel

set_option maxRecDepth 100000 in
set_option maxHeartbeats 4000000 in
theorem awake_c (w0 : World) :
    Calls Try.prog 6 #[] w0 fun e w' => e = .returned (.bool true) ∧ Kp [] w0 w' := by
  have hS := St.sv w0
  refine ent (n := 34) Try.func6 rfl rfl ?_
  refine wp_seq_k ?_; intro K1 hK1
  refine wlit ?_
  refine wl_v (x_assign ev_c) ?_
  refine wl_nil ?_
  refine then_n (hK1 _ _ ?_); clear hK1 K1
  refine wp_seq_k ?_; intro K2 hK2
  refine wlit ?_
  refine wl_v (x_build (bc_skip (.slice none 0 0) <| bc_nil) (by kernel_rfl)) ?_
  refine wl_e rfl ?_; intro K hK
  refine ow_box hS (tmA rfl rfl) rfl ?_
  clear hS; intro g1_1 w hg1_1 hS
  refine hK _ _ ?_; clear hK K
  refine wl_v (x_assign (tmP rfl rfl)) ?_
  refine wl_nil ?_
  refine then_n (hK2 _ _ ?_); clear hK2 K2
  refine wp_seq_k ?_; intro K3 hK3
  refine wlit ?_
  refine wl_v (x_build (bc_take (ev_cN 0) <| bc_take (ev_cN 1) <| bc_take (ev_cN 5) <| bc_skip (.int .u32 0) <| bc_nil) (by kernel_rfl)) ?_
  refine wl_v (x_build (bc_take (ev_cN 1) <| bc_take (ev_cN 2) <| bc_take (ev_cN 1) <| bc_skip (.int .u32 0) <| bc_nil) (by kernel_rfl)) ?_
  refine wl_v (x_build (bc_take (ev_cN 2) <| bc_take (ev_cN 3) <| bc_take (ev_cN 1) <| bc_skip (.int .u32 0) <| bc_nil) (by kernel_rfl)) ?_
  refine wl_e rfl ?_; intro K hK
  refine ow_build hS Try.underlying36 tz_33 (bc_takeL (tmA rfl rfl) <| bc_takeL (tmA rfl rfl) <| bc_takeL (tmA rfl rfl) <| bc_nil) rfl rfl (by kernel_rfl) ?_
  clear hS; intro g2_3 w hg2_3 hS
  refine hK _ _ ?_; clear hK K
  refine wl_v (x_assign (tmS rfl rfl)) ?_
  refine wl_nil ?_
  refine then_n (hK3 _ _ ?_); clear hK3 K3
  refine wp_seq_k ?_; intro K4 hK4
  refine wp_seq_k ?_; intro K5 hK5
  refine wlit ?_
  refine wl_e rfl ?_; intro K hK
  refine ow_build hS Try.underlying61 tz_3 (bc_take (ev_cN 1) <| bc_take (ev_cN 1) <| bc_take (ev_cN 2) <| bc_take (ev_cN 1) <| bc_take (ev_cN 3) <| bc_take (ev_cN 1) <| bc_take (ev_cN 1) <| bc_nil) rfl rfl (by kernel_rfl) ?_
  clear hS; intro g3_0 w hg3_0 hS
  refine hK _ _ ?_; clear hK K
  refine wl_v (x_len Try.underlying61 (tmS rfl rfl)) ?_
  refine wl_v (x_move (ev_cN 0)) ?_
  refine wl_nil ?_
  refine then_n (hK5 _ _ ?_); clear hK5 K5
  refine wp_block ?_
  have hS := hS.nilrow 66 3
  refine lp [0, 4, 5, 6, 15, 16, 17, 18, 19, 20, 21, 22, 23, 24, 25, 26, 27, 28, 29, 30, 31, 32, 33] (fun mz g w => ∃ (k : Nat), ∃ (Ka : Option Addr), ∃ (m ck : Nat), mz = 7 - k ∧ g 15 = .int .i64 (k : Int) ∧ St [] w0 [.row (.slice Ka m ck) 66 3 m (flat crV (exK k)), .blk g1_1 27 [.slice Ka m ck], .blk g2_3 33 (flat cnV exL), .blk g3_0 3 (exB.map i64v)] w ∧ (k ≤ 7) ∧ ((exK k).length = m)) ?_ ?_
  · exact ⟨_, 0, none, 0, 0, rfl, (by first | rfl | go_num | exact congrArg (Value.int _) (by first | omega | (simp; done) | (simp; omega))), (hS.pick [0, 3, 2, 1] rfl rfl), (by omega), (by first | rfl | exact hm1)⟩
  · clear hS; intro mz g w hI
    obtain ⟨k, Ka, m, ck, rfl, hs15, hS, hk, hm⟩ := hI
    refine fr_know (d := 15) hs15 ?_; clear hs15
    refine wp_seq_k ?_; intro K6 hK6
    refine wlit ?_
    refine wl_v (x_lss (tmI rfl rfl) (tmI rfl rfl)) ?_
    refine wl_nil ?_
    refine then_n (hK6 _ _ ?_); clear hK6 K6
    refine wp_seq_k ?_; intro K7 hK7
    refine cnd (tm rfl) (fun hc0 => ?_) (fun hc0 => ?_)
    · try (exfalso; first | with_reducible exact absurd hc0 Bool.false_ne_true | with_reducible exact absurd hc0.symm Bool.false_ne_true | (simp only [nrm] at hc0; omega) | (simp at hc0; done))
      all_goals
       try simp only [nrm] at hc0
       have hk7 : k < 7 := by omega
       refine wp_skip ?_
       refine then_n (hK7 _ _ ?_); clear hK7 K7
       refine wp_seq_k ?_; intro K8 hK8
       refine wp_block ?_
       refine wp_seq_k ?_; intro K9 hK9
       refine wlit ?_
       refine wl_v (x_ixs1 Try.underlying61 ts_3 (tmS rfl rfl) (tmI rfl rfl) (by omega)) ?_
       refine wl_v (x_load Try.underlying3 rfl (tmP rfl rfl) (cellB hS.ok 3 rfl (getm (by show 0 + k < 7; omega)))) ?_
       refine wl_v (x_assign (tmI rfl rfl)) ?_
       refine wl_nil ?_
       refine then_n (hK9 _ _ ?_); clear hK9 K9
       refine wp_seq_k ?_; intro K10 hK10
       refine wlit ?_
       refine wl_v (x_move (tmP rfl rfl)) ?_
       refine wl_v (x_move (tmS rfl rfl)) ?_
       refine wl_e rfl ?_; intro K hK
       refine ow_call Try.func8 rfl rfl (evs_cons (tmP rfl rfl) <| evs_cons (tmS rfl rfl) <| evs_nil) (pick_c g1_1 Ka m ck (exK k) 3 (some ⟨g2_3, 0, none⟩) 3 exL _ _ (hS.enter [0, 1] [2] rfl rfl) rfl hm (by omega) (by rw [ex_wf, ex_start]; exact Mild_of (ex_fact k hk7).1) (by decide +kernel)) ?_
       rintro e w ⟨K2, c2, rfl, hS2⟩
       refine ⟨_, rfl, ?_⟩
       replace hS := hS.leave [0, 1] [2, 3] rfl rfl rfl (hS2.pick [0, 1] rfl rfl) rfl
       clear hS2
       rw [ex_wf, ex_start] at hS ⊢
       try replace hS := St.nm (M' := [.row _ _ _ _ _, .blk _ _ [_], _, _]) hS rfl
       refine hK _ _ ?_; clear hK K
       refine wl_v (x_move (tmT rfl rfl)) ?_
       refine wl_v (x_ext (tmT rfl rfl) rfl) ?_
       refine wl_v (x_ext (tmT rfl rfl) rfl) ?_
       refine wl_e rfl ?_; intro K hK
       refine ow_alloc hS tz_33 rfl ?_
       clear hS; intro g6_6 w hg6_6 hS
       refine hK _ _ ?_; clear hK K
       refine wl_e rfl ?_; intro K hK
       refine ow_storeA hS 0 rfl ts_33 (tmP rfl rfl) (tmA rfl rfl) rfl rfl rfl ?_
       clear hS; intro w hS
       try replace hS := St.nm (M' := [.blk _ _ [_, _, _, _], .row _ _ _ _ _, .blk _ _ [_], _, _]) hS rfl
       refine hK _ _ ?_; clear hK K
       refine wl_v (x_assign (tmB rfl rfl)) ?_
       refine wl_nil ?_
       refine then_n (hK10 _ _ ?_); clear hK10 K10
       refine wp_seq_k ?_; intro K11 hK11
       refine wlit ?_
       refine wl_v (x_move (tmB rfl rfl)) ?_
       refine wl_v (x_not (tmB rfl rfl)) ?_
       refine wl_v (x_move (tmB rfl rfl)) ?_
       refine gs_wl (tm (t := 27) rfl) (fun hg7_2 => ?_) (fun hg7_2 => ?_)
       · exfalso
         exact absurd hg7_2 (by decide)
       have hg7_2' := hg7_2; (try simp only [nrm] at hg7_2'); try (exfalso; first | with_reducible exact absurd hg7_2 Bool.false_ne_true | with_reducible exact absurd hg7_2.symm Bool.false_ne_true | omega | (simp at hg7_2; done))
       all_goals
        refine wl_gv (want_y rfl rfl rfl rfl (by rw [hg7_2]; rfl)) (x_fa 1 Try.underlying33 rfl rfl ts_3 (tmP rfl rfl)) ?_
        first
         | refine wl_gv (want_y rfl rfl rfl rfl (by rw [hg7_2]; rfl)) (x_load Try.underlying3 rfl (tmP rfl rfl) (cellB hS.ok 0 rfl rfl)) ?_
         | refine wl_gv (want_y rfl rfl rfl rfl (by rw [hg7_2]; rfl)) (x_load Try.underlying3 rfl (tmP rfl rfl) (cellB hS.ok 0 rfl (getm (by omega)))) ?_
        refine wl_gv (want_y rfl rfl rfl rfl (by rw [hg7_2]; rfl)) (x_move (tmI rfl rfl)) ?_
        refine wl_gv (want_y rfl rfl rfl rfl (by rw [hg7_2]; rfl)) (x_neq (tmI rfl rfl) (tmI rfl rfl)) ?_
        refine wl_v (x_pickF (tmB rfl rfl) hg7_2 (tmB rfl rfl)) ?_
        refine wl_nil ?_
        refine then_n (hK11 _ _ ?_); clear hK11 K11
        refine cnd (tm rfl) (fun hc1 => ?_) (fun hc1 => ?_)
        · exfalso
          have h1 := (ex_fact k hk7).2
          rw [Nat.zero_add, show exL.length = 3 from rfl, h1] at hc1
          simp at hc1
        try (exfalso; first | with_reducible exact absurd hc1 Bool.false_ne_true | with_reducible exact absurd hc1.symm Bool.false_ne_true | (simp only [nrm] at hc1; omega) | (simp at hc1; done))
        all_goals
         try simp only [nrm] at hc1
         refine wp_skip ?_
         refine inb_n ?_
         refine then_n (hK8 _ _ ?_); clear hK8 K8
         refine wlit ?_
         first
          | refine wl_v (x_addN (tmI rfl rfl) (ev_cN 1) (fit_i64 (by omega))) ?_
          | refine wl_v (x_addI (tmI rfl rfl) (ev_cN 1) (IntWalk.i64_in _ (by omega))) ?_
          | refine wl_v (x_add (tmI rfl rfl) (ev_cN 1)) ?_
         refine wl_v (x_move (tmI rfl rfl)) ?_
         refine wl_nil ?_
         have hm1 : (exK (k + 1)).length = exL.length := (ex_same (k + 1)).1.symm
         exact then_n ⟨_, _, rfl, (by show _ < _; omega), (by repeat (first | exact agree_self | exact agree_refl | refine agree_upd rfl ?_ | refine agree_mix rfl ?_)), k + 1, _, _, _, rfl, (by first | rfl | go_num | exact congrArg (Value.int _) (by first | omega | (simp; done) | (simp; omega))), (by exact hS.pick [1, 2, 3, 4] rfl rfl), (by omega), (by first | rfl | exact hm1)⟩
    try (exfalso; first | with_reducible exact absurd hc0 Bool.false_ne_true | with_reducible exact absurd hc0.symm Bool.false_ne_true | (simp only [nrm] at hc0; omega) | (simp at hc0; done))
    all_goals
     try simp only [nrm] at hc0
     refine wp_exit ?_
     refine then_x ?_; clear hK7 K7
     refine then_x ?_
     refine inb_x ?_
     refine then_n (hK4 _ _ ?_); clear hK4 K4
     refine wp_seq_k ?_; intro K12 hK12
     refine wlit ?_
     refine wl_v (x_assign ev_c) ?_
     refine wl_nil ?_
     refine then_n (hK12 _ _ ?_); clear hK12 K12
     refine wp_ret ?_
     refine ret1 rfl (.tmp rfl (show _ = Value.bool _ from rfl)) ?_
     exact ⟨rfl, hS.kp⟩
end Go.Proofs.Yteocdobepgbnkaa
