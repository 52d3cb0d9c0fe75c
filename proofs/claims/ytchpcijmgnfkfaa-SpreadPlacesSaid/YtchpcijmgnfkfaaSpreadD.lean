
/- spread.Without and the reference's by contracts; the law SpreadPlaces. Conditions: none but bounds. -/
import Derived.Test.YtchpcijmgnfkfaaSpreadC
namespace Go.Proofs.Ytchpcijmgnfkfaa
open Go.RowKit

theorem oth_mem (g : Int) (l : List Int) (k : Nat) : ∀ x ∈ oth g l k, x ≠ g := by
  induction k with
  | zero => simp [oth]
  | succ k ih =>
    intro x hx
    simp only [oth] at hx
    split at hx
    · exact ih x hx
    · next h0 =>
      rcases List.mem_append.1 hx with h | h
      · exact ih x h
      · rw [List.mem_singleton] at h; rw [h]; exact h0
theorem wst_mem (t : List Int) (g : Int) (o : List Int) (ho : 0 < o.length) (hg : ∀ x ∈ o, x ≠ g) (k : Nat) : ∀ x ∈ (wst t g o k).1, x ≠ g := by
  induction k with
  | zero => simp [wst]
  | succ k ih =>
    intro x hx
    simp only [wst] at hx
    split at hx
    · rcases List.mem_append.1 hx with h | h
      · exact ih x h
      · rw [List.mem_singleton] at h
        rw [h, List.getD_eq_getElem?_getD, List.getElem?_eq_getElem (Nat.mod_lt _ ho)]
        exact hg _ (List.getElem_mem _)
    · next h0 =>
      rcases List.mem_append.1 hx with h | h
      · exact ih x h
      · rw [List.mem_singleton] at h; rw [h]; exact h0
theorem cnt_none (q : Int) (l : List Int) (h : ∀ x ∈ l, x ≠ q) (k : Nat) (hk : k ≤ l.length) : cntTo q l k = 0 := by
  induction k with
  | zero => rfl
  | succ k ih =>
    simp only [cntTo]
    rw [ih (by omega), if_neg]
    rw [List.getD_eq_getElem?_getD, List.getElem?_eq_getElem (by omega)]
    exact h _ (List.getElem_mem _)


set_option maxRecDepth 100000 in
set_option maxHeartbeats 4000000 in
theorem without_bad (n : Nat) (A : Option Addr) (c : Nat) (l : List Int) (gone : Int) (n4 : Nat) (A4 : Option Addr) (c4 : Nat) (left : List Int) (w0 : World) (hv : View w0 w0.heap.size A (l.map i64v)) (hv4 : View w0 w0.heap.size A4 (left.map i64v)) (hl4 : left.length = n4) (hn4 : n4 ≤ 1000000)
    (he : oth gone left n4 = []) :
    Calls Try.prog 41 #[.agg #[.slice A n c], .int .i64 gone, .slice A4 n4 c4] w0 fun e w' => e = .returned (.tuple #[.agg #[.slice none 0 0], .int .i64 1]) ∧ Kp [] w0 w' := by
  have hS := ((St.sv w0).vcons rfl hv).vcons rfl hv4
  refine ent (n := 61) Try.func41 rfl rfl ?_
  refine wp_seq_k ?_; intro K1 hK1
  refine wlit ?_
  refine wl_e rfl ?_; intro K hK
  refine ow_box hS (tmA rfl rfl) rfl ?_
  clear hS; intro g0_0 w hg0_0 hS
  refine hK _ _ ?_; clear hK K
  refine wl_e rfl ?_; intro K hK
  refine ow_alloc hS tz_61 rfl ?_
  clear hS; intro g0_1 w hg0_1 hS
  refine hK _ _ ?_; clear hK K
  refine wl_v (x_assign (ev_cN 0)) ?_
  refine wl_nil ?_
  refine then_n (hK1 _ _ ?_); clear hK1 K1
  refine wp_seq_k ?_; intro K2 hK2
  refine wlit ?_
  refine wl_v (x_assign ev_c) ?_
  refine wl_nil ?_
  refine then_n (hK2 _ _ ?_); clear hK2 K2
  refine wp_seq_k ?_; intro K3 hK3
  refine wp_seq_k ?_; intro K4 hK4
  refine wlit ?_
  refine wl_v (x_move (tmS rfl rfl)) ?_
  refine wl_v (x_len Try.underlying53 (tmS rfl rfl)) ?_
  refine wl_v (x_move (ev_cN 0)) ?_
  refine wl_nil ?_
  refine then_n (hK4 _ _ ?_); clear hK4 K4
  refine wp_block ?_
  have hS := hS.nilrow 3 1
  refine lp [8, 10, 17, 18, 19, 20, 21, 22, 23, 24, 25, 26, 27, 28] (fun m g w => ∃ (k : Nat), ∃ (o : List Int), ∃ (q : Nat), ∃ (A' : Option Addr), ∃ (c' : Nat), m = n4 - k ∧ g 17 = .int .i64 (k : Int) ∧ g 8 = .slice A' q c' ∧ St [] w0 [.row (.slice A' q c') 3 1 q (o.map i64v), .blk g0_1 61 [.slice none 0 0], .blk g0_0 61 [.slice A n c], .vw A4 (left.map i64v), .vw A (l.map i64v)] w ∧ (k ≤ n4) ∧ (o = oth gone left k) ∧ (q = o.length)) ?_ ?_
  · exact ⟨_, 0, [], 0, none, 0, rfl, (by first | rfl | go_num), (by first | rfl | go_num), hS, (by omega), (by first | rfl | (simp only [oth]; rw [if_pos hx, ← ho]) | (simp only [oth]; rw [if_neg hx, ← ho])), (by first | rfl | exact hq | (simp; exact hq))⟩
  · clear hS; intro m g w hI
    obtain ⟨k, o, q, A', c', rfl, hs17, hs8, hS, hk, ho, hq⟩ := hI
    refine fr_know (d := 17) hs17 ?_; clear hs17
    refine fr_know (d := 8) hs8 ?_; clear hs8
    refine wp_seq_k ?_; intro K5 hK5
    refine wlit ?_
    refine wl_v (x_lss (tmI rfl rfl) (tmI rfl rfl)) ?_
    refine wl_nil ?_
    refine then_n (hK5 _ _ ?_); clear hK5 K5
    refine wp_seq_k ?_; intro K6 hK6
    refine cnd (tm rfl) (fun hc0 => ?_) (fun hc0 => ?_)
    · try (exfalso; first | with_reducible exact absurd hc0 Bool.false_ne_true | with_reducible exact absurd hc0.symm Bool.false_ne_true | (simp only [nrm] at hc0; omega))
      all_goals
       try simp only [nrm] at hc0
       obtain ⟨b4, o4, rfl⟩ := view_some hv4 (by simp; omega)
       have hql : o.length ≤ k := by rw [ho]; exact oth_le _ _ _
       refine wp_skip ?_
       refine then_n (hK6 _ _ ?_); clear hK6 K6
       refine wp_seq_k ?_; intro K7 hK7
       refine wp_block ?_
       refine wp_seq_k ?_; intro K8 hK8
       refine wlit ?_
       refine wl_v (x_ixs1 Try.underlying53 ts_3 (tmS rfl rfl) (tmI rfl rfl) (by omega)) ?_
       first
        | refine wl_v (x_load Try.underlying3 rfl (tmP rfl rfl) (cellB hS.ok 0 rfl rfl)) ?_
        | refine wl_v (x_load Try.underlying3 rfl (tmP rfl rfl) (cellB hS.ok 1 rfl rfl)) ?_
        | refine wl_v (x_load Try.underlying3 rfl (tmP rfl rfl) (cellB hS.ok 2 rfl rfl)) ?_
        | refine wl_v (x_load Try.underlying3 rfl (tmP rfl rfl) (cellB hS.ok 3 rfl rfl)) ?_
        | refine wl_v (x_load Try.underlying3 rfl (tmP rfl rfl) (cellB hS.ok 4 rfl rfl)) ?_
        | refine wl_v (x_load Try.underlying3 rfl (tmP rfl rfl) (cellV hS.ok 0 rfl rfl)) ?_
        | refine wl_v (x_load Try.underlying3 rfl (tmP rfl rfl) (cellV hS.ok 0 rfl (getm (by omega)))) ?_
        | refine wl_v (x_load Try.underlying3 rfl (tmP rfl rfl) (cellVs hS.ok 0 rfl (fun _ => rfl) rfl (by omega) rfl)) ?_
        | refine wl_v (x_load Try.underlying3 rfl (tmP rfl rfl) (cellR hS.ok 0 rfl rfl)) ?_
        | refine wl_v (x_load Try.underlying3 rfl (tmP rfl rfl) (cellR hS.ok 0 rfl (getm (by omega)))) ?_
        | refine wl_v (x_load Try.underlying3 rfl (tmP rfl rfl) (cellRs hS.ok 0 rfl (fun _ => rfl) rfl (by omega) rfl)) ?_
        | refine wl_v (x_load Try.underlying3 rfl (tmP rfl rfl) (cellV hS.ok 1 rfl rfl)) ?_
        | refine wl_v (x_load Try.underlying3 rfl (tmP rfl rfl) (cellV hS.ok 1 rfl (getm (by omega)))) ?_
        | refine wl_v (x_load Try.underlying3 rfl (tmP rfl rfl) (cellVs hS.ok 1 rfl (fun _ => rfl) rfl (by omega) rfl)) ?_
        | refine wl_v (x_load Try.underlying3 rfl (tmP rfl rfl) (cellR hS.ok 1 rfl rfl)) ?_
        | refine wl_v (x_load Try.underlying3 rfl (tmP rfl rfl) (cellR hS.ok 1 rfl (getm (by omega)))) ?_
        | refine wl_v (x_load Try.underlying3 rfl (tmP rfl rfl) (cellRs hS.ok 1 rfl (fun _ => rfl) rfl (by omega) rfl)) ?_
        | refine wl_v (x_load Try.underlying3 rfl (tmP rfl rfl) (cellV hS.ok 2 rfl rfl)) ?_
        | refine wl_v (x_load Try.underlying3 rfl (tmP rfl rfl) (cellV hS.ok 2 rfl (getm (by omega)))) ?_
        | refine wl_v (x_load Try.underlying3 rfl (tmP rfl rfl) (cellVs hS.ok 2 rfl (fun _ => rfl) rfl (by omega) rfl)) ?_
        | refine wl_v (x_load Try.underlying3 rfl (tmP rfl rfl) (cellR hS.ok 2 rfl rfl)) ?_
        | refine wl_v (x_load Try.underlying3 rfl (tmP rfl rfl) (cellR hS.ok 2 rfl (getm (by omega)))) ?_
        | refine wl_v (x_load Try.underlying3 rfl (tmP rfl rfl) (cellRs hS.ok 2 rfl (fun _ => rfl) rfl (by omega) rfl)) ?_
        | refine wl_v (x_load Try.underlying3 rfl (tmP rfl rfl) (cellV hS.ok 3 rfl rfl)) ?_
        | refine wl_v (x_load Try.underlying3 rfl (tmP rfl rfl) (cellV hS.ok 3 rfl (getm (by omega)))) ?_
        | refine wl_v (x_load Try.underlying3 rfl (tmP rfl rfl) (cellVs hS.ok 3 rfl (fun _ => rfl) rfl (by omega) rfl)) ?_
        | refine wl_v (x_load Try.underlying3 rfl (tmP rfl rfl) (cellR hS.ok 3 rfl rfl)) ?_
        | refine wl_v (x_load Try.underlying3 rfl (tmP rfl rfl) (cellR hS.ok 3 rfl (getm (by omega)))) ?_
        | refine wl_v (x_load Try.underlying3 rfl (tmP rfl rfl) (cellRs hS.ok 3 rfl (fun _ => rfl) rfl (by omega) rfl)) ?_
        | refine wl_v (x_load Try.underlying3 rfl (tmP rfl rfl) (cellV hS.ok 4 rfl rfl)) ?_
        | refine wl_v (x_load Try.underlying3 rfl (tmP rfl rfl) (cellV hS.ok 4 rfl (getm (by omega)))) ?_
        | refine wl_v (x_load Try.underlying3 rfl (tmP rfl rfl) (cellVs hS.ok 4 rfl (fun _ => rfl) rfl (by omega) rfl)) ?_
        | refine wl_v (x_load Try.underlying3 rfl (tmP rfl rfl) (cellR hS.ok 4 rfl rfl)) ?_
        | refine wl_v (x_load Try.underlying3 rfl (tmP rfl rfl) (cellR hS.ok 4 rfl (getm (by omega)))) ?_
        | refine wl_v (x_load Try.underlying3 rfl (tmP rfl rfl) (cellRs hS.ok 4 rfl (fun _ => rfl) rfl (by omega) rfl)) ?_
       refine wl_v (x_assign (tmI rfl rfl)) ?_
       refine wl_nil ?_
       refine then_n (hK8 _ _ ?_); clear hK8 K8
       refine wp_seq_k ?_; intro K9 hK9
       refine wlit ?_
       refine wl_v (x_move (tmI rfl rfl)) ?_
       refine wl_v (x_move (tmI rfl rfl)) ?_
       refine wl_v (x_neq (tmI rfl rfl) (tmI rfl rfl)) ?_
       refine wl_nil ?_
       refine then_n (hK9 _ _ ?_); clear hK9 K9
       refine cnd (tm rfl) (fun hc1 => ?_) (fun hc1 => ?_)
       · try (exfalso; first | with_reducible exact absurd hc1 Bool.false_ne_true | with_reducible exact absurd hc1.symm Bool.false_ne_true | (simp only [nrm] at hc1; omega))
         all_goals
          try simp only [nrm] at hc1
          have hx : ¬ left.getD k 0 = gone := by simpa using hc1
          refine wlit ?_
          refine wl_v (x_move (tmS rfl rfl)) ?_
          refine wl_v (x_move (tmI rfl rfl)) ?_
          refine wl_e rfl ?_; intro K hK
          refine ow_build hS Try.underlying53 tz_3 (bc_take (tmI rfl rfl) <| bc_nil) rfl rfl (by kernel_rfl) ?_
          clear hS; intro g6_2 w hg6_2 hS
          refine hK _ _ ?_; clear hK K
          refine wl_e rfl ?_; intro K hK
          refine ow_append hS 1 0 rfl rfl Try.underlying53 tz_3 rfl (tmS rfl rfl) (tmS rfl rfl) rfl ⟨by decide, by decide, rfl⟩ (by simp only [maxLen]; omega) (by omega) ?_
          clear hS; intro g6_3 cg6_3 w hS
          refine hK _ _ ?_; clear hK K
          refine wl_v (x_assign (tmS rfl rfl)) ?_
          refine wl_nil ?_
          refine inb_n ?_
          refine then_n (hK7 _ _ ?_); clear hK7 K7
          refine wlit ?_
          first
           | refine wl_v (x_addN (tmI rfl rfl) (ev_cN 1) (fit_i64 (by omega))) ?_
           | refine wl_v (x_addI (tmI rfl rfl) (ev_cN 1) (IntWalk.i64_in _ (by omega))) ?_
           | refine wl_v (x_add (tmI rfl rfl) (ev_cN 1)) ?_
          refine wl_v (x_move (tmI rfl rfl)) ?_
          refine wl_nil ?_
          first
           | exact then_n ⟨_, _, rfl, (by show _ < _; omega), (by repeat (first | exact agree_self | exact agree_refl | refine agree_upd rfl ?_ | refine agree_mix rfl ?_)), k + 1, o ++ [left.getD k 0], q + 1, _, _, rfl, (by first | rfl | go_num), (by first | rfl | go_num), (by rw [List.map_append]; exact hS.pick [1, 2, 3, 4, 5] rfl rfl), (by omega), (by first | rfl | (simp only [oth]; rw [if_pos hx, ← ho]) | (simp only [oth]; rw [if_neg hx, ← ho])), (by first | rfl | exact hq | (simp; exact hq))⟩
           | exact then_n ⟨_, _, rfl, (by show _ < _; omega), (by repeat (first | exact agree_self | exact agree_refl | refine agree_upd rfl ?_ | refine agree_mix rfl ?_)), k + 1, o, q, _, _, rfl, (by first | rfl | go_num), (by first | rfl | go_num), hS, (by omega), (by first | rfl | (simp only [oth]; rw [if_pos hx, ← ho]) | (simp only [oth]; rw [if_neg hx, ← ho])), (by first | rfl | exact hq | (simp; exact hq))⟩
       try simp only [nrm] at hc1
       have hx : left.getD k 0 = gone := by simpa using hc1
       refine wp_skip ?_
       refine inb_n ?_
       refine then_n (hK7 _ _ ?_); clear hK7 K7
       refine wlit ?_
       first
        | refine wl_v (x_addN (tmI rfl rfl) (ev_cN 1) (fit_i64 (by omega))) ?_
        | refine wl_v (x_addI (tmI rfl rfl) (ev_cN 1) (IntWalk.i64_in _ (by omega))) ?_
        | refine wl_v (x_add (tmI rfl rfl) (ev_cN 1)) ?_
       refine wl_v (x_move (tmI rfl rfl)) ?_
       refine wl_nil ?_
       first
        | exact then_n ⟨_, _, rfl, (by show _ < _; omega), (by repeat (first | exact agree_self | exact agree_refl | refine agree_upd rfl ?_ | refine agree_mix rfl ?_)), k + 1, o ++ [left.getD k 0], q + 1, _, _, rfl, (by first | rfl | go_num), (by first | rfl | go_num), (by rw [List.map_append]; exact hS.pick [1, 2, 3, 4, 5] rfl rfl), (by omega), (by first | rfl | (simp only [oth]; rw [if_pos hx, ← ho]) | (simp only [oth]; rw [if_neg hx, ← ho])), (by first | rfl | exact hq | (simp; exact hq))⟩
        | exact then_n ⟨_, _, rfl, (by show _ < _; omega), (by repeat (first | exact agree_self | exact agree_refl | refine agree_upd rfl ?_ | refine agree_mix rfl ?_)), k + 1, o, q, _, _, rfl, (by first | rfl | go_num), (by first | rfl | go_num), hS, (by omega), (by first | rfl | (simp only [oth]; rw [if_pos hx, ← ho]) | (simp only [oth]; rw [if_neg hx, ← ho])), (by first | rfl | exact hq | (simp; exact hq))⟩
    try simp only [nrm] at hc0
    refine wp_exit ?_
    refine then_x ?_; clear hK6 K6
    refine then_x ?_
    refine inb_x ?_
    refine then_n (hK3 _ _ ?_); clear hK3 K3
    refine wp_seq_k ?_; intro K10 hK10
    refine wp_seq_k ?_; intro K11 hK11
    obtain rfl : k = n4 := by omega
    refine wlit ?_
    refine wl_v (x_move (tmS rfl rfl)) ?_
    refine wl_v (x_len Try.underlying53 (tmS rfl rfl)) ?_
    refine wl_v (x_eql (tmI rfl rfl) (ev_cN 0)) ?_
    refine wl_nil ?_
    refine then_n (hK11 _ _ ?_); clear hK11 K11
    refine cnds (tm rfl) (fun hc2 => ?_) (fun hc2 => ?_)
    · exfalso
      have h0 : q = 0 := by rw [hq, ho, he]; rfl
      have h1 := of_decide_eq_false hc2
      omega
    try simp only [nrm] at hc2
    refine wp_seq_k ?_; intro K12 hK12
    refine wlit ?_
    refine wl_v (x_build (bc_skip (.slice none 0 0) <| bc_nil) (by kernel_rfl)) ?_
    refine wl_e rfl ?_; intro K hK
    refine ow_storeA hS 1 rfl ts_61 (tmP rfl rfl) (tmA rfl rfl) rfl rfl rfl ?_
    clear hS; intro w hS
    refine hK _ _ ?_; clear hK K
    refine wl_v (x_assign (ev_cN 1)) ?_
    refine wl_nil ?_
    refine then_n (hK12 _ _ ?_); clear hK12 K12
    refine wp_ret ?_
    refine then_r ?_
    refine ret2 rfl (.cell rfl rfl (load_rowB (cs := [_]) hS.ok 1 rfl Try.underlying61 rfl ts_61 rfl)) (.tmp rfl (show _ = Value.int _ _ from rfl)) ?_
    exact ⟨rfl, hS.kp⟩

set_option maxRecDepth 100000 in
set_option maxHeartbeats 8000000 in
theorem without_ok (n : Nat) (A : Option Addr) (c : Nat) (l : List Int) (gone : Int) (n4 : Nat) (A4 : Option Addr) (c4 : Nat) (left : List Int) (w0 : World) (hv : View w0 w0.heap.size A (l.map i64v)) (hv4 : View w0 w0.heap.size A4 (left.map i64v)) (hl4 : left.length = n4) (hn4 : n4 ≤ 1000000)
    (hl : l.length = n) (hn : 1 ≤ n) (hn1 : n ≤ 1000000) (hnc : n ≤ c) (he : oth gone left n4 ≠ []) :
    Calls Try.prog 41 #[.agg #[.slice A n c], .int .i64 gone, .slice A4 n4 c4] w0 fun e w' => ∃ A' c', e = .returned (.tuple #[.agg #[.slice A' n c'], .int .i64 0]) ∧ New w0 w' (.row (.slice A' n c') 3 1 n ((wst l gone (oth gone left n4) n).1.map i64v)) ∧ Kp [] w0 w' := by
  obtain ⟨bt, ot, rfl⟩ := view_some hv (by simp; omega)
  have hS := ((St.sv w0).vcons rfl hv).vcons rfl hv4
  refine ent (n := 61) Try.func41 rfl rfl ?_
  refine wp_seq_k ?_; intro K1 hK1
  refine wlit ?_
  refine wl_e rfl ?_; intro K hK
  refine ow_box hS (tmA rfl rfl) rfl ?_
  clear hS; intro g0_0 w hg0_0 hS
  refine hK _ _ ?_; clear hK K
  refine wl_e rfl ?_; intro K hK
  refine ow_alloc hS tz_61 rfl ?_
  clear hS; intro g0_1 w hg0_1 hS
  refine hK _ _ ?_; clear hK K
  refine wl_v (x_assign (ev_cN 0)) ?_
  refine wl_nil ?_
  refine then_n (hK1 _ _ ?_); clear hK1 K1
  refine wp_seq_k ?_; intro K2 hK2
  refine wlit ?_
  refine wl_v (x_assign ev_c) ?_
  refine wl_nil ?_
  refine then_n (hK2 _ _ ?_); clear hK2 K2
  refine wp_seq_k ?_; intro K3 hK3
  refine wp_seq_k ?_; intro K4 hK4
  refine wlit ?_
  refine wl_v (x_move (tmS rfl rfl)) ?_
  refine wl_v (x_len Try.underlying53 (tmS rfl rfl)) ?_
  refine wl_v (x_move (ev_cN 0)) ?_
  refine wl_nil ?_
  refine then_n (hK4 _ _ ?_); clear hK4 K4
  refine wp_block ?_
  have hS := hS.nilrow 3 1
  refine lp [8, 10, 17, 18, 19, 20, 21, 22, 23, 24, 25, 26, 27, 28] (fun m g w => ∃ (k : Nat), ∃ (o : List Int), ∃ (q : Nat), ∃ (A' : Option Addr), ∃ (c' : Nat), m = n4 - k ∧ g 17 = .int .i64 (k : Int) ∧ g 8 = .slice A' q c' ∧ St [] w0 [.row (.slice A' q c') 3 1 q (o.map i64v), .blk g0_1 61 [.slice none 0 0], .blk g0_0 61 [.slice (some ⟨bt, ot, none⟩) n c], .vw A4 (left.map i64v), .vw (some ⟨bt, ot, none⟩) (l.map i64v)] w ∧ (k ≤ n4) ∧ (o = oth gone left k) ∧ (q = o.length)) ?_ ?_
  · exact ⟨_, 0, [], 0, none, 0, rfl, (by first | rfl | go_num), (by first | rfl | go_num), hS, (by omega), (by first | rfl | (simp only [oth]; rw [if_pos hx, ← ho]) | (simp only [oth]; rw [if_neg hx, ← ho])), (by first | rfl | exact hq | (simp; exact hq))⟩
  · clear hS; intro m g w hI
    obtain ⟨k, o, q, A', c', rfl, hs17, hs8, hS, hk, ho, hq⟩ := hI
    refine fr_know (d := 17) hs17 ?_; clear hs17
    refine fr_know (d := 8) hs8 ?_; clear hs8
    refine wp_seq_k ?_; intro K5 hK5
    refine wlit ?_
    refine wl_v (x_lss (tmI rfl rfl) (tmI rfl rfl)) ?_
    refine wl_nil ?_
    refine then_n (hK5 _ _ ?_); clear hK5 K5
    refine wp_seq_k ?_; intro K6 hK6
    refine cnd (tm rfl) (fun hc0 => ?_) (fun hc0 => ?_)
    · try (exfalso; first | with_reducible exact absurd hc0 Bool.false_ne_true | with_reducible exact absurd hc0.symm Bool.false_ne_true | (simp only [nrm] at hc0; omega))
      all_goals
       try simp only [nrm] at hc0
       obtain ⟨b4, o4, rfl⟩ := view_some hv4 (by simp; omega)
       have hql : o.length ≤ k := by rw [ho]; exact oth_le _ _ _
       refine wp_skip ?_
       refine then_n (hK6 _ _ ?_); clear hK6 K6
       refine wp_seq_k ?_; intro K7 hK7
       refine wp_block ?_
       refine wp_seq_k ?_; intro K8 hK8
       refine wlit ?_
       refine wl_v (x_ixs1 Try.underlying53 ts_3 (tmS rfl rfl) (tmI rfl rfl) (by omega)) ?_
       first
        | refine wl_v (x_load Try.underlying3 rfl (tmP rfl rfl) (cellB hS.ok 0 rfl rfl)) ?_
        | refine wl_v (x_load Try.underlying3 rfl (tmP rfl rfl) (cellB hS.ok 1 rfl rfl)) ?_
        | refine wl_v (x_load Try.underlying3 rfl (tmP rfl rfl) (cellB hS.ok 2 rfl rfl)) ?_
        | refine wl_v (x_load Try.underlying3 rfl (tmP rfl rfl) (cellB hS.ok 3 rfl rfl)) ?_
        | refine wl_v (x_load Try.underlying3 rfl (tmP rfl rfl) (cellB hS.ok 4 rfl rfl)) ?_
        | refine wl_v (x_load Try.underlying3 rfl (tmP rfl rfl) (cellV hS.ok 0 rfl rfl)) ?_
        | refine wl_v (x_load Try.underlying3 rfl (tmP rfl rfl) (cellV hS.ok 0 rfl (getm (by omega)))) ?_
        | refine wl_v (x_load Try.underlying3 rfl (tmP rfl rfl) (cellVs hS.ok 0 rfl (fun _ => rfl) rfl (by omega) rfl)) ?_
        | refine wl_v (x_load Try.underlying3 rfl (tmP rfl rfl) (cellR hS.ok 0 rfl rfl)) ?_
        | refine wl_v (x_load Try.underlying3 rfl (tmP rfl rfl) (cellR hS.ok 0 rfl (getm (by omega)))) ?_
        | refine wl_v (x_load Try.underlying3 rfl (tmP rfl rfl) (cellRs hS.ok 0 rfl (fun _ => rfl) rfl (by omega) rfl)) ?_
        | refine wl_v (x_load Try.underlying3 rfl (tmP rfl rfl) (cellV hS.ok 1 rfl rfl)) ?_
        | refine wl_v (x_load Try.underlying3 rfl (tmP rfl rfl) (cellV hS.ok 1 rfl (getm (by omega)))) ?_
        | refine wl_v (x_load Try.underlying3 rfl (tmP rfl rfl) (cellVs hS.ok 1 rfl (fun _ => rfl) rfl (by omega) rfl)) ?_
        | refine wl_v (x_load Try.underlying3 rfl (tmP rfl rfl) (cellR hS.ok 1 rfl rfl)) ?_
        | refine wl_v (x_load Try.underlying3 rfl (tmP rfl rfl) (cellR hS.ok 1 rfl (getm (by omega)))) ?_
        | refine wl_v (x_load Try.underlying3 rfl (tmP rfl rfl) (cellRs hS.ok 1 rfl (fun _ => rfl) rfl (by omega) rfl)) ?_
        | refine wl_v (x_load Try.underlying3 rfl (tmP rfl rfl) (cellV hS.ok 2 rfl rfl)) ?_
        | refine wl_v (x_load Try.underlying3 rfl (tmP rfl rfl) (cellV hS.ok 2 rfl (getm (by omega)))) ?_
        | refine wl_v (x_load Try.underlying3 rfl (tmP rfl rfl) (cellVs hS.ok 2 rfl (fun _ => rfl) rfl (by omega) rfl)) ?_
        | refine wl_v (x_load Try.underlying3 rfl (tmP rfl rfl) (cellR hS.ok 2 rfl rfl)) ?_
        | refine wl_v (x_load Try.underlying3 rfl (tmP rfl rfl) (cellR hS.ok 2 rfl (getm (by omega)))) ?_
        | refine wl_v (x_load Try.underlying3 rfl (tmP rfl rfl) (cellRs hS.ok 2 rfl (fun _ => rfl) rfl (by omega) rfl)) ?_
        | refine wl_v (x_load Try.underlying3 rfl (tmP rfl rfl) (cellV hS.ok 3 rfl rfl)) ?_
        | refine wl_v (x_load Try.underlying3 rfl (tmP rfl rfl) (cellV hS.ok 3 rfl (getm (by omega)))) ?_
        | refine wl_v (x_load Try.underlying3 rfl (tmP rfl rfl) (cellVs hS.ok 3 rfl (fun _ => rfl) rfl (by omega) rfl)) ?_
        | refine wl_v (x_load Try.underlying3 rfl (tmP rfl rfl) (cellR hS.ok 3 rfl rfl)) ?_
        | refine wl_v (x_load Try.underlying3 rfl (tmP rfl rfl) (cellR hS.ok 3 rfl (getm (by omega)))) ?_
        | refine wl_v (x_load Try.underlying3 rfl (tmP rfl rfl) (cellRs hS.ok 3 rfl (fun _ => rfl) rfl (by omega) rfl)) ?_
        | refine wl_v (x_load Try.underlying3 rfl (tmP rfl rfl) (cellV hS.ok 4 rfl rfl)) ?_
        | refine wl_v (x_load Try.underlying3 rfl (tmP rfl rfl) (cellV hS.ok 4 rfl (getm (by omega)))) ?_
        | refine wl_v (x_load Try.underlying3 rfl (tmP rfl rfl) (cellVs hS.ok 4 rfl (fun _ => rfl) rfl (by omega) rfl)) ?_
        | refine wl_v (x_load Try.underlying3 rfl (tmP rfl rfl) (cellR hS.ok 4 rfl rfl)) ?_
        | refine wl_v (x_load Try.underlying3 rfl (tmP rfl rfl) (cellR hS.ok 4 rfl (getm (by omega)))) ?_
        | refine wl_v (x_load Try.underlying3 rfl (tmP rfl rfl) (cellRs hS.ok 4 rfl (fun _ => rfl) rfl (by omega) rfl)) ?_
       refine wl_v (x_assign (tmI rfl rfl)) ?_
       refine wl_nil ?_
       refine then_n (hK8 _ _ ?_); clear hK8 K8
       refine wp_seq_k ?_; intro K9 hK9
       refine wlit ?_
       refine wl_v (x_move (tmI rfl rfl)) ?_
       refine wl_v (x_move (tmI rfl rfl)) ?_
       refine wl_v (x_neq (tmI rfl rfl) (tmI rfl rfl)) ?_
       refine wl_nil ?_
       refine then_n (hK9 _ _ ?_); clear hK9 K9
       refine cnd (tm rfl) (fun hc1 => ?_) (fun hc1 => ?_)
       · try (exfalso; first | with_reducible exact absurd hc1 Bool.false_ne_true | with_reducible exact absurd hc1.symm Bool.false_ne_true | (simp only [nrm] at hc1; omega))
         all_goals
          try simp only [nrm] at hc1
          have hx : ¬ left.getD k 0 = gone := by simpa using hc1
          refine wlit ?_
          refine wl_v (x_move (tmS rfl rfl)) ?_
          refine wl_v (x_move (tmI rfl rfl)) ?_
          refine wl_e rfl ?_; intro K hK
          refine ow_build hS Try.underlying53 tz_3 (bc_take (tmI rfl rfl) <| bc_nil) rfl rfl (by kernel_rfl) ?_
          clear hS; intro g6_2 w hg6_2 hS
          refine hK _ _ ?_; clear hK K
          refine wl_e rfl ?_; intro K hK
          refine ow_append hS 1 0 rfl rfl Try.underlying53 tz_3 rfl (tmS rfl rfl) (tmS rfl rfl) rfl ⟨by decide, by decide, rfl⟩ (by simp only [maxLen]; omega) (by omega) ?_
          clear hS; intro g6_3 cg6_3 w hS
          refine hK _ _ ?_; clear hK K
          refine wl_v (x_assign (tmS rfl rfl)) ?_
          refine wl_nil ?_
          refine inb_n ?_
          refine then_n (hK7 _ _ ?_); clear hK7 K7
          refine wlit ?_
          first
           | refine wl_v (x_addN (tmI rfl rfl) (ev_cN 1) (fit_i64 (by omega))) ?_
           | refine wl_v (x_addI (tmI rfl rfl) (ev_cN 1) (IntWalk.i64_in _ (by omega))) ?_
           | refine wl_v (x_add (tmI rfl rfl) (ev_cN 1)) ?_
          refine wl_v (x_move (tmI rfl rfl)) ?_
          refine wl_nil ?_
          first
           | exact then_n ⟨_, _, rfl, (by show _ < _; omega), (by repeat (first | exact agree_self | exact agree_refl | refine agree_upd rfl ?_ | refine agree_mix rfl ?_)), k + 1, o ++ [left.getD k 0], q + 1, _, _, rfl, (by first | rfl | go_num), (by first | rfl | go_num), (by rw [List.map_append]; exact hS.pick [1, 2, 3, 4, 5] rfl rfl), (by omega), (by first | rfl | (simp only [oth]; rw [if_pos hx, ← ho]) | (simp only [oth]; rw [if_neg hx, ← ho])), (by first | rfl | exact hq | (simp; exact hq))⟩
           | exact then_n ⟨_, _, rfl, (by show _ < _; omega), (by repeat (first | exact agree_self | exact agree_refl | refine agree_upd rfl ?_ | refine agree_mix rfl ?_)), k + 1, o, q, _, _, rfl, (by first | rfl | go_num), (by first | rfl | go_num), hS, (by omega), (by first | rfl | (simp only [oth]; rw [if_pos hx, ← ho]) | (simp only [oth]; rw [if_neg hx, ← ho])), (by first | rfl | exact hq | (simp; exact hq))⟩
       try simp only [nrm] at hc1
       have hx : left.getD k 0 = gone := by simpa using hc1
       refine wp_skip ?_
       refine inb_n ?_
       refine then_n (hK7 _ _ ?_); clear hK7 K7
       refine wlit ?_
       first
        | refine wl_v (x_addN (tmI rfl rfl) (ev_cN 1) (fit_i64 (by omega))) ?_
        | refine wl_v (x_addI (tmI rfl rfl) (ev_cN 1) (IntWalk.i64_in _ (by omega))) ?_
        | refine wl_v (x_add (tmI rfl rfl) (ev_cN 1)) ?_
       refine wl_v (x_move (tmI rfl rfl)) ?_
       refine wl_nil ?_
       first
        | exact then_n ⟨_, _, rfl, (by show _ < _; omega), (by repeat (first | exact agree_self | exact agree_refl | refine agree_upd rfl ?_ | refine agree_mix rfl ?_)), k + 1, o ++ [left.getD k 0], q + 1, _, _, rfl, (by first | rfl | go_num), (by first | rfl | go_num), (by rw [List.map_append]; exact hS.pick [1, 2, 3, 4, 5] rfl rfl), (by omega), (by first | rfl | (simp only [oth]; rw [if_pos hx, ← ho]) | (simp only [oth]; rw [if_neg hx, ← ho])), (by first | rfl | exact hq | (simp; exact hq))⟩
        | exact then_n ⟨_, _, rfl, (by show _ < _; omega), (by repeat (first | exact agree_self | exact agree_refl | refine agree_upd rfl ?_ | refine agree_mix rfl ?_)), k + 1, o, q, _, _, rfl, (by first | rfl | go_num), (by first | rfl | go_num), hS, (by omega), (by first | rfl | (simp only [oth]; rw [if_pos hx, ← ho]) | (simp only [oth]; rw [if_neg hx, ← ho])), (by first | rfl | exact hq | (simp; exact hq))⟩
    try simp only [nrm] at hc0
    refine wp_exit ?_
    refine then_x ?_; clear hK6 K6
    refine then_x ?_
    refine inb_x ?_
    refine then_n (hK3 _ _ ?_); clear hK3 K3
    refine wp_seq_k ?_; intro K10 hK10
    refine wp_seq_k ?_; intro K11 hK11
    obtain rfl : k = n4 := by omega
    refine wlit ?_
    refine wl_v (x_move (tmS rfl rfl)) ?_
    refine wl_v (x_len Try.underlying53 (tmS rfl rfl)) ?_
    refine wl_v (x_eql (tmI rfl rfl) (ev_cN 0)) ?_
    refine wl_nil ?_
    refine then_n (hK11 _ _ ?_); clear hK11 K11
    refine cnd (tm rfl) (fun hc2 => ?_) (fun hc2 => ?_)
    · exfalso
      have h0 : 0 < q := by rw [hq, ho]; exact List.length_pos_iff.2 he
      have h1 := of_decide_eq_true hc2
      omega
    try simp only [nrm] at hc2
    have hq0 : 0 < q := by rw [hq, ho]; exact List.length_pos_iff.2 he
    have hqo : o.length = q := hq.symm
    have hqn : q ≤ k := by rw [hq, ho]; exact oth_le _ _ _
    obtain ⟨go, rfl⟩ := row_some (hS.rowOk 0 rfl) hq0
    refine wp_skip ?_
    refine then_n (hK10 _ _ ?_); clear hK10 K10
    refine wp_seq_k ?_; intro K12 hK12
    refine wlit ?_
    refine wl_v (x_fa 0 Try.underlying61 rfl rfl ts_53 (tmP rfl rfl)) ?_
    first
     | refine wl_v (x_load Try.underlying53 rfl (tmP rfl rfl) (cellB hS.ok 2 rfl rfl)) ?_
     | refine wl_v (x_load Try.underlying53 rfl (tmP rfl rfl) (cellB hS.ok 2 rfl (getm (by omega)))) ?_
    refine wl_e rfl ?_; intro K hK
    refine ow_call Try.func113 rfl rfl (evs_cons (tmS rfl rfl) <| evs_nil) (clone_c n _ c l _ (viewV hS.ok 4 rfl) hl (by intro h; cases h) hnc hn1) ?_
    rintro e w ⟨As, cs, rfl, hn0, hk0⟩
    refine ⟨_, rfl, ?_⟩
    replace hS := hS.add hk0 hn0 -- +1
    obtain ⟨gs, rfl⟩ := row_some (hS.rowOk 0 rfl) (by omega)
    refine hK _ _ ?_; clear hK K
    refine wl_v (x_assign (tmS rfl rfl)) ?_
    refine wl_nil ?_
    refine then_n (hK12 _ _ ?_); clear hK12 K12
    refine wp_seq_k ?_; intro K13 hK13
    refine wlit ?_
    refine wl_v (x_assign (ev_cN 0)) ?_
    refine wl_nil ?_
    refine then_n (hK13 _ _ ?_); clear hK13 K13
    refine wp_seq_k ?_; intro K14 hK14
    refine wp_seq_k ?_; intro K15 hK15
    refine wlit ?_
    refine wl_v (x_move (tmS rfl rfl)) ?_
    refine wl_v (x_len Try.underlying53 (tmS rfl rfl)) ?_
    refine wl_v (x_move (ev_cN 0)) ?_
    refine wl_nil ?_
    refine then_n (hK15 _ _ ?_); clear hK15 K15
    refine wp_block ?_
    refine lp [12, 13, 14, 38, 39, 40, 41, 42, 43, 44, 45, 46, 47, 48, 49, 50, 51, 52, 53, 54, 55, 56, 57, 58] (fun m g w => ∃ (i : Nat), ∃ (r : Nat), m = n - i ∧ g 38 = .int .i64 (i : Int) ∧ g 12 = .int .i64 (r : Int) ∧ St [] w0 [.row (.slice (some ⟨gs, 0, none⟩) n cs) 3 1 n ((wnow l gone o i).map i64v), .row (.slice (some ⟨go, 0, none⟩) q c') 3 1 q (o.map i64v), .blk g0_1 61 [.slice none 0 0], .blk g0_0 61 [.slice (some ⟨bt, ot, none⟩) n c], .vw A4 (left.map i64v), .vw (some ⟨bt, ot, none⟩) (l.map i64v)] w ∧ (i ≤ n) ∧ (r = (wst l gone o i).2)) ?_ ?_
    · exact ⟨_, 0, 0, rfl, (by first | rfl | go_num), (by first | rfl | go_num), (show St [] w0 (.row (.slice (some ⟨gs, 0, none⟩) n cs) 3 1 n ((wnow l gone o 0).map i64v) :: _) w from hS), (by omega), (by first | rfl | (simp only [wst]; rw [if_pos hx2, ← hr]) | (simp only [wst]; rw [if_neg hx2, ← hr]))⟩
    · clear hS; intro m g w hI
      obtain ⟨i, r, rfl, hs38, hs12, hS, hi, hr⟩ := hI
      refine fr_know (d := 38) hs38 ?_; clear hs38
      refine fr_know (d := 12) hs12 ?_; clear hs12
      refine wp_seq_k ?_; intro K16 hK16
      refine wlit ?_
      refine wl_v (x_lss (tmI rfl rfl) (tmI rfl rfl)) ?_
      refine wl_nil ?_
      refine then_n (hK16 _ _ ?_); clear hK16 K16
      refine wp_seq_k ?_; intro K17 hK17
      refine cnd (tm rfl) (fun hc3 => ?_) (fun hc3 => ?_)
      · try (exfalso; first | with_reducible exact absurd hc3 Bool.false_ne_true | with_reducible exact absurd hc3.symm Bool.false_ne_true | (simp only [nrm] at hc3; omega))
        all_goals
         try simp only [nrm] at hc3
         have hwl := wnow_len l gone o i (by omega)
         have hrl := (wst_len l gone o i).2
         have hwg := wnow_get l gone o i (by omega)
         refine wp_skip ?_
         refine then_n (hK17 _ _ ?_); clear hK17 K17
         refine wp_seq_k ?_; intro K18 hK18
         refine wp_block ?_
         refine wp_seq_k ?_; intro K19 hK19
         refine wlit ?_
         refine wl_v (x_move (tmI rfl rfl)) ?_
         refine wl_v (x_ixs1 Try.underlying53 ts_3 (tmS rfl rfl) (tmI rfl rfl) (by omega)) ?_
         first
          | refine wl_v (x_load Try.underlying3 rfl (tmP rfl rfl) (cellB hS.ok 0 rfl rfl)) ?_
          | refine wl_v (x_load Try.underlying3 rfl (tmP rfl rfl) (cellB hS.ok 1 rfl rfl)) ?_
          | refine wl_v (x_load Try.underlying3 rfl (tmP rfl rfl) (cellB hS.ok 2 rfl rfl)) ?_
          | refine wl_v (x_load Try.underlying3 rfl (tmP rfl rfl) (cellB hS.ok 3 rfl rfl)) ?_
          | refine wl_v (x_load Try.underlying3 rfl (tmP rfl rfl) (cellB hS.ok 4 rfl rfl)) ?_
          | refine wl_v (x_load Try.underlying3 rfl (tmP rfl rfl) (cellB hS.ok 5 rfl rfl)) ?_
          | refine wl_v (x_load Try.underlying3 rfl (tmP rfl rfl) (cellV hS.ok 0 rfl rfl)) ?_
          | refine wl_v (x_load Try.underlying3 rfl (tmP rfl rfl) (cellV hS.ok 0 rfl (getm (by omega)))) ?_
          | refine wl_v (x_load Try.underlying3 rfl (tmP rfl rfl) (cellVs hS.ok 0 rfl (fun _ => rfl) rfl (by omega) rfl)) ?_
          | refine wl_v (x_load Try.underlying3 rfl (tmP rfl rfl) (cellR hS.ok 0 rfl rfl)) ?_
          | refine wl_v (x_load Try.underlying3 rfl (tmP rfl rfl) (cellR hS.ok 0 rfl (getm (by omega)))) ?_
          | refine wl_v (x_load Try.underlying3 rfl (tmP rfl rfl) (cellRs hS.ok 0 rfl (fun _ => rfl) rfl (by omega) rfl)) ?_
          | refine wl_v (x_load Try.underlying3 rfl (tmP rfl rfl) (cellV hS.ok 1 rfl rfl)) ?_
          | refine wl_v (x_load Try.underlying3 rfl (tmP rfl rfl) (cellV hS.ok 1 rfl (getm (by omega)))) ?_
          | refine wl_v (x_load Try.underlying3 rfl (tmP rfl rfl) (cellVs hS.ok 1 rfl (fun _ => rfl) rfl (by omega) rfl)) ?_
          | refine wl_v (x_load Try.underlying3 rfl (tmP rfl rfl) (cellR hS.ok 1 rfl rfl)) ?_
          | refine wl_v (x_load Try.underlying3 rfl (tmP rfl rfl) (cellR hS.ok 1 rfl (getm (by omega)))) ?_
          | refine wl_v (x_load Try.underlying3 rfl (tmP rfl rfl) (cellRs hS.ok 1 rfl (fun _ => rfl) rfl (by omega) rfl)) ?_
          | refine wl_v (x_load Try.underlying3 rfl (tmP rfl rfl) (cellV hS.ok 2 rfl rfl)) ?_
          | refine wl_v (x_load Try.underlying3 rfl (tmP rfl rfl) (cellV hS.ok 2 rfl (getm (by omega)))) ?_
          | refine wl_v (x_load Try.underlying3 rfl (tmP rfl rfl) (cellVs hS.ok 2 rfl (fun _ => rfl) rfl (by omega) rfl)) ?_
          | refine wl_v (x_load Try.underlying3 rfl (tmP rfl rfl) (cellR hS.ok 2 rfl rfl)) ?_
          | refine wl_v (x_load Try.underlying3 rfl (tmP rfl rfl) (cellR hS.ok 2 rfl (getm (by omega)))) ?_
          | refine wl_v (x_load Try.underlying3 rfl (tmP rfl rfl) (cellRs hS.ok 2 rfl (fun _ => rfl) rfl (by omega) rfl)) ?_
          | refine wl_v (x_load Try.underlying3 rfl (tmP rfl rfl) (cellV hS.ok 3 rfl rfl)) ?_
          | refine wl_v (x_load Try.underlying3 rfl (tmP rfl rfl) (cellV hS.ok 3 rfl (getm (by omega)))) ?_
          | refine wl_v (x_load Try.underlying3 rfl (tmP rfl rfl) (cellVs hS.ok 3 rfl (fun _ => rfl) rfl (by omega) rfl)) ?_
          | refine wl_v (x_load Try.underlying3 rfl (tmP rfl rfl) (cellR hS.ok 3 rfl rfl)) ?_
          | refine wl_v (x_load Try.underlying3 rfl (tmP rfl rfl) (cellR hS.ok 3 rfl (getm (by omega)))) ?_
          | refine wl_v (x_load Try.underlying3 rfl (tmP rfl rfl) (cellRs hS.ok 3 rfl (fun _ => rfl) rfl (by omega) rfl)) ?_
          | refine wl_v (x_load Try.underlying3 rfl (tmP rfl rfl) (cellV hS.ok 4 rfl rfl)) ?_
          | refine wl_v (x_load Try.underlying3 rfl (tmP rfl rfl) (cellV hS.ok 4 rfl (getm (by omega)))) ?_
          | refine wl_v (x_load Try.underlying3 rfl (tmP rfl rfl) (cellVs hS.ok 4 rfl (fun _ => rfl) rfl (by omega) rfl)) ?_
          | refine wl_v (x_load Try.underlying3 rfl (tmP rfl rfl) (cellR hS.ok 4 rfl rfl)) ?_
          | refine wl_v (x_load Try.underlying3 rfl (tmP rfl rfl) (cellR hS.ok 4 rfl (getm (by omega)))) ?_
          | refine wl_v (x_load Try.underlying3 rfl (tmP rfl rfl) (cellRs hS.ok 4 rfl (fun _ => rfl) rfl (by omega) rfl)) ?_
          | refine wl_v (x_load Try.underlying3 rfl (tmP rfl rfl) (cellV hS.ok 5 rfl rfl)) ?_
          | refine wl_v (x_load Try.underlying3 rfl (tmP rfl rfl) (cellV hS.ok 5 rfl (getm (by omega)))) ?_
          | refine wl_v (x_load Try.underlying3 rfl (tmP rfl rfl) (cellVs hS.ok 5 rfl (fun _ => rfl) rfl (by omega) rfl)) ?_
          | refine wl_v (x_load Try.underlying3 rfl (tmP rfl rfl) (cellR hS.ok 5 rfl rfl)) ?_
          | refine wl_v (x_load Try.underlying3 rfl (tmP rfl rfl) (cellR hS.ok 5 rfl (getm (by omega)))) ?_
          | refine wl_v (x_load Try.underlying3 rfl (tmP rfl rfl) (cellRs hS.ok 5 rfl (fun _ => rfl) rfl (by omega) rfl)) ?_
         refine wl_v (x_assign (tmI rfl rfl)) ?_
         refine wl_v (x_assign (tmI rfl rfl)) ?_
         refine wl_nil ?_
         refine then_n (hK19 _ _ ?_); clear hK19 K19
         refine wp_seq_k ?_; intro K20 hK20
         refine wlit ?_
         refine wl_v (x_move (tmI rfl rfl)) ?_
         refine wl_v (x_move (tmI rfl rfl)) ?_
         refine wl_v (x_eql (tmI rfl rfl) (tmI rfl rfl)) ?_
         refine wl_nil ?_
         refine then_n (hK20 _ _ ?_); clear hK20 K20
         rw [hwg]
         refine cnd (tm rfl) (fun hc4 => ?_) (fun hc4 => ?_)
         · try (exfalso; first | with_reducible exact absurd hc4 Bool.false_ne_true | with_reducible exact absurd hc4.symm Bool.false_ne_true | (simp only [nrm] at hc4; omega))
           all_goals
            try simp only [nrm] at hc4
            have hx2 : l.getD i 0 = gone := hc4
            have hmod : r % q < q := Nat.mod_lt _ hq0
            refine wp_seq_k ?_; intro K21 hK21
            refine wlit ?_
            refine wl_v (x_move (tmS rfl rfl)) ?_
            refine wl_v (x_move (tmI rfl rfl)) ?_
            refine wl_v (x_move (tmS rfl rfl)) ?_
            refine wl_v (x_move (tmI rfl rfl)) ?_
            refine wl_v (x_move (tmS rfl rfl)) ?_
            refine wl_v (x_len Try.underlying53 (tmS rfl rfl)) ?_
            first
             | refine wl_v (x_remN (tmI rfl rfl) (tmI rfl rfl) (by omega)) ?_
             | refine wl_v (x_rem (tmI rfl rfl) (tmI rfl rfl) (by omega)) ?_
            refine wl_v (x_ixs1 Try.underlying53 ts_3 (tmS rfl rfl) (tmI rfl rfl) (by omega)) ?_
            first
             | refine wl_v (x_load Try.underlying3 rfl (tmP rfl rfl) (cellB hS.ok 0 rfl rfl)) ?_
             | refine wl_v (x_load Try.underlying3 rfl (tmP rfl rfl) (cellB hS.ok 1 rfl rfl)) ?_
             | refine wl_v (x_load Try.underlying3 rfl (tmP rfl rfl) (cellB hS.ok 2 rfl rfl)) ?_
             | refine wl_v (x_load Try.underlying3 rfl (tmP rfl rfl) (cellB hS.ok 3 rfl rfl)) ?_
             | refine wl_v (x_load Try.underlying3 rfl (tmP rfl rfl) (cellB hS.ok 4 rfl rfl)) ?_
             | refine wl_v (x_load Try.underlying3 rfl (tmP rfl rfl) (cellB hS.ok 5 rfl rfl)) ?_
             | refine wl_v (x_load Try.underlying3 rfl (tmP rfl rfl) (cellV hS.ok 0 rfl rfl)) ?_
             | refine wl_v (x_load Try.underlying3 rfl (tmP rfl rfl) (cellV hS.ok 0 rfl (getm (by omega)))) ?_
             | refine wl_v (x_load Try.underlying3 rfl (tmP rfl rfl) (cellVs hS.ok 0 rfl (fun _ => rfl) rfl (by omega) rfl)) ?_
             | refine wl_v (x_load Try.underlying3 rfl (tmP rfl rfl) (cellR hS.ok 0 rfl rfl)) ?_
             | refine wl_v (x_load Try.underlying3 rfl (tmP rfl rfl) (cellR hS.ok 0 rfl (getm (by omega)))) ?_
             | refine wl_v (x_load Try.underlying3 rfl (tmP rfl rfl) (cellRs hS.ok 0 rfl (fun _ => rfl) rfl (by omega) rfl)) ?_
             | refine wl_v (x_load Try.underlying3 rfl (tmP rfl rfl) (cellV hS.ok 1 rfl rfl)) ?_
             | refine wl_v (x_load Try.underlying3 rfl (tmP rfl rfl) (cellV hS.ok 1 rfl (getm (by omega)))) ?_
             | refine wl_v (x_load Try.underlying3 rfl (tmP rfl rfl) (cellVs hS.ok 1 rfl (fun _ => rfl) rfl (by omega) rfl)) ?_
             | refine wl_v (x_load Try.underlying3 rfl (tmP rfl rfl) (cellR hS.ok 1 rfl rfl)) ?_
             | refine wl_v (x_load Try.underlying3 rfl (tmP rfl rfl) (cellR hS.ok 1 rfl (getm (by omega)))) ?_
             | refine wl_v (x_load Try.underlying3 rfl (tmP rfl rfl) (cellRs hS.ok 1 rfl (fun _ => rfl) rfl (by omega) rfl)) ?_
             | refine wl_v (x_load Try.underlying3 rfl (tmP rfl rfl) (cellV hS.ok 2 rfl rfl)) ?_
             | refine wl_v (x_load Try.underlying3 rfl (tmP rfl rfl) (cellV hS.ok 2 rfl (getm (by omega)))) ?_
             | refine wl_v (x_load Try.underlying3 rfl (tmP rfl rfl) (cellVs hS.ok 2 rfl (fun _ => rfl) rfl (by omega) rfl)) ?_
             | refine wl_v (x_load Try.underlying3 rfl (tmP rfl rfl) (cellR hS.ok 2 rfl rfl)) ?_
             | refine wl_v (x_load Try.underlying3 rfl (tmP rfl rfl) (cellR hS.ok 2 rfl (getm (by omega)))) ?_
             | refine wl_v (x_load Try.underlying3 rfl (tmP rfl rfl) (cellRs hS.ok 2 rfl (fun _ => rfl) rfl (by omega) rfl)) ?_
             | refine wl_v (x_load Try.underlying3 rfl (tmP rfl rfl) (cellV hS.ok 3 rfl rfl)) ?_
             | refine wl_v (x_load Try.underlying3 rfl (tmP rfl rfl) (cellV hS.ok 3 rfl (getm (by omega)))) ?_
             | refine wl_v (x_load Try.underlying3 rfl (tmP rfl rfl) (cellVs hS.ok 3 rfl (fun _ => rfl) rfl (by omega) rfl)) ?_
             | refine wl_v (x_load Try.underlying3 rfl (tmP rfl rfl) (cellR hS.ok 3 rfl rfl)) ?_
             | refine wl_v (x_load Try.underlying3 rfl (tmP rfl rfl) (cellR hS.ok 3 rfl (getm (by omega)))) ?_
             | refine wl_v (x_load Try.underlying3 rfl (tmP rfl rfl) (cellRs hS.ok 3 rfl (fun _ => rfl) rfl (by omega) rfl)) ?_
             | refine wl_v (x_load Try.underlying3 rfl (tmP rfl rfl) (cellV hS.ok 4 rfl rfl)) ?_
             | refine wl_v (x_load Try.underlying3 rfl (tmP rfl rfl) (cellV hS.ok 4 rfl (getm (by omega)))) ?_
             | refine wl_v (x_load Try.underlying3 rfl (tmP rfl rfl) (cellVs hS.ok 4 rfl (fun _ => rfl) rfl (by omega) rfl)) ?_
             | refine wl_v (x_load Try.underlying3 rfl (tmP rfl rfl) (cellR hS.ok 4 rfl rfl)) ?_
             | refine wl_v (x_load Try.underlying3 rfl (tmP rfl rfl) (cellR hS.ok 4 rfl (getm (by omega)))) ?_
             | refine wl_v (x_load Try.underlying3 rfl (tmP rfl rfl) (cellRs hS.ok 4 rfl (fun _ => rfl) rfl (by omega) rfl)) ?_
             | refine wl_v (x_load Try.underlying3 rfl (tmP rfl rfl) (cellV hS.ok 5 rfl rfl)) ?_
             | refine wl_v (x_load Try.underlying3 rfl (tmP rfl rfl) (cellV hS.ok 5 rfl (getm (by omega)))) ?_
             | refine wl_v (x_load Try.underlying3 rfl (tmP rfl rfl) (cellVs hS.ok 5 rfl (fun _ => rfl) rfl (by omega) rfl)) ?_
             | refine wl_v (x_load Try.underlying3 rfl (tmP rfl rfl) (cellR hS.ok 5 rfl rfl)) ?_
             | refine wl_v (x_load Try.underlying3 rfl (tmP rfl rfl) (cellR hS.ok 5 rfl (getm (by omega)))) ?_
             | refine wl_v (x_load Try.underlying3 rfl (tmP rfl rfl) (cellRs hS.ok 5 rfl (fun _ => rfl) rfl (by omega) rfl)) ?_
            refine wl_v (x_ixs1 Try.underlying53 ts_3 (tmS rfl rfl) (tmI rfl rfl) (by omega)) ?_
            refine wl_e rfl ?_; intro K hK
            first
             | refine ow_store hS 0 rfl ts_3 (tmP rfl rfl) (tmI rfl rfl) rfl rfl ?_
             | refine ow_storeX hS 0 rfl ts_3 (tmP rfl rfl) (tmI rfl rfl) rfl (by simp; omega) ?_
             | refine ow_storeR hS 0 rfl ts_3 (tmP rfl rfl) (tmI rfl rfl) rfl (by first | omega | (simp; omega)) ?_
             | refine ow_store hS 1 rfl ts_3 (tmP rfl rfl) (tmI rfl rfl) rfl rfl ?_
             | refine ow_storeX hS 1 rfl ts_3 (tmP rfl rfl) (tmI rfl rfl) rfl (by simp; omega) ?_
             | refine ow_storeR hS 1 rfl ts_3 (tmP rfl rfl) (tmI rfl rfl) rfl (by first | omega | (simp; omega)) ?_
             | refine ow_store hS 2 rfl ts_3 (tmP rfl rfl) (tmI rfl rfl) rfl rfl ?_
             | refine ow_storeX hS 2 rfl ts_3 (tmP rfl rfl) (tmI rfl rfl) rfl (by simp; omega) ?_
             | refine ow_storeR hS 2 rfl ts_3 (tmP rfl rfl) (tmI rfl rfl) rfl (by first | omega | (simp; omega)) ?_
             | refine ow_store hS 3 rfl ts_3 (tmP rfl rfl) (tmI rfl rfl) rfl rfl ?_
             | refine ow_storeX hS 3 rfl ts_3 (tmP rfl rfl) (tmI rfl rfl) rfl (by simp; omega) ?_
             | refine ow_storeR hS 3 rfl ts_3 (tmP rfl rfl) (tmI rfl rfl) rfl (by first | omega | (simp; omega)) ?_
             | refine ow_store hS 4 rfl ts_3 (tmP rfl rfl) (tmI rfl rfl) rfl rfl ?_
             | refine ow_storeX hS 4 rfl ts_3 (tmP rfl rfl) (tmI rfl rfl) rfl (by simp; omega) ?_
             | refine ow_storeR hS 4 rfl ts_3 (tmP rfl rfl) (tmI rfl rfl) rfl (by first | omega | (simp; omega)) ?_
             | refine ow_store hS 5 rfl ts_3 (tmP rfl rfl) (tmI rfl rfl) rfl rfl ?_
             | refine ow_storeX hS 5 rfl ts_3 (tmP rfl rfl) (tmI rfl rfl) rfl (by simp; omega) ?_
             | refine ow_storeR hS 5 rfl ts_3 (tmP rfl rfl) (tmI rfl rfl) rfl (by first | omega | (simp; omega)) ?_
            clear hS; intro w hS
            refine hK _ _ ?_; clear hK K
            refine wl_nil ?_
            refine then_n (hK21 _ _ ?_); clear hK21 K21
            refine wlit ?_
            refine wl_v (x_move (tmI rfl rfl)) ?_
            first
             | refine wl_v (x_addN (tmI rfl rfl) (ev_cN 1) (fit_i64 (by omega))) ?_
             | refine wl_v (x_addI (tmI rfl rfl) (ev_cN 1) (IntWalk.i64_in _ (by omega))) ?_
             | refine wl_v (x_add (tmI rfl rfl) (ev_cN 1)) ?_
            refine wl_v (x_assign (tmI rfl rfl)) ?_
            refine wl_nil ?_
            refine inb_n ?_
            refine then_n (hK18 _ _ ?_); clear hK18 K18
            refine wlit ?_
            first
             | refine wl_v (x_addN (tmI rfl rfl) (ev_cN 1) (fit_i64 (by omega))) ?_
             | refine wl_v (x_addI (tmI rfl rfl) (ev_cN 1) (IntWalk.i64_in _ (by omega))) ?_
             | refine wl_v (x_add (tmI rfl rfl) (ev_cN 1)) ?_
            refine wl_v (x_move (tmI rfl rfl)) ?_
            refine wl_nil ?_
            first
             | exact then_n ⟨_, _, rfl, (by show _ < _; omega), (by repeat (first | exact agree_self | exact agree_refl | refine agree_upd rfl ?_ | refine agree_mix rfl ?_)), i + 1, r + 1, rfl, (by first | rfl | go_num), (by first | rfl | go_num), (by rw [wnow_set _ _ _ _ (by omega) hx2, List.map_set, ← hr, hqo]; exact hS), (by omega), (by first | rfl | (simp only [wst]; rw [if_pos hx2, ← hr]) | (simp only [wst]; rw [if_neg hx2, ← hr]))⟩
             | exact then_n ⟨_, _, rfl, (by show _ < _; omega), (by repeat (first | exact agree_self | exact agree_refl | refine agree_upd rfl ?_ | refine agree_mix rfl ?_)), i + 1, r, rfl, (by first | rfl | go_num), (by first | rfl | go_num), (by rw [wnow_keep _ _ _ _ (by omega) hx2]; exact hS), (by omega), (by first | rfl | (simp only [wst]; rw [if_pos hx2, ← hr]) | (simp only [wst]; rw [if_neg hx2, ← hr]))⟩
         try simp only [nrm] at hc4
         have hx2 : ¬ l.getD i 0 = gone := hc4
         refine wp_skip ?_
         refine inb_n ?_
         refine then_n (hK18 _ _ ?_); clear hK18 K18
         refine wlit ?_
         first
          | refine wl_v (x_addN (tmI rfl rfl) (ev_cN 1) (fit_i64 (by omega))) ?_
          | refine wl_v (x_addI (tmI rfl rfl) (ev_cN 1) (IntWalk.i64_in _ (by omega))) ?_
          | refine wl_v (x_add (tmI rfl rfl) (ev_cN 1)) ?_
         refine wl_v (x_move (tmI rfl rfl)) ?_
         refine wl_nil ?_
         first
          | exact then_n ⟨_, _, rfl, (by show _ < _; omega), (by repeat (first | exact agree_self | exact agree_refl | refine agree_upd rfl ?_ | refine agree_mix rfl ?_)), i + 1, r + 1, rfl, (by first | rfl | go_num), (by first | rfl | go_num), (by rw [wnow_set _ _ _ _ (by omega) hx2, List.map_set, ← hr, hqo]; exact hS), (by omega), (by first | rfl | (simp only [wst]; rw [if_pos hx2, ← hr]) | (simp only [wst]; rw [if_neg hx2, ← hr]))⟩
          | exact then_n ⟨_, _, rfl, (by show _ < _; omega), (by repeat (first | exact agree_self | exact agree_refl | refine agree_upd rfl ?_ | refine agree_mix rfl ?_)), i + 1, r, rfl, (by first | rfl | go_num), (by first | rfl | go_num), (by rw [wnow_keep _ _ _ _ (by omega) hx2]; exact hS), (by omega), (by first | rfl | (simp only [wst]; rw [if_pos hx2, ← hr]) | (simp only [wst]; rw [if_neg hx2, ← hr]))⟩
      try simp only [nrm] at hc3
      refine wp_exit ?_
      refine then_x ?_; clear hK17 K17
      refine then_x ?_
      refine inb_x ?_
      refine then_n (hK14 _ _ ?_); clear hK14 K14
      refine wp_seq_k ?_; intro K22 hK22
      refine wlit ?_
      refine wl_v (x_move (tmS rfl rfl)) ?_
      refine wl_v (x_build (bc_take (tmS rfl rfl) <| bc_nil) (by kernel_rfl)) ?_
      refine wl_e rfl ?_; intro K hK
      refine ow_storeA hS 2 rfl ts_61 (tmP rfl rfl) (tmA rfl rfl) rfl rfl rfl ?_
      clear hS; intro w hS
      refine hK _ _ ?_; clear hK K
      refine wl_v (x_assign (ev_cN 0)) ?_
      refine wl_nil ?_
      refine then_n (hK22 _ _ ?_); clear hK22 K22
      refine wp_ret ?_
      refine ret2 rfl (.cell rfl rfl (load_rowB (cs := [_]) hS.ok 2 rfl Try.underlying61 rfl ts_61 rfl)) (.tmp rfl (show _ = Value.int _ _ from rfl)) ?_
      obtain rfl : i = n := by omega
      have hwe : wnow l gone o i = (wst l gone o i).1 := by rw [← hl]; exact wnow_end l gone o
      rw [hwe, ho] at hS
      exact ⟨_, _, rfl, hS.new 0 rfl rfl, hS.kp⟩
end Go.Proofs.Ytchpcijmgnfkfaa
