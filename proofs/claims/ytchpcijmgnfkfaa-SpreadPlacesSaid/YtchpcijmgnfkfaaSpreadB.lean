
/- spread's tables and the reference's by contracts. Conditions: none but bounds. -/
import Derived.Test.YtchpcijmgnfkfaaTy
namespace Go.Proofs.Ytchpcijmgnfkfaa
open Go.RowKit

/-- How often q stands among the first k. -/
def cntTo (q : Int) (l : List Int) : Nat → Nat
  | 0 => 0
  | k + 1 => cntTo q l k + if l.getD k 0 = q then 1 else 0
theorem cntTo_le (q : Int) (l : List Int) (k : Nat) : cntTo q l k ≤ k := by
  induction k with
  | zero => simp [cntTo]
  | succ k ih => simp only [cntTo]; split <;> omega
/-- The first k places of a table. -/
def cyc (to : List Int) : Nat → List Int
  | 0 => []
  | k + 1 => cyc to k ++ [to.getD (k % to.length) 0]
theorem cyc_length (to : List Int) (k : Nat) : (cyc to k).length = k := by
  induction k with
  | zero => rfl
  | succ k ih => simp [cyc, ih]
/-- What of the first k is not g. -/
def oth (g : Int) (l : List Int) : Nat → List Int
  | 0 => []
  | k + 1 => if l.getD k 0 = g then oth g l k else oth g l k ++ [l.getD k 0]
theorem oth_le (g : Int) (l : List Int) (k : Nat) : (oth g l k).length ≤ k := by
  induction k with
  | zero => simp [oth]
  | succ k ih =>
    simp only [oth]
    split
    · omega
    · rw [List.length_append, List.length_singleton]; omega
def wst (t : List Int) (g : Int) (o : List Int) : Nat → List Int × Nat
  | 0 => ([], 0)
  | k + 1 => if t.getD k 0 = g then ((wst t g o k).1 ++ [o.getD ((wst t g o k).2 % o.length) 0], (wst t g o k).2 + 1) else ((wst t g o k).1 ++ [t.getD k 0], (wst t g o k).2)
theorem wst_len (t : List Int) (g : Int) (o : List Int) (k : Nat) : (wst t g o k).1.length = k ∧ (wst t g o k).2 ≤ k := by
  induction k with
  | zero => simp [wst]
  | succ k ih => simp only [wst]; split <;> simp [ih.1] <;> omega
def wnow (t : List Int) (g : Int) (o : List Int) (k : Nat) : List Int := (wst t g o k).1 ++ t.drop k
theorem wnow_len (t : List Int) (g : Int) (o : List Int) (k : Nat) (h : k ≤ t.length) : (wnow t g o k).length = t.length := by
  have := (wst_len t g o k).1
  simp [wnow, this]; omega
theorem wnow_get (t : List Int) (g : Int) (o : List Int) (k : Nat) (h : k < t.length) : (wnow t g o k).getD k 0 = t.getD k 0 := by
  have := (wst_len t g o k).1
  unfold wnow
  rw [List.getD_eq_getElem?_getD, List.getElem?_append_right (by omega), this, Nat.sub_self, List.getElem?_drop, Nat.add_zero, ← List.getD_eq_getElem?_getD]
theorem wnow_keep (t : List Int) (g : Int) (o : List Int) (k : Nat) (h : k < t.length) (hg : ¬ t.getD k 0 = g) : wnow t g o (k + 1) = wnow t g o k := by
  unfold wnow
  simp only [wst]
  rw [if_neg hg, List.append_assoc, List.drop_eq_getElem_cons h, List.getD_eq_getElem?_getD, List.getElem?_eq_getElem h]
  rfl
theorem wnow_set (t : List Int) (g : Int) (o : List Int) (k : Nat) (h : k < t.length) (hg : t.getD k 0 = g) : wnow t g o (k + 1) = (wnow t g o k).set k (o.getD ((wst t g o k).2 % o.length) 0) := by
  have := (wst_len t g o k).1
  unfold wnow
  simp only [wst]
  rw [if_pos hg, List.append_assoc, List.drop_eq_getElem_cons h, List.set_append_right _ _ (by omega), this, Nat.sub_self]
  rfl
theorem wnow_end (t : List Int) (g : Int) (o : List Int) : wnow t g o t.length = (wst t g o t.length).1 := by
  unfold wnow; rw [List.drop_length, List.append_nil]
theorem one_i64 (l : List Int) : ∀ u ∈ l.map i64v, u.oneCell' = true := by
  intro u hu
  obtain ⟨x, _, rfl⟩ := List.mem_map.1 hu
  rfl

set_option maxRecDepth 100000 in
set_option maxHeartbeats 4000000 in
theorem table_count_c (n : Nat) (A : Option Addr) (c : Nat) (l : List Int) (q : Int) (w0 : World) (hv : View w0 w0.heap.size A (l.map i64v)) (hl : l.length = n) (hn4 : n ≤ 1000000) :
    Calls Try.prog 39 #[.agg #[.slice A n c], .int .i64 q] w0 fun e w' => e = .returned (.int .i64 ((cntTo q l n : Nat) : Int)) ∧ Kp [] w0 w' := by
  have hS := (St.sv w0).vcons rfl hv
  refine ent (n := 22) Try.func39 rfl rfl ?_
  refine wp_seq_k ?_; intro K1 hK1
  refine wlit ?_
  refine wl_e rfl ?_; intro K hK
  refine ow_box hS (tmA rfl rfl) rfl ?_
  clear hS; intro g0_0 w hg0_0 hS
  refine hK _ _ ?_; clear hK K
  refine wl_v (x_assign (ev_cN 0)) ?_
  refine wl_nil ?_
  refine then_n (hK1 _ _ ?_); clear hK1 K1
  refine wp_seq_k ?_; intro K2 hK2
  refine wlit ?_
  refine wl_v (x_assign (ev_cN 0)) ?_
  refine wl_nil ?_
  refine then_n (hK2 _ _ ?_); clear hK2 K2
  refine wp_seq_k ?_; intro K3 hK3
  refine wp_seq_k ?_; intro K4 hK4
  refine wlit ?_
  refine wl_v (x_fa 0 Try.underlying61 rfl rfl ts_53 (tmP rfl rfl)) ?_
  first
   | refine wl_v (x_load Try.underlying53 rfl (tmP rfl rfl) (cellB hS.ok 0 rfl rfl)) ?_
   | refine wl_v (x_load Try.underlying53 rfl (tmP rfl rfl) (cellB hS.ok 0 rfl (getm (by omega)))) ?_
  refine wl_v (x_len Try.underlying53 (tmS rfl rfl)) ?_
  refine wl_v (x_move (ev_cN 0)) ?_
  refine wl_nil ?_
  refine then_n (hK4 _ _ ?_); clear hK4 K4
  refine wp_block ?_
  refine lp [5, 7, 11, 12, 13, 14, 15, 16, 17, 18, 19, 20] (fun m g w => ∃ (k : Nat), m = n - k ∧ g 11 = .int .i64 (k : Int) ∧ g 5 = .int .i64 ((cntTo q l k : Nat) : Int) ∧ St [] w0 [.blk g0_0 61 [.slice A n c], .vw A (l.map i64v)] w ∧ (k ≤ n)) ?_ ?_
  · exact ⟨_, 0, rfl, (by first | rfl | go_num), (by first | rfl | go_num), hS, (by omega)⟩
  · clear hS; intro m g w hI
    obtain ⟨k, rfl, hs11, hs5, hS, hk⟩ := hI
    refine fr_know (d := 11) hs11 ?_; clear hs11
    refine fr_know (d := 5) hs5 ?_; clear hs5
    refine wp_seq_k ?_; intro K5 hK5
    refine wlit ?_
    refine wl_v (x_lss (tmI rfl rfl) (tmI rfl rfl)) ?_
    refine wl_nil ?_
    refine then_n (hK5 _ _ ?_); clear hK5 K5
    refine wp_seq_k ?_; intro K6 hK6
    refine cnd (tm rfl) (fun hc0 => ?_) (fun hc0 => ?_)
    · try (exfalso; first | with_reducible exact absurd hc0 Bool.false_ne_true | with_reducible exact absurd hc0.symm Bool.false_ne_true | (simp only [nrm] at hc0; omega))
      all_goals
       try simp only [nrm] at hc0
       have hcl := cntTo_le q l k
       obtain ⟨b, o, rfl⟩ := view_some hv (by simp; omega)
       refine wp_skip ?_
       refine then_n (hK6 _ _ ?_); clear hK6 K6
       refine wp_seq_k ?_; intro K7 hK7
       refine wp_block ?_
       refine wp_seq_k ?_; intro K8 hK8
       refine wlit ?_
       refine wl_v (x_ixs1 Try.underlying53 ts_3 (tmS rfl rfl) (tmI rfl rfl) (by omega)) ?_
       first
        | refine wl_v (x_load Try.underlying3 rfl (tmP rfl rfl) (cellB hS.ok 0 rfl rfl)) ?_
        | refine wl_v (x_load Try.underlying3 rfl (tmP rfl rfl) (cellB hS.ok 1 rfl rfl)) ?_
        | refine wl_v (x_load Try.underlying3 rfl (tmP rfl rfl) (cellV hS.ok 0 rfl rfl)) ?_
        | refine wl_v (x_load Try.underlying3 rfl (tmP rfl rfl) (cellV hS.ok 0 rfl (getm (by omega)))) ?_
        | refine wl_v (x_load Try.underlying3 rfl (tmP rfl rfl) (cellVs hS.ok 0 rfl (fun _ => rfl) rfl (by omega) rfl)) ?_
        | refine wl_v (x_load Try.underlying3 rfl (tmP rfl rfl) (cellR hS.ok 0 rfl rfl)) ?_
        | refine wl_v (x_load Try.underlying3 rfl (tmP rfl rfl) (cellR hS.ok 0 rfl (getm (by omega)))) ?_
        | refine wl_v (x_load Try.underlying3 rfl (tmP rfl rfl) (cellRs hS.ok 0 rfl (fun _ => rfl) rfl (by omega) rfl)) ?_
        | refine wl_v (x_load Try.underlying3 rfl (tmP rfl rfl) (cellV hS.ok 1 rfl rfl)) ?_
        | refine wl_v (x_load Try.underlying3 rfl (tmP rfl rfl) (cellV hS.ok 1 rfl (getm (by omega)))) ?_
        | refine wl_v (x_load Try.underlying3 rfl (tmP rfl rfl) (cellVs hS.ok 1 rfl (fun _ => rfl) rfl (by omega) rfl)) ?_
        | refine wl_v (x_load Try.underlying3 rfl (tmP rfl rfl) (cellR hS.ok 1 rfl rfl)) ?_
        | refine wl_v (x_load Try.underlying3 rfl (tmP rfl rfl) (cellR hS.ok 1 rfl (getm (by omega)))) ?_
        | refine wl_v (x_load Try.underlying3 rfl (tmP rfl rfl) (cellRs hS.ok 1 rfl (fun _ => rfl) rfl (by omega) rfl)) ?_
       refine wl_v (x_assign (tmI rfl rfl)) ?_
       refine wl_nil ?_
       refine then_n (hK8 _ _ ?_); clear hK8 K8
       refine wp_seq_k ?_; intro K9 hK9
       refine wlit ?_
       refine wl_v (x_move (tmI rfl rfl)) ?_
       refine wl_v (x_move (tmI rfl rfl)) ?_
       refine wl_v (x_eql (tmI rfl rfl) (tmI rfl rfl)) ?_
       refine wl_nil ?_
       refine then_n (hK9 _ _ ?_); clear hK9 K9
       refine cnd (tm rfl) (fun hc1 => ?_) (fun hc1 => ?_)
       · try (exfalso; first | with_reducible exact absurd hc1 Bool.false_ne_true | with_reducible exact absurd hc1.symm Bool.false_ne_true | (simp only [nrm] at hc1; omega))
         all_goals
          try simp only [nrm] at hc1
          have hcs : cntTo q l (k + 1) = cntTo q l k + 1 := by simp only [cntTo]; rw [if_pos hc1]
          refine wlit ?_
          refine wl_v (x_move (tmI rfl rfl)) ?_
          first
           | refine wl_v (x_addN (tmI rfl rfl) (ev_cN 1) (fit_i64 (by omega))) ?_
           | refine wl_v (x_addI (tmI rfl rfl) (ev_cN 1) (IntWalk.i64_in _ (by omega))) ?_
           | refine wl_v (x_add (tmI rfl rfl) (ev_cN 1)) ?_
          refine wl_v (x_assign (tmI rfl rfl)) ?_
          refine wl_nil ?_
          refine inb_n ?_
          refine then_n (hK7 _ _ ?_); clear hK7 K7
          refine wlit ?_
          first
           | refine wl_v (x_addN (tmI rfl rfl) (ev_cN 1) (fit_i64 (by omega))) ?_
           | refine wl_v (x_addI (tmI rfl rfl) (ev_cN 1) (IntWalk.i64_in _ (by omega))) ?_
           | refine wl_v (x_add (tmI rfl rfl) (ev_cN 1)) ?_
          refine wl_v (x_move (tmI rfl rfl)) ?_
          refine wl_nil ?_
          exact then_n ⟨_, _, rfl, (by show _ < _; omega), (by repeat (first | exact agree_self | exact agree_refl | refine agree_upd rfl ?_ | refine agree_mix rfl ?_)), k + 1, rfl, (by first | rfl | go_num), (by first | rfl | (rw [hcs]; done) | (rw [hcs]; rfl) | (rw [hcs]; go_num)), hS, (by omega)⟩
       try simp only [nrm] at hc1
       have hcs : cntTo q l (k + 1) = cntTo q l k := by simp only [cntTo]; rw [if_neg hc1]; rfl
       refine wp_skip ?_
       refine inb_n ?_
       refine then_n (hK7 _ _ ?_); clear hK7 K7
       refine wlit ?_
       first
        | refine wl_v (x_addN (tmI rfl rfl) (ev_cN 1) (fit_i64 (by omega))) ?_
        | refine wl_v (x_addI (tmI rfl rfl) (ev_cN 1) (IntWalk.i64_in _ (by omega))) ?_
        | refine wl_v (x_add (tmI rfl rfl) (ev_cN 1)) ?_
       refine wl_v (x_move (tmI rfl rfl)) ?_
       refine wl_nil ?_
       exact then_n ⟨_, _, rfl, (by show _ < _; omega), (by repeat (first | exact agree_self | exact agree_refl | refine agree_upd rfl ?_ | refine agree_mix rfl ?_)), k + 1, rfl, (by first | rfl | go_num), (by first | rfl | (rw [hcs]; done) | (rw [hcs]; rfl) | (rw [hcs]; go_num)), hS, (by omega)⟩
    try simp only [nrm] at hc0
    refine wp_exit ?_
    refine then_x ?_; clear hK6 K6
    refine then_x ?_
    refine inb_x ?_
    refine then_n (hK3 _ _ ?_); clear hK3 K3
    refine wp_seq_k ?_; intro K10 hK10
    refine wlit ?_
    refine wl_v (x_move (tmI rfl rfl)) ?_
    refine wl_v (x_assign (tmI rfl rfl)) ?_
    refine wl_nil ?_
    refine then_n (hK10 _ _ ?_); clear hK10 K10
    refine wp_ret ?_
    refine ret1 rfl (.tmp rfl (show _ = Value.int _ _ from rfl)) ?_
    obtain rfl : k = n := by omega
    exact ⟨rfl, hS.kp⟩

set_option maxRecDepth 100000 in
set_option maxHeartbeats 4000000 in
theorem clone_c (n : Nat) (A : Option Addr) (c : Nat) (l : List Int) (w0 : World) (hv : View w0 w0.heap.size A (l.map i64v)) (hl : l.length = n) (hA : A = none → c = 0) (hn4 : n ≤ c) (hn5 : n ≤ 1000000) :
    Calls Try.prog 113 #[.slice A n c] w0 fun e w' => ∃ A' c', e = .returned (.slice A' n c') ∧ New w0 w' (.row (.slice A' n c') 3 1 n (l.map i64v)) ∧ Kp [] w0 w' := by
  cases A with
  | none =>
    have hS := ((St.sv w0).vcons rfl hv).nilrow 3 1
    have hn0 : n = 0 := by have := hA rfl; omega
    subst hn0
    have hl0 : l = [] := List.eq_nil_of_length_eq_zero hl
    subst hl0
    refine ent (n := 8) Try.func113 rfl rfl ?_
    refine wp_seq_k ?_; intro K1 hK1
    refine wlit ?_
    refine wl_v (x_assign ev_c) ?_
    refine wl_nil ?_
    refine then_n (hK1 _ _ ?_); clear hK1 K1
    refine wp_seq_k ?_; intro K2 hK2
    refine wp_seq_k ?_; intro K3 hK3
    refine wlit ?_
    refine wl_v (x_move (tmS rfl rfl)) ?_
    first
     | refine wl_v (x_seql Try.underlying53 (tmS rfl rfl) ev_c) ?_
     | refine wl_v (x_seqln Try.underlying53 (tmS rfl rfl) ev_c) ?_
    refine wl_nil ?_
    refine then_n (hK3 _ _ ?_); clear hK3 K3
    refine cnds (tm rfl) (fun hc0 => ?_) (fun hc0 => ?_)
    · exfalso
      cases hc0
    try simp only [nrm] at hc0
    refine wp_seq_k ?_; intro K4 hK4
    refine wlit ?_
    refine wl_v (x_assign ev_c) ?_
    refine wl_nil ?_
    refine then_n (hK4 _ _ ?_); clear hK4 K4
    refine wp_ret ?_
    refine then_r ?_
    refine ret1 rfl (.tmp rfl (show _ = Value.slice _ _ _ from rfl)) ?_
    exact ⟨none, 0, rfl, hS.new 0 rfl rfl, hS.kp⟩
  | some ad =>
    have hS := (St.sv w0).vcons rfl hv
    refine ent (n := 8) Try.func113 rfl rfl ?_
    refine wp_seq_k ?_; intro K1 hK1
    refine wlit ?_
    refine wl_v (x_assign ev_c) ?_
    refine wl_nil ?_
    refine then_n (hK1 _ _ ?_); clear hK1 K1
    refine wp_seq_k ?_; intro K2 hK2
    refine wp_seq_k ?_; intro K3 hK3
    refine wlit ?_
    refine wl_v (x_move (tmS rfl rfl)) ?_
    first
     | refine wl_v (x_seql Try.underlying53 (tmS rfl rfl) ev_c) ?_
     | refine wl_v (x_seqln Try.underlying53 (tmS rfl rfl) ev_c) ?_
    refine wl_nil ?_
    refine then_n (hK3 _ _ ?_); clear hK3 K3
    refine cnd (tm rfl) (fun hc0 => ?_) (fun hc0 => ?_)
    · try (exfalso; first | with_reducible exact absurd hc0 Bool.false_ne_true | with_reducible exact absurd hc0.symm Bool.false_ne_true | (simp only [nrm] at hc0; omega))
      all_goals
       try simp only [nrm] at hc0
       refine wp_seq_k ?_; intro K4 hK4
       refine wlit ?_
       refine wl_v (x_assign ev_c) ?_
       refine wl_nil ?_
       refine then_n (hK4 _ _ ?_); clear hK4 K4
       refine wp_ret ?_
       refine then_r ?_
       refine ret1 rfl (.tmp rfl (show _ = Value.slice _ _ _ from rfl)) ?_
       rw [Nat.zero_add] at hS ⊢
       exact ⟨A', c', rfl, hS.new 0 rfl rfl, hS.kp⟩
    try simp only [nrm] at hc0
    refine wp_skip ?_
    refine then_n (hK2 _ _ ?_); clear hK2 K2
    refine wp_seq_k ?_; intro K5 hK5
    refine wlit ?_
    refine wl_e rfl ?_; intro K hK
    refine ow_build0 hS Try.underlying53 tz_3 rfl rfl ?_
    clear hS; intro g3_0 w hg3_0 hS
    refine hK _ _ ?_; clear hK K
    refine wl_v (x_move (tmS rfl rfl)) ?_
    refine wl_e rfl ?_; intro K hK
    refine ow_appendV hS 0 rfl (viewV hS.ok 1 rfl) Try.underlying53 tz_3 rfl (tmS rfl rfl) (tmS rfl rfl) (one_i64 l) ⟨by decide, by simpa using hl⟩ (by simp only [maxLen]; omega) (by omega) ?_
    clear hS; intro A' c' w _ _ hS
    refine hK _ _ ?_; clear hK K
    refine wl_v (x_assign (tmS rfl rfl)) ?_
    refine wl_nil ?_
    refine then_n (hK5 _ _ ?_); clear hK5 K5
    refine wp_ret ?_
    refine ret1 rfl (.tmp rfl (show _ = Value.slice _ _ _ from rfl)) ?_
    rw [Nat.zero_add] at hS ⊢
    exact ⟨A', c', rfl, hS.new 0 rfl rfl, hS.kp⟩

set_option maxRecDepth 100000 in
set_option maxHeartbeats 4000000 in
theorem new_ok (mm : Nat) (A : Option Addr) (c : Nat) (to : List Int) (w0 : World) (hv : View w0 w0.heap.size A (to.map i64v)) (hm : 1 ≤ mm) (hm4 : mm ≤ 4096) (hto : 0 < to.length) (htl : to.length ≤ 1000000) (hand : mm &&& (mm - 1) = 0) :
    Calls Try.prog 36 #[.int .i64 (mm : Int), .slice A to.length c] w0 fun e w' => ∃ A' c', e = .returned (.tuple #[.agg #[.slice A' mm c'], .int .i64 0]) ∧ New w0 w' (.row (.slice A' mm c') 3 1 mm ((cyc to mm).map i64v)) ∧ Kp [] w0 w' := by
  obtain ⟨bt, ot, rfl⟩ := view_some hv (by simpa using hto)
  have hS := (St.sv w0).vcons rfl hv
  refine ent (n := 45) Try.func36 rfl rfl ?_
  refine wp_seq_k ?_; intro K1 hK1
  refine wlit ?_
  refine wl_e rfl ?_; intro K hK
  refine ow_alloc hS tz_61 rfl ?_
  clear hS; intro g0_0 w hg0_0 hS
  refine hK _ _ ?_; clear hK K
  refine wl_v (x_assign (ev_cN 0)) ?_
  refine wl_nil ?_
  refine then_n (hK1 _ _ ?_); clear hK1 K1
  refine wp_seq_k ?_; intro K2 hK2
  refine wp_seq_k ?_; intro K3 hK3
  refine wlit ?_
  refine wl_v (x_move (tmS rfl rfl)) ?_
  refine wl_v (x_len Try.underlying53 (tmS rfl rfl)) ?_
  refine wl_v (x_eql (tmI rfl rfl) (ev_cN 0)) ?_
  refine wl_v (x_move (tmB rfl rfl)) ?_
  refine gs_wl (tm (t := 11) rfl) (fun hg1_3 => ?_) (fun hg1_3 => ?_)
  · have hg1_3' := hg1_3; (try simp only [nrm] at hg1_3'); try (exfalso; first | with_reducible exact absurd hg1_3 Bool.false_ne_true | with_reducible exact absurd hg1_3.symm Bool.false_ne_true | omega)
    all_goals
     refine wl_s rfl (want_n rfl rfl rfl rfl (by rw [hg1_3]; rfl)) ?_
     refine wl_s rfl (want_n rfl rfl rfl rfl (by rw [hg1_3]; rfl)) ?_
     refine wl_v (x_pickT (tmB rfl rfl) hg1_3 ev_c) ?_
     refine wl_v (x_move (tmB rfl rfl)) ?_
     refine wl_s rfl (want_n rfl rfl rfl rfl rfl) ?_
     refine wl_s rfl (want_n rfl rfl rfl rfl rfl) ?_
     refine wl_v (x_pickT (tmB rfl rfl) rfl ev_c) ?_
     refine wl_v (x_move (tmB rfl rfl)) ?_
     refine wl_s rfl (want_n rfl rfl rfl rfl rfl) ?_
     refine wl_s rfl (want_n rfl rfl rfl rfl rfl) ?_
     refine wl_s rfl (want_n rfl rfl rfl rfl rfl) ?_
     refine wl_s rfl (want_n rfl rfl rfl rfl rfl) ?_
     refine wl_s rfl (want_n rfl rfl rfl rfl rfl) ?_
     refine wl_v (x_pickT (tmB rfl rfl) rfl ev_c) ?_
     refine wl_nil ?_
     refine then_n (hK3 _ _ ?_); clear hK3 K3
     refine cnd_t (tmB rfl rfl) rfl ?_
     refine wp_seq_k ?_; intro K4 hK4
     refine wlit ?_
     refine wl_v (x_build (bc_skip (.slice none 0 0) <| bc_nil) (by kernel_rfl)) ?_
     refine wl_e rfl ?_; intro K hK
     refine ow_storeA hS 0 rfl ts_61 (tmP rfl rfl) (tmA rfl rfl) rfl rfl rfl ?_
     clear hS; intro w hS
     refine hK _ _ ?_; clear hK K
     refine wl_v (x_assign (ev_cN 1)) ?_
     refine wl_nil ?_
     refine then_n (hK4 _ _ ?_); clear hK4 K4
     refine wp_ret ?_
     refine then_r ?_
     refine ret2 rfl (.cell rfl rfl (load_rowB (cs := [_]) hS.ok 0 rfl Try.underlying61 rfl ts_61 rfl)) (.tmp rfl (show _ = Value.int _ _ from rfl)) ?_
     obtain rfl : k = mm := by omega
     exact ⟨_, _, rfl, hS.new 0 rfl rfl, hS.kp⟩
  have hg1_3' := hg1_3; (try simp only [nrm] at hg1_3')
  refine wl_gv (want_y rfl rfl rfl rfl (by rw [hg1_3]; rfl)) (x_move (tmI rfl rfl)) ?_
  refine wl_gv (want_y rfl rfl rfl rfl (by rw [hg1_3]; rfl)) (x_lss (tmI rfl rfl) (ev_cN 1)) ?_
  refine wl_v (x_pickF (tmB rfl rfl) hg1_3 (tmB rfl rfl)) ?_
  refine wl_v (x_move (tmB rfl rfl)) ?_
  refine gs_wl (tm (t := 15) rfl) (fun hg1_7 => ?_) (fun hg1_7 => ?_)
  · have hg1_7' := hg1_7; (try simp only [nrm] at hg1_7'); try (exfalso; first | with_reducible exact absurd hg1_7 Bool.false_ne_true | with_reducible exact absurd hg1_7.symm Bool.false_ne_true | omega)
    all_goals
     refine wl_s rfl (want_n rfl rfl rfl rfl (by rw [hg1_7]; rfl)) ?_
     refine wl_s rfl (want_n rfl rfl rfl rfl (by rw [hg1_7]; rfl)) ?_
     refine wl_v (x_pickT (tmB rfl rfl) hg1_7 ev_c) ?_
     refine wl_v (x_move (tmB rfl rfl)) ?_
     refine wl_s rfl (want_n rfl rfl rfl rfl rfl) ?_
     refine wl_s rfl (want_n rfl rfl rfl rfl rfl) ?_
     refine wl_s rfl (want_n rfl rfl rfl rfl rfl) ?_
     refine wl_s rfl (want_n rfl rfl rfl rfl rfl) ?_
     refine wl_s rfl (want_n rfl rfl rfl rfl rfl) ?_
     refine wl_v (x_pickT (tmB rfl rfl) rfl ev_c) ?_
     refine wl_nil ?_
     refine then_n (hK3 _ _ ?_); clear hK3 K3
     refine cnd_t (tmB rfl rfl) rfl ?_
     refine wp_seq_k ?_; intro K6 hK6
     refine wlit ?_
     refine wl_v (x_build (bc_skip (.slice none 0 0) <| bc_nil) (by kernel_rfl)) ?_
     refine wl_e rfl ?_; intro K hK
     refine ow_storeA hS 0 rfl ts_61 (tmP rfl rfl) (tmA rfl rfl) rfl rfl rfl ?_
     clear hS; intro w hS
     refine hK _ _ ?_; clear hK K
     refine wl_v (x_assign (ev_cN 1)) ?_
     refine wl_nil ?_
     refine then_n (hK6 _ _ ?_); clear hK6 K6
     refine wp_ret ?_
     refine then_r ?_
     refine ret2 rfl (.cell rfl rfl (load_rowB (cs := [_]) hS.ok 0 rfl Try.underlying61 rfl ts_61 rfl)) (.tmp rfl (show _ = Value.int _ _ from rfl)) ?_
     obtain rfl : k = mm := by omega
     exact ⟨_, _, rfl, hS.new 0 rfl rfl, hS.kp⟩
  have hg1_7' := hg1_7; (try simp only [nrm] at hg1_7')
  refine wl_gv (want_y rfl rfl rfl rfl (by rw [hg1_7]; rfl)) (x_move (tmI rfl rfl)) ?_
  refine wl_gv (want_y rfl rfl rfl rfl (by rw [hg1_7]; rfl)) (x_gtr (tmI rfl rfl) (ev_cN 4096)) ?_
  refine wl_v (x_pickF (tmB rfl rfl) hg1_7 (tmB rfl rfl)) ?_
  refine wl_v (x_move (tmB rfl rfl)) ?_
  refine gs_wl (tm (t := 19) rfl) (fun hg1_11 => ?_) (fun hg1_11 => ?_)
  · have hg1_11' := hg1_11; (try simp only [nrm] at hg1_11'); try (exfalso; first | with_reducible exact absurd hg1_11 Bool.false_ne_true | with_reducible exact absurd hg1_11.symm Bool.false_ne_true | omega)
    all_goals
     refine wl_s rfl (want_n rfl rfl rfl rfl (by rw [hg1_11]; rfl)) ?_
     refine wl_s rfl (want_n rfl rfl rfl rfl (by rw [hg1_11]; rfl)) ?_
     refine wl_s rfl (want_n rfl rfl rfl rfl (by rw [hg1_11]; rfl)) ?_
     refine wl_s rfl (want_n rfl rfl rfl rfl (by rw [hg1_11]; rfl)) ?_
     refine wl_s rfl (want_n rfl rfl rfl rfl (by rw [hg1_11]; rfl)) ?_
     refine wl_v (x_pickT (tmB rfl rfl) hg1_11 ev_c) ?_
     refine wl_nil ?_
     refine then_n (hK3 _ _ ?_); clear hK3 K3
     refine cnd_t (tmB rfl rfl) rfl ?_
     refine wp_seq_k ?_; intro K8 hK8
     refine wlit ?_
     refine wl_v (x_build (bc_skip (.slice none 0 0) <| bc_nil) (by kernel_rfl)) ?_
     refine wl_e rfl ?_; intro K hK
     refine ow_storeA hS 0 rfl ts_61 (tmP rfl rfl) (tmA rfl rfl) rfl rfl rfl ?_
     clear hS; intro w hS
     refine hK _ _ ?_; clear hK K
     refine wl_v (x_assign (ev_cN 1)) ?_
     refine wl_nil ?_
     refine then_n (hK8 _ _ ?_); clear hK8 K8
     refine wp_ret ?_
     refine then_r ?_
     refine ret2 rfl (.cell rfl rfl (load_rowB (cs := [_]) hS.ok 0 rfl Try.underlying61 rfl ts_61 rfl)) (.tmp rfl (show _ = Value.int _ _ from rfl)) ?_
     obtain rfl : k = mm := by omega
     exact ⟨_, _, rfl, hS.new 0 rfl rfl, hS.kp⟩
  have hg1_11' := hg1_11; (try simp only [nrm] at hg1_11')
  refine wl_gv (want_y rfl rfl rfl rfl (by rw [hg1_11]; rfl)) (x_move (tmI rfl rfl)) ?_
  refine wl_gv (want_y rfl rfl rfl rfl (by rw [hg1_11]; rfl)) (x_move (tmI rfl rfl)) ?_
  first
   | refine wl_gv (want_y rfl rfl rfl rfl (by rw [hg1_11]; rfl)) (x_subN (tmI rfl rfl) (ev_cN 1) (fit_i64 (by omega)) (by omega)) ?_
   | refine wl_gv (want_y rfl rfl rfl rfl (by rw [hg1_11]; rfl)) (x_subI (tmI rfl rfl) (ev_cN 1) (IntWalk.i64_in _ (by omega))) ?_
   | refine wl_gv (want_y rfl rfl rfl rfl (by rw [hg1_11]; rfl)) (x_sub (tmI rfl rfl) (ev_cN 1)) ?_
  refine wl_gv (want_y rfl rfl rfl rfl (by rw [hg1_11]; rfl)) (x_andN (tmI rfl rfl) (tmI rfl rfl) (fit_i64 (by omega)) (fit_i64 (by omega))) ?_
  refine wl_gv (want_y rfl rfl rfl rfl (by rw [hg1_11]; rfl)) (x_neq (tmI rfl rfl) (ev_cN 0)) ?_
  refine wl_v (x_pickF (tmB rfl rfl) hg1_11 (tmB rfl rfl)) ?_
  refine wl_nil ?_
  refine then_n (hK3 _ _ ?_); clear hK3 K3
  refine cnd (tm rfl) (fun hc0 => ?_) (fun hc0 => ?_)
  · try (exfalso; first | with_reducible exact absurd hc0 Bool.false_ne_true | with_reducible exact absurd hc0.symm Bool.false_ne_true | (simp only [nrm] at hc0; omega))
    all_goals
     try simp only [nrm] at hc0
     refine wp_seq_k ?_; intro K10 hK10
     refine wlit ?_
     refine wl_v (x_build (bc_skip (.slice none 0 0) <| bc_nil) (by kernel_rfl)) ?_
     refine wl_e rfl ?_; intro K hK
     refine ow_storeA hS 0 rfl ts_61 (tmP rfl rfl) (tmA rfl rfl) rfl rfl rfl ?_
     clear hS; intro w hS
     refine hK _ _ ?_; clear hK K
     refine wl_v (x_assign (ev_cN 1)) ?_
     refine wl_nil ?_
     refine then_n (hK10 _ _ ?_); clear hK10 K10
     refine wp_ret ?_
     refine then_r ?_
     refine ret2 rfl (.cell rfl rfl (load_rowB (cs := [_]) hS.ok 0 rfl Try.underlying61 rfl ts_61 rfl)) (.tmp rfl (show _ = Value.int _ _ from rfl)) ?_
     obtain rfl : k = mm := by omega
     exact ⟨_, _, rfl, hS.new 0 rfl rfl, hS.kp⟩
  try simp only [nrm] at hc0
  refine wp_skip ?_
  refine then_n (hK2 _ _ ?_); clear hK2 K2
  refine wp_seq_k ?_; intro K12 hK12
  refine wlit ?_
  refine wl_e rfl ?_; intro K hK
  refine ow_alloc hS tz_61 rfl ?_
  clear hS; intro g3_0 w hg3_0 hS
  refine hK _ _ ?_; clear hK K
  refine wl_nil ?_
  refine then_n (hK12 _ _ ?_); clear hK12 K12
  refine wp_seq_k ?_; intro K13 hK13
  refine wp_seq_k ?_; intro K14 hK14
  refine wlit ?_
  refine wl_v (x_move (tmI rfl rfl)) ?_
  refine wl_v (x_move (ev_cN 0)) ?_
  refine wl_nil ?_
  refine then_n (hK14 _ _ ?_); clear hK14 K14
  refine wp_block ?_
  have hS := hS.nilrow 3 1
  refine lp [7, 28, 29, 30, 31, 32, 33, 34, 35, 36, 37, 38, 39, 40, 41, 42, 43] (fun m g w => ∃ (k : Nat), ∃ (A' : Option Addr), ∃ (c' : Nat), m = mm - k ∧ g 28 = .int .i64 (k : Int) ∧ St [] w0 [.row (.slice A' k c') 3 1 k ((cyc to k).map i64v), .blk g3_0 61 [.slice A' k c'], .blk g0_0 61 [.slice none 0 0], .vw (some ⟨bt, ot, none⟩) (to.map i64v)] w ∧ (k ≤ mm)) ?_ ?_
  · exact ⟨_, 0, none, 0, rfl, (by first | rfl | go_num), hS, (by omega)⟩
  · clear hS; intro m g w hI
    obtain ⟨k, A', c', rfl, hs28, hS, hk⟩ := hI
    refine fr_know (d := 28) hs28 ?_; clear hs28
    refine wp_seq_k ?_; intro K15 hK15
    refine wlit ?_
    refine wl_v (x_lss (tmI rfl rfl) (tmI rfl rfl)) ?_
    refine wl_nil ?_
    refine then_n (hK15 _ _ ?_); clear hK15 K15
    refine wp_seq_k ?_; intro K16 hK16
    refine cnd (tm rfl) (fun hc1 => ?_) (fun hc1 => ?_)
    · try (exfalso; first | with_reducible exact absurd hc1 Bool.false_ne_true | with_reducible exact absurd hc1.symm Bool.false_ne_true | (simp only [nrm] at hc1; omega))
      all_goals
       try simp only [nrm] at hc1
       refine wp_skip ?_
       refine then_n (hK16 _ _ ?_); clear hK16 K16
       refine wp_seq_k ?_; intro K17 hK17
       refine wp_block ?_
       refine wp_seq_k ?_; intro K18 hK18
       refine wlit ?_
       refine wl_v (x_move (tmI rfl rfl)) ?_
       refine wl_v (x_assign (tmI rfl rfl)) ?_
       refine wl_nil ?_
       refine then_n (hK18 _ _ ?_); clear hK18 K18
       refine rg_startk 2 hS mixed_ ?_
       clear hS; intro w hS
       refine rg_take 0 rfl rfl (by kernel_rfl) (by kernel_rfl) (by kernel_rfl) (want_0) (fun w hok => x_fa 0 Try.underlying61 rfl rfl ts_53 (tmP rfl rfl)) ?_
       refine rg_take 2 rfl rfl (by kernel_rfl) (by kernel_rfl) (by kernel_rfl) (want_0) (fun w hok => x_move (tmS rfl rfl)) ?_
       refine rg_take 3 rfl rfl (by kernel_rfl) (by kernel_rfl) (by kernel_rfl) (want_0) (fun w hok => x_move (tmI rfl rfl)) ?_
       refine rg_take 4 rfl rfl (by kernel_rfl) (by kernel_rfl) (by kernel_rfl) (want_0) (fun w hok => x_move (tmS rfl rfl)) ?_
       refine rg_take 5 rfl rfl (by kernel_rfl) (by kernel_rfl) (by kernel_rfl) (want_0) (fun w hok => x_len Try.underlying53 (tmS rfl rfl)) ?_
       first
        | refine rg_take 6 rfl rfl (by kernel_rfl) (by kernel_rfl) (by kernel_rfl) (want_0) (fun w hok => x_remN (tmI rfl rfl) (tmI rfl rfl) (by omega)) ?_
        | refine rg_take 6 rfl rfl (by kernel_rfl) (by kernel_rfl) (by kernel_rfl) (want_0) (fun w hok => x_rem (tmI rfl rfl) (tmI rfl rfl) (by omega)) ?_
       have hmod : k % to.length < to.length := Nat.mod_lt _ hto
       refine rg_take 7 rfl rfl (by kernel_rfl) (by kernel_rfl) (by kernel_rfl) (want_0) (fun w hok => x_ixs1 Try.underlying53 ts_3 (tmS rfl rfl) (tmI rfl rfl) (by omega)) ?_
       first
        | refine rg_take 8 rfl rfl (by kernel_rfl) (by kernel_rfl) (by kernel_rfl) (want_0) (fun w hok => x_load Try.underlying3 rfl (tmP rfl rfl) (cellB hok 0 rfl rfl)) ?_
        | refine rg_take 8 rfl rfl (by kernel_rfl) (by kernel_rfl) (by kernel_rfl) (want_0) (fun w hok => x_load Try.underlying3 rfl (tmP rfl rfl) (cellB hok 1 rfl rfl)) ?_
        | refine rg_take 8 rfl rfl (by kernel_rfl) (by kernel_rfl) (by kernel_rfl) (want_0) (fun w hok => x_load Try.underlying3 rfl (tmP rfl rfl) (cellV hok 0 rfl rfl)) ?_
        | refine rg_take 8 rfl rfl (by kernel_rfl) (by kernel_rfl) (by kernel_rfl) (want_0) (fun w hok => x_load Try.underlying3 rfl (tmP rfl rfl) (cellV hok 0 rfl (getm (by omega)))) ?_
        | refine rg_take 8 rfl rfl (by kernel_rfl) (by kernel_rfl) (by kernel_rfl) (want_0) (fun w hok => x_load Try.underlying3 rfl (tmP rfl rfl) (cellVs hok 0 rfl (fun _ => rfl) rfl (by omega) rfl)) ?_
        | refine rg_take 8 rfl rfl (by kernel_rfl) (by kernel_rfl) (by kernel_rfl) (want_0) (fun w hok => x_load Try.underlying3 rfl (tmP rfl rfl) (cellR hok 0 rfl rfl)) ?_
        | refine rg_take 8 rfl rfl (by kernel_rfl) (by kernel_rfl) (by kernel_rfl) (want_0) (fun w hok => x_load Try.underlying3 rfl (tmP rfl rfl) (cellR hok 0 rfl (getm (by omega)))) ?_
        | refine rg_take 8 rfl rfl (by kernel_rfl) (by kernel_rfl) (by kernel_rfl) (want_0) (fun w hok => x_load Try.underlying3 rfl (tmP rfl rfl) (cellRs hok 0 rfl (fun _ => rfl) rfl (by omega) rfl)) ?_
        | refine rg_take 8 rfl rfl (by kernel_rfl) (by kernel_rfl) (by kernel_rfl) (want_0) (fun w hok => x_load Try.underlying3 rfl (tmP rfl rfl) (cellV hok 1 rfl rfl)) ?_
        | refine rg_take 8 rfl rfl (by kernel_rfl) (by kernel_rfl) (by kernel_rfl) (want_0) (fun w hok => x_load Try.underlying3 rfl (tmP rfl rfl) (cellV hok 1 rfl (getm (by omega)))) ?_
        | refine rg_take 8 rfl rfl (by kernel_rfl) (by kernel_rfl) (by kernel_rfl) (want_0) (fun w hok => x_load Try.underlying3 rfl (tmP rfl rfl) (cellVs hok 1 rfl (fun _ => rfl) rfl (by omega) rfl)) ?_
        | refine rg_take 8 rfl rfl (by kernel_rfl) (by kernel_rfl) (by kernel_rfl) (want_0) (fun w hok => x_load Try.underlying3 rfl (tmP rfl rfl) (cellR hok 1 rfl rfl)) ?_
        | refine rg_take 8 rfl rfl (by kernel_rfl) (by kernel_rfl) (by kernel_rfl) (want_0) (fun w hok => x_load Try.underlying3 rfl (tmP rfl rfl) (cellR hok 1 rfl (getm (by omega)))) ?_
        | refine rg_take 8 rfl rfl (by kernel_rfl) (by kernel_rfl) (by kernel_rfl) (want_0) (fun w hok => x_load Try.underlying3 rfl (tmP rfl rfl) (cellRs hok 1 rfl (fun _ => rfl) rfl (by omega) rfl)) ?_
       refine rg_step2 1 9 rfl rfl (by kernel_rfl) (want_0) (want_0) (oks_drop hS 2 rfl) ?_ ?_
       · intro K hK
         first
          | refine ow_v (x_load Try.underlying53 rfl (tmP rfl rfl) (cellB hS.ok 1 rfl rfl)) ?_
          | refine ow_v (x_load Try.underlying53 rfl (tmP rfl rfl) (cellB hS.ok 1 rfl (getm (by omega)))) ?_
         refine hK _ _ ?_; clear hK K
         refine rg_step 9 rfl (by kernel_rfl) (want_0) (oks_drop hS 2 rfl) ?_; intro K hK
         refine ow_build hS Try.underlying53 tz_3 (bc_take (tmI rfl rfl) <| bc_nil) rfl rfl (by kernel_rfl) ?_
         clear hS; intro g7_9 w hg7_9 hS
         refine hK _ _ ?_; clear hK K
         refine rg_step 10 rfl (by kernel_rfl) (want_0) (oks_drop hS 3 rfl) ?_; intro K hK
         refine ow_append hS 1 0 rfl rfl Try.underlying53 tz_3 rfl (tmS rfl rfl) (tmS rfl rfl) rfl ⟨by decide, by decide, rfl⟩ (by simp only [maxLen]; omega) (by omega) ?_
         clear hS; intro g7_10 cg7_10 w hS
         refine hK _ _ ?_; clear hK K
         refine rg_take 11 rfl rfl (by kernel_rfl) (by kernel_rfl) (by kernel_rfl) (want_0) (fun w hok => x_fa 0 Try.underlying61 rfl rfl ts_53 (tmP rfl rfl)) ?_
         refine rg_step 12 rfl (by kernel_rfl) (want_0) (oks_drop hS 3 rfl) ?_; intro K hK
         first
          | refine ow_store hS 2 rfl ts_53 (tmP rfl rfl) (tmS rfl rfl) rfl rfl ?_
          | refine ow_storeX hS 2 rfl ts_53 (tmP rfl rfl) (tmS rfl rfl) rfl (by simp; omega) ?_
         clear hS; intro w hS
         refine hK _ _ ?_; clear hK K
         refine rg_done (oks_drop hS 3 rfl) (by kernel_rfl) ?_
         refine inb_n ?_
         refine then_n (hK17 _ _ ?_); clear hK17 K17
         refine wlit ?_
         first
          | refine wl_v (x_addN (tmI rfl rfl) (ev_cN 1) (fit_i64 (by omega))) ?_
          | refine wl_v (x_addI (tmI rfl rfl) (ev_cN 1) (IntWalk.i64_in _ (by omega))) ?_
          | refine wl_v (x_add (tmI rfl rfl) (ev_cN 1)) ?_
         refine wl_v (x_move (tmI rfl rfl)) ?_
         refine wl_nil ?_
         have he : (cyc to (k + 1)).map i64v = (cyc to k).map i64v ++ [.int .i64 (to.getD (k % to.length) 0)] := by simp [cyc, i64v]
         exact then_n ⟨_, _, rfl, (by show _ < _; omega), (by repeat (first | exact agree_self | exact agree_refl | refine agree_upd rfl ?_ | refine agree_mix rfl ?_)), k + 1, _, _, rfl, (by first | rfl | go_num), (by rw [he]; exact hS.pick [1, 2, 3, 4] rfl rfl), (by omega)⟩
       · intro K hK
         refine ow_build hS Try.underlying53 tz_3 (bc_take (tmI rfl rfl) <| bc_nil) rfl rfl (by kernel_rfl) ?_
         clear hS; intro g7_9 w hg7_9 hS
         refine hK _ _ ?_; clear hK K
         refine rg_step 1 rfl (by kernel_rfl) (want_0) (oks_drop hS 3 rfl) ?_; intro K hK
         first
          | refine ow_v (x_load Try.underlying53 rfl (tmP rfl rfl) (cellB hS.ok 2 rfl rfl)) ?_
          | refine ow_v (x_load Try.underlying53 rfl (tmP rfl rfl) (cellB hS.ok 2 rfl (getm (by omega)))) ?_
         refine hK _ _ ?_; clear hK K
         refine rg_step 10 rfl (by kernel_rfl) (want_0) (oks_drop hS 3 rfl) ?_; intro K hK
         refine ow_append hS 1 0 rfl rfl Try.underlying53 tz_3 rfl (tmS rfl rfl) (tmS rfl rfl) rfl ⟨by decide, by decide, rfl⟩ (by simp only [maxLen]; omega) (by omega) ?_
         clear hS; intro g7_10 cg7_10 w hS
         refine hK _ _ ?_; clear hK K
         refine rg_take 11 rfl rfl (by kernel_rfl) (by kernel_rfl) (by kernel_rfl) (want_0) (fun w hok => x_fa 0 Try.underlying61 rfl rfl ts_53 (tmP rfl rfl)) ?_
         refine rg_step 12 rfl (by kernel_rfl) (want_0) (oks_drop hS 3 rfl) ?_; intro K hK
         first
          | refine ow_store hS 2 rfl ts_53 (tmP rfl rfl) (tmS rfl rfl) rfl rfl ?_
          | refine ow_storeX hS 2 rfl ts_53 (tmP rfl rfl) (tmS rfl rfl) rfl (by simp; omega) ?_
         clear hS; intro w hS
         refine hK _ _ ?_; clear hK K
         refine rg_done (oks_drop hS 3 rfl) (by kernel_rfl) ?_
         refine inb_n ?_
         refine then_n (hK17 _ _ ?_); clear hK17 K17
         refine wlit ?_
         first
          | refine wl_v (x_addN (tmI rfl rfl) (ev_cN 1) (fit_i64 (by omega))) ?_
          | refine wl_v (x_addI (tmI rfl rfl) (ev_cN 1) (IntWalk.i64_in _ (by omega))) ?_
          | refine wl_v (x_add (tmI rfl rfl) (ev_cN 1)) ?_
         refine wl_v (x_move (tmI rfl rfl)) ?_
         refine wl_nil ?_
         have he : (cyc to (k + 1)).map i64v = (cyc to k).map i64v ++ [.int .i64 (to.getD (k % to.length) 0)] := by simp [cyc, i64v]
         exact then_n ⟨_, _, rfl, (by show _ < _; omega), (by repeat (first | exact agree_self | exact agree_refl | refine agree_upd rfl ?_ | refine agree_mix rfl ?_)), k + 1, _, _, rfl, (by first | rfl | go_num), (by rw [he]; exact hS.pick [1, 2, 3, 4] rfl rfl), (by omega)⟩
    try simp only [nrm] at hc1
    refine wp_exit ?_
    refine then_x ?_; clear hK16 K16
    refine then_x ?_
    refine inb_x ?_
    refine then_n (hK13 _ _ ?_); clear hK13 K13
    refine wp_seq_k ?_; intro K19 hK19
    refine wlit ?_
    refine wl_v (x_loadA (cs := [_]) Try.underlying61 rfl ts_61 (tmP rfl rfl) (rangeB hS.ok 1 rfl rfl)) ?_
    refine wl_e rfl ?_; intro K hK
    refine ow_storeA hS 2 rfl ts_61 (tmP rfl rfl) (tmA rfl rfl) rfl rfl rfl ?_
    clear hS; intro w hS
    refine hK _ _ ?_; clear hK K
    refine wl_v (x_assign (ev_cN 0)) ?_
    refine wl_nil ?_
    refine then_n (hK19 _ _ ?_); clear hK19 K19
    refine wp_ret ?_
    refine ret2 rfl (.cell rfl rfl (load_rowB (cs := [_]) hS.ok 2 rfl Try.underlying61 rfl ts_61 rfl)) (.tmp rfl (show _ = Value.int _ _ from rfl)) ?_
    obtain rfl : k = mm := by omega
    exact ⟨_, _, rfl, hS.new 0 rfl rfl, hS.kp⟩
end Go.Proofs.Ytchpcijmgnfkfaa
