
/- smooth: the reference's Pick by contract. Conditions: none but bounds. -/
import Derived.Test.YteocdobepgbnkaaSmoothG
namespace Go.Proofs.Yteocdobepgbnkaa
open Go.RowKit

structure Sh where
  slot : Int
  backend : Int
  weight : Int
  load : Int
  owed : Int
instance : Inhabited Sh := ⟨⟨0, 0, 0, 0, 0⟩⟩
def shV (p : Sh) : List Value := [.int .i64 p.slot, .int .i64 p.backend, .int .i64 p.weight, .int .u32 p.load, .int .i64 p.owed]
theorem shV_len (x : Sh) : (shV x).length = 5 := rfl
def Sh.cr (p : Sh) : Cr := ⟨p.backend, p.weight, p.owed⟩
def mkSh (c : Cn) (v : Int) : Sh := ⟨c.slot, c.backend, c.weight, c.load, v⟩
def shF (wt : List Cn) (f : Nat → Int) : List Sh := (List.range wt.length).map fun i => mkSh (wt.getD i default) (f i)
theorem shF_len (wt : List Cn) (f : Nat → Int) : (shF wt f).length = wt.length := by simp [shF]
theorem shF_getD (wt : List Cn) (f : Nat → Int) (i : Nat) (hi : i < wt.length) : (shF wt f).getD i default = mkSh (wt.getD i default) (f i) := by
  unfold shF
  rw [List.getD_eq_getElem?_getD, List.getElem?_map, List.getElem?_range hi]; rfl
theorem shF_set (wt : List Cn) (f : Nat → Int) (i : Nat) (v : Int) : (shF wt f).set i (mkSh (wt.getD i default) v) = shF wt (fun j => if j = i then v else f j) := by
  apply List.ext_getElem (by rw [List.length_set, shF_len, shF_len])
  intro j h1 h2
  rw [List.length_set, shF_len] at h1
  rw [List.getElem_set]
  simp only [shF, List.getElem_map, List.getElem_range]
  split
  · subst i; rw [if_pos rfl]
  · rw [if_neg (by omega)]
theorem shF_congr (wt : List Cn) {f g : Nat → Int} (h : ∀ i, i < wt.length → f i = g i) : shF wt f = shF wt g := by
  unfold shF
  apply List.map_congr_left
  intro i hi
  rw [h i (List.mem_range.1 hi)]
theorem shF_snoc (wt : List Cn) (x : Cn) : shF (wt ++ [x]) (fun _ => 0) = shF wt (fun _ => 0) ++ [mkSh x 0] := by
  unfold shF
  rw [List.length_append, List.length_singleton, List.range_succ, List.map_append]
  congr 1
  · apply List.map_congr_left
    intro i hi
    rw [getD_snocL _ _ _ (List.mem_range.1 hi)]
  · rw [List.map_singleton, getD_snocR]
/-- What weighs so far begins as the shares do. -/
def Pre (a : List Cn) (r : List Sh) : Prop := a.length ≤ r.length ∧ ∀ i, i < a.length → (a.getD i default).backend = (r.getD i default).backend ∧ (a.getD i default).weight = (r.getD i default).weight
theorem Pre_snoc (a : List Cn) (x : Cn) (r : List Sh) : Pre (a ++ [x]) r ↔ Pre a r ∧ a.length < r.length ∧ x.backend = (r.getD a.length default).backend ∧ x.weight = (r.getD a.length default).weight := by
  unfold Pre
  rw [List.length_append, List.length_singleton]
  constructor
  · rintro ⟨h1, h2⟩
    refine ⟨⟨by omega, fun i hi => ?_⟩, by omega, ?_⟩
    · have := h2 i (by omega); rw [getD_snocL _ _ _ hi] at this; exact this
    · have := h2 a.length (by omega); rw [getD_snocR] at this; exact this
  · rintro ⟨⟨h1, h2⟩, h3, h4⟩
    refine ⟨by omega, fun i hi => ?_⟩
    by_cases h : i < a.length
    · rw [getD_snocL _ _ _ h]; exact h2 i h
    · obtain rfl : i = a.length := by omega
      rw [getD_snocR]; exact h4
theorem cr_getD (r : List Sh) (i : Nat) : (r.map Sh.cr).getD i default = (r.getD i default).cr := by
  rw [List.getD_eq_getElem?_getD, List.getD_eq_getElem?_getD, List.getElem?_map]
  cases r[i]? <;> rfl
theorem Pre_same (wt : List Cn) (r : List Sh) : SameP wt (r.map Sh.cr) ↔ Pre wt r ∧ wt.length = r.length := by
  unfold SameP Pre
  rw [List.length_map]
  constructor
  · rintro ⟨h1, h2⟩
    refine ⟨⟨by omega, fun i hi => ?_⟩, h1⟩
    have := h2 i hi; rw [cr_getD] at this; exact this
  · rintro ⟨⟨_, h2⟩, h1⟩
    refine ⟨h1, fun i hi => ?_⟩
    rw [cr_getD]; exact h2 i hi

/-- What is owed when the first k have been raised. -/
def owF (kr : List Cr) (k i : Nat) : Int := if i < k then (kr.getD i default).owed + (kr.getD i default).weight else 0

set_option maxRecDepth 100000 in
set_option maxHeartbeats 4000000 in
theorem rpick_none_c (m : Nat) (R : Option Addr) (cr : Nat) (r : List Sh) (n : Nat) (A : Option Addr) (c : Nat) (l : List Cn) (w0 : World) (hr : View w0 w0.heap.size R (flat shV r)) (hv : View w0 w0.heap.size A (flat cnV l))
    (hm : r.length = m) (hl : l.length = n) (hn4 : n ≤ 1000) (hm4 : m ≤ 1000) (hq0 : (wfT l n).length = 0) (hw : ∀ i, i < n → (l.getD i default).weight ≤ 1000 ∧ 0 ≤ (l.getD i default).weight) :
    Calls Try.prog 10 #[.slice R m cr, .slice A n c] w0 fun e w' => e = .returned (.tuple #[.slice R m cr, .int .i64 (-1)]) ∧ Kp [] w0 w' := by
  have hS := ((St.sv w0).vcons rfl hv).vcons rfl hr
  have hz : ∀ j, j < n → (l.getD j default).weight = 0 := by
    intro j hj
    have haj := hw j hj
    by_cases hp : 0 < (l.getD j default).weight
    · obtain ⟨i, hi, _⟩ := wf_has l n j hj hp
      omega
    · omega
  refine ent (n := 146) Try.func10 rfl rfl ?_
  refine wp_seq_k ?_; intro K1 hK1
  refine wlit ?_
  refine wl_v (x_assign ev_c) ?_
  refine wl_v (x_assign (ev_cN 0)) ?_
  refine wl_nil ?_
  refine then_n (hK1 _ _ ?_); clear hK1 K1
  refine wp_seq_k ?_; intro K2 hK2
  refine wlit ?_
  refine wl_v (x_assign ev_c) ?_
  refine wl_nil ?_
  refine then_n (hK2 _ _ ?_); clear hK2 K2
  refine wp_seq_k ?_; intro K3 hK3
  refine wlit ?_
  refine wl_v (x_assign ev_c) ?_
  refine wl_nil ?_
  refine then_n (hK3 _ _ ?_); clear hK3 K3
  refine wp_seq_k ?_; intro K4 hK4
  refine wlit ?_
  refine wl_v (x_assign (ev_cN 0)) ?_
  refine wl_nil ?_
  refine then_n (hK4 _ _ ?_); clear hK4 K4
  refine wp_seq_k ?_; intro K5 hK5
  refine wp_seq_k ?_; intro K6 hK6
  refine wlit ?_
  refine wl_v (x_assign (ev_cN 0)) ?_
  refine wl_nil ?_
  refine then_n (hK6 _ _ ?_); clear hK6 K6
  refine wp_block ?_
  refine lp [6, 7, 8, 9, 10, 13, 14, 15, 16, 17, 18, 19, 20, 21, 22, 23, 24, 25, 26, 27, 28, 29, 30, 31, 32, 33, 34, 35, 36, 37, 38, 39, 40, 41, 42, 43, 44, 45, 46, 47, 48, 49, 50, 51, 52, 53, 54, 55, 56, 57, 58, 59, 60, 61, 62, 63, 64, 65, 66, 67, 68, 69, 70, 71, 72, 73, 74, 75, 76] (fun mz g w => ∃ (k : Nat), mz = n - k ∧ g 9 = .int .i64 (k : Int) ∧ g 6 = .slice none 0 0 ∧ g 7 = .bool true ∧ g 8 = .int .i64 0 ∧ St [] w0 [.vw R (flat shV r), .vw A (flat cnV l)] w ∧ (k ≤ n)) ?_ ?_
  · exact ⟨_, 0, rfl, (by first | rfl | go_num | exact congrArg (Value.int _) (by first | omega | (simp; done) | (simp; omega))), (by first | rfl | go_num | exact congrArg (Value.int _) (by first | omega | (simp; done) | (simp; omega))), (by first | rfl | go_num | exact congrArg (Value.int _) (by first | omega | (simp; done) | (simp; omega))), (by first | rfl | go_num | exact congrArg (Value.int _) (by first | omega | (simp; done) | (simp; omega))), hS, (by omega)⟩
  · clear hS; intro mz g w hI
    obtain ⟨k, rfl, hs9, hs6, hs7, hs8, hS, hk⟩ := hI
    refine fr_know (d := 9) hs9 ?_; clear hs9
    refine fr_know (d := 6) hs6 ?_; clear hs6
    refine fr_know (d := 7) hs7 ?_; clear hs7
    refine fr_know (d := 8) hs8 ?_; clear hs8
    refine wp_seq_k ?_; intro K7 hK7
    refine wp_seq_k ?_; intro K8 hK8
    refine wlit ?_
    refine wl_v (x_move (tmI rfl rfl)) ?_
    refine wl_v (x_move (tmS rfl rfl)) ?_
    refine wl_v (x_len Try.underlying30 (tmS rfl rfl)) ?_
    refine wl_v (x_lss (tmI rfl rfl) (tmI rfl rfl)) ?_
    refine wl_nil ?_
    refine then_n (hK8 _ _ ?_); clear hK8 K8
    refine cnd (tm rfl) (fun hc0 => ?_) (fun hc0 => ?_)
    · try (exfalso; first | with_reducible exact absurd hc0 Bool.false_ne_true | with_reducible exact absurd hc0.symm Bool.false_ne_true | (simp only [nrm] at hc0; omega) | (simp at hc0; done))
      all_goals
       try simp only [nrm] at hc0
       obtain ⟨b4, o4, rfl⟩ := view_some hv (by rw [flat_length cnV_len]; omega)
       have hzk := hz k (by omega)
       refine wp_skip ?_
       refine then_n (hK7 _ _ ?_); clear hK7 K7
       refine wp_seq_k ?_; intro K9 hK9
       refine wp_block ?_
       refine wp_seq_k ?_; intro K10 hK10
       refine wp_seq_k ?_; intro K11 hK11
       refine wlit ?_
       refine wl_v (x_move (tmS rfl rfl)) ?_
       refine wl_v (x_move (tmI rfl rfl)) ?_
       refine wl_v (x_ixs Try.underlying30 ts_40 (tmS rfl rfl) (tmI rfl rfl) (by omega)) ?_
       refine wl_v (x_fa 2 Try.underlying40 rfl rfl ts_3 (tmP rfl rfl)) ?_
       first
        | refine wl_v (x_load Try.underlying3 rfl (tmP rfl rfl) (cellV hS.ok 0 rfl rfl)) ?_
        | refine wl_v (x_load Try.underlying3 rfl (tmP rfl rfl) (cellV hS.ok 0 rfl (getm (by omega)))) ?_
        | refine wl_v (x_load Try.underlying3 rfl (tmP rfl rfl) (cellVs hS.ok 0 rfl (fun _ => rfl) rfl (by omega) rfl)) ?_
        | refine wl_v (x_load Try.underlying3 rfl (tmP rfl rfl) (cellV hS.ok 1 rfl rfl)) ?_
        | refine wl_v (x_load Try.underlying3 rfl (tmP rfl rfl) (cellV hS.ok 1 rfl (getm (by omega)))) ?_
        | refine wl_v (x_load Try.underlying3 rfl (tmP rfl rfl) (cellVs hS.ok 1 rfl (fun _ => rfl) rfl (by omega) rfl)) ?_
       refine wl_v (x_lss (tmI rfl rfl) (ev_cN 1)) ?_
       refine wl_nil ?_
       refine then_n (hK11 _ _ ?_); clear hK11 K11
       refine cnds (tm rfl) (fun hc1 => ?_) (fun hc1 => ?_)
       · exfalso
         simp only [nrm] at hc1
         omega
       try (exfalso; first | with_reducible exact absurd hc1 Bool.false_ne_true | with_reducible exact absurd hc1.symm Bool.false_ne_true | (simp only [nrm] at hc1; omega) | (simp at hc1; done))
       all_goals
        try simp only [nrm] at hc1
        refine wp_exit ?_
        refine then_x ?_; clear hK10 K10
        refine inb_x ?_
        refine then_n (hK9 _ _ ?_); clear hK9 K9
        refine wlit ?_
        refine wl_v (x_move (tmI rfl rfl)) ?_
        first
         | refine wl_v (x_addN (tmI rfl rfl) (ev_cN 1) (fit_i64 (by omega))) ?_
         | refine wl_v (x_addI (tmI rfl rfl) (ev_cN 1) (IntWalk.i64_in _ (by omega))) ?_
         | refine wl_v (x_add (tmI rfl rfl) (ev_cN 1)) ?_
        refine wl_v (x_assign (tmI rfl rfl)) ?_
        refine wl_nil ?_
        exact then_n ⟨_, _, rfl, (by show _ < _; omega), (by repeat (first | exact agree_self | exact agree_refl | refine agree_upd rfl ?_ | refine agree_mix rfl ?_)), k + 1, rfl, (by first | rfl | go_num | exact congrArg (Value.int _) (by first | omega | (simp; done) | (simp; omega))), (by first | rfl | go_num | exact congrArg (Value.int _) (by first | omega | (simp; done) | (simp; omega))), (by first | rfl | go_num | exact congrArg (Value.int _) (by first | omega | (simp; done) | (simp; omega))), (by first | rfl | go_num | exact congrArg (Value.int _) (by first | omega | (simp; done) | (simp; omega))), hS, (by omega)⟩
    try (exfalso; first | with_reducible exact absurd hc0 Bool.false_ne_true | with_reducible exact absurd hc0.symm Bool.false_ne_true | (simp only [nrm] at hc0; omega) | (simp at hc0; done))
    all_goals
     try simp only [nrm] at hc0
     refine wp_exit ?_
     refine then_x ?_; clear hK7 K7
     refine then_x ?_
     refine inb_x ?_
     refine then_n (hK5 _ _ ?_); clear hK5 K5
     refine wp_seq_k ?_; intro K12 hK12
     refine wp_seq_k ?_; intro K13 hK13
     refine wlit ?_
     refine wl_v (x_move (tmS rfl rfl)) ?_
     refine wl_v (x_len Try.underlying28 (tmS rfl rfl)) ?_
     refine wl_v (x_eql (tmI rfl rfl) (ev_cN 0)) ?_
     refine wl_nil ?_
     refine then_n (hK13 _ _ ?_); clear hK13 K13
     refine cnds (tm rfl) (fun hc2 => ?_) (fun hc2 => ?_)
     · exfalso
       simp at hc2
     try (exfalso; first | with_reducible exact absurd hc2 Bool.false_ne_true | with_reducible exact absurd hc2.symm Bool.false_ne_true | (simp only [nrm] at hc2; omega) | (simp at hc2; done))
     all_goals
      try simp only [nrm] at hc2
      refine wp_seq_k ?_; intro K14 hK14
      refine wlit ?_
      refine wl_v (x_move (tmS rfl rfl)) ?_
      refine wl_v (x_assign (tmS rfl rfl)) ?_
      refine wl_v (x_assign ev_c) ?_
      refine wl_nil ?_
      refine then_n (hK14 _ _ ?_); clear hK14 K14
      refine wp_ret ?_
      refine then_r ?_
      refine ret2 rfl (.tmp rfl (show _ = Value.slice _ _ _ from rfl)) (.tmp rfl (show _ = Value.int _ _ from rfl)) ?_
      exact ⟨rfl, hS.kp⟩
set_option maxRecDepth 100000 in
set_option maxHeartbeats 4000000 in
theorem rpick_c (m : Nat) (R : Option Addr) (cr : Nat) (r : List Sh) (n : Nat) (A : Option Addr) (c : Nat) (l : List Cn) (w0 : World) (hr : View w0 w0.heap.size R (flat shV r)) (hv : View w0 w0.heap.size A (flat cnV l))
    (hm : r.length = m) (hl : l.length = n) (hn4 : n ≤ 1000) (hm4 : m ≤ 1000) (hq0 : 0 < (wfT l n).length) (hmild : Mild (startP (wfT l n) (r.map Sh.cr))) (hw : ∀ i, i < n → (l.getD i default).weight ≤ 1000 ∧ 0 ≤ (l.getD i default).weight) (hsum : sumW (wfT l n) = sumF (wOf l) n) :
    Calls Try.prog 10 #[.slice R m cr, .slice A n c] w0 fun e w' => ∃ A' c' r', e = .returned (.tuple #[.slice A' (wfT l n).length c', .int .i64 (besP (startP (wfT l n) (r.map Sh.cr)) (wfT l n).length)]) ∧
      r' = shF (wfT l n) (fun i => ((payP (startP (wfT l n) (r.map Sh.cr))).getD i default).owed) ∧
      New w0 w' (.row (.slice A' (wfT l n).length c') 42 5 (wfT l n).length (flat shV r')) ∧ Kp [] w0 w' := by
  have hS := ((St.sv w0).vcons rfl hv).vcons rfl hr
  refine ent (n := 146) Try.func10 rfl rfl ?_
  refine wp_seq_k ?_; intro K1 hK1
  refine wlit ?_
  refine wl_v (x_assign ev_c) ?_
  refine wl_v (x_assign (ev_cN 0)) ?_
  refine wl_nil ?_
  refine then_n (hK1 _ _ ?_); clear hK1 K1
  refine wp_seq_k ?_; intro K2 hK2
  refine wlit ?_
  refine wl_v (x_assign ev_c) ?_
  refine wl_nil ?_
  refine then_n (hK2 _ _ ?_); clear hK2 K2
  refine wp_seq_k ?_; intro K3 hK3
  refine wlit ?_
  refine wl_v (x_assign ev_c) ?_
  refine wl_nil ?_
  refine then_n (hK3 _ _ ?_); clear hK3 K3
  refine wp_seq_k ?_; intro K4 hK4
  refine wlit ?_
  refine wl_v (x_assign (ev_cN 0)) ?_
  refine wl_nil ?_
  refine then_n (hK4 _ _ ?_); clear hK4 K4
  refine wp_seq_k ?_; intro K5 hK5
  refine wp_seq_k ?_; intro K6 hK6
  refine wlit ?_
  refine wl_v (x_assign (ev_cN 0)) ?_
  refine wl_nil ?_
  refine then_n (hK6 _ _ ?_); clear hK6 K6
  refine wp_block ?_
  have hS := hS.nilrow 42 5
  refine lp [6, 7, 8, 9, 10, 13, 14, 15, 16, 17, 18, 19, 20, 21, 22, 23, 24, 25, 26, 27, 28, 29, 30, 31, 32, 33, 34, 35, 36, 37, 38, 39, 40, 41, 42, 43, 44, 45, 46, 47, 48, 49, 50, 51, 52, 53, 54, 55, 56, 57, 58, 59, 60, 61, 62, 63, 64, 65, 66, 67, 68, 69, 70, 71, 72, 73, 74, 75, 76] (fun mz g w => ∃ (k : Nat), ∃ (A' : Option Addr), ∃ (q c' : Nat), ∃ (b : Bool), mz = n - k ∧ g 9 = .int .i64 (k : Int) ∧ g 6 = .slice A' q c' ∧ g 7 = .bool b ∧ g 8 = .int .i64 (sumF (wOf l) k) ∧ St [] w0 [.row (.slice A' q c') 42 5 q (flat shV (shF (wfT l k) (fun _ => 0))), .vw R (flat shV r), .vw A (flat cnV l)] w ∧ (k ≤ n) ∧ (q = (wfT l k).length) ∧ (b = true ↔ Pre (wfT l k) r) ∧ (0 ≤ sumF (wOf l) k ∧ sumF (wOf l) k ≤ 1000 * k)) ?_ ?_
  · exact ⟨_, 0, none, 0, 0, true, rfl, (by first | rfl | go_num | exact congrArg (Value.int _) (by first | omega | (simp; done) | (simp; omega))), (by first | rfl | go_num | exact congrArg (Value.int _) (by first | omega | (simp; done) | (simp; omega))), (by first | rfl | go_num | exact congrArg (Value.int _) (by first | omega | (simp; done) | (simp; omega))), (by first | rfl | go_num | exact congrArg (Value.int _) (by first | omega | (simp; done) | (simp; omega))), hS, (by omega), (by first | rfl | exact hq1), (by first | exact hb1 | (simp [Pre, wfT])), (by first | exact hsk1 | simp [sumF])⟩
  · clear hS; intro mz g w hI
    obtain ⟨k, A', q, c', b, rfl, hs9, hs6, hs7, hs8, hS, hk, hq, hb, hsk⟩ := hI
    refine fr_know (d := 9) hs9 ?_; clear hs9
    refine fr_know (d := 6) hs6 ?_; clear hs6
    refine fr_know (d := 7) hs7 ?_; clear hs7
    refine fr_know (d := 8) hs8 ?_; clear hs8
    refine wp_seq_k ?_; intro K7 hK7
    refine wp_seq_k ?_; intro K8 hK8
    refine wlit ?_
    refine wl_v (x_move (tmI rfl rfl)) ?_
    refine wl_v (x_move (tmS rfl rfl)) ?_
    refine wl_v (x_len Try.underlying30 (tmS rfl rfl)) ?_
    refine wl_v (x_lss (tmI rfl rfl) (tmI rfl rfl)) ?_
    refine wl_nil ?_
    refine then_n (hK8 _ _ ?_); clear hK8 K8
    refine cnd (tm rfl) (fun hc0 => ?_) (fun hc0 => ?_)
    · try (exfalso; first | with_reducible exact absurd hc0 Bool.false_ne_true | with_reducible exact absurd hc0.symm Bool.false_ne_true | (simp only [nrm] at hc0; omega) | (simp at hc0; done))
      all_goals
       try simp only [nrm] at hc0
       obtain ⟨b4, o4, rfl⟩ := view_some hv (by rw [flat_length cnV_len]; omega)
       have hak := hw k (by omega)
       have hsk1 : 0 ≤ sumF (wOf l) (k + 1) ∧ sumF (wOf l) (k + 1) ≤ 1000 * ((k + 1 : Nat) : Int) := by
         simp only [sumF]
         show 0 ≤ _ + (l.getD k default).weight ∧ _ + (l.getD k default).weight ≤ _
         omega
       have hqk : (wfT l k).length ≤ k := wfT_le l k
       subst hq
       refine wp_skip ?_
       refine then_n (hK7 _ _ ?_); clear hK7 K7
       refine wp_seq_k ?_; intro K9 hK9
       refine wp_block ?_
       refine wp_seq_k ?_; intro K10 hK10
       refine wp_seq_k ?_; intro K11 hK11
       refine wlit ?_
       refine wl_v (x_move (tmS rfl rfl)) ?_
       refine wl_v (x_move (tmI rfl rfl)) ?_
       refine wl_v (x_ixs Try.underlying30 ts_40 (tmS rfl rfl) (tmI rfl rfl) (by omega)) ?_
       refine wl_v (x_fa 2 Try.underlying40 rfl rfl ts_3 (tmP rfl rfl)) ?_
       first
        | refine wl_v (x_load Try.underlying3 rfl (tmP rfl rfl) (cellR hS.ok 0 rfl rfl)) ?_
        | refine wl_v (x_load Try.underlying3 rfl (tmP rfl rfl) (cellR hS.ok 0 rfl (getm (by omega)))) ?_
        | refine wl_v (x_load Try.underlying3 rfl (tmP rfl rfl) (cellRs hS.ok 0 rfl (fun _ => rfl) rfl (by omega) rfl)) ?_
        | refine wl_v (x_load Try.underlying3 rfl (tmP rfl rfl) (cellV hS.ok 1 rfl rfl)) ?_
        | refine wl_v (x_load Try.underlying3 rfl (tmP rfl rfl) (cellV hS.ok 1 rfl (getm (by omega)))) ?_
        | refine wl_v (x_load Try.underlying3 rfl (tmP rfl rfl) (cellVs hS.ok 1 rfl (fun _ => rfl) rfl (by omega) rfl)) ?_
        | refine wl_v (x_load Try.underlying3 rfl (tmP rfl rfl) (cellV hS.ok 2 rfl rfl)) ?_
        | refine wl_v (x_load Try.underlying3 rfl (tmP rfl rfl) (cellV hS.ok 2 rfl (getm (by omega)))) ?_
        | refine wl_v (x_load Try.underlying3 rfl (tmP rfl rfl) (cellVs hS.ok 2 rfl (fun _ => rfl) rfl (by omega) rfl)) ?_
       refine wl_v (x_lss (tmI rfl rfl) (ev_cN 1)) ?_
       refine wl_nil ?_
       refine then_n (hK11 _ _ ?_); clear hK11 K11
       refine cnd (tm rfl) (fun hc1 => ?_) (fun hc1 => ?_)
       · try (exfalso; first | with_reducible exact absurd hc1 Bool.false_ne_true | with_reducible exact absurd hc1.symm Bool.false_ne_true | (simp only [nrm] at hc1; omega) | (simp at hc1; done))
         all_goals
          try simp only [nrm] at hc1
          have hsz : sumF (wOf l) (k + 1) = sumF (wOf l) k := by
            simp only [sumF]
            show _ + (l.getD k default).weight = _
            omega
          have hwf1 : wfT l (k + 1) = wfT l k := by simp only [wfT]; rw [if_neg (by omega)]
          have hq1 : (wfT l k).length = (wfT l (k + 1)).length := by rw [hwf1]
          have hb1 : b = true ↔ Pre (wfT l (k + 1)) r := by rw [hwf1]; exact hb
          refine wp_exit ?_
          refine then_x ?_; clear hK10 K10
          refine inb_x ?_
          refine then_n (hK9 _ _ ?_); clear hK9 K9
          refine wlit ?_
          refine wl_v (x_move (tmI rfl rfl)) ?_
          first
           | refine wl_v (x_addN (tmI rfl rfl) (ev_cN 1) (fit_i64 (by omega))) ?_
           | refine wl_v (x_addI (tmI rfl rfl) (ev_cN 1) (IntWalk.i64_in _ (by omega))) ?_
           | refine wl_v (x_add (tmI rfl rfl) (ev_cN 1)) ?_
          refine wl_v (x_assign (tmI rfl rfl)) ?_
          refine wl_nil ?_
          first
           | exact then_n ⟨_, _, rfl, (by show _ < _; omega), (by repeat (first | exact agree_self | exact agree_refl | refine agree_upd rfl ?_ | refine agree_mix rfl ?_)), k + 1, _, _, _, _, rfl, (by first | rfl | go_num | exact congrArg (Value.int _) (by first | omega | (simp; done) | (simp; omega))), (by first | rfl | go_num | exact congrArg (Value.int _) (by first | omega | (simp; done) | (simp; omega))), (by first | rfl | go_num | exact congrArg (Value.int _) (by first | omega | (simp; done) | (simp; omega))), (by first | rfl | (rw [hsz]; done) | (rw [hsz]; rfl) | (rw [hsz]; go_num)), (by rw [hwf1]; exact hS), (by omega), (by first | rfl | exact hq1), (by first | exact hb1 | (simp [Pre, wfT])), (by first | exact hsk1 | simp [sumF])⟩
           | exact then_n ⟨_, _, rfl, (by show _ < _; omega), (by repeat (first | exact agree_self | exact agree_refl | refine agree_upd rfl ?_ | refine agree_mix rfl ?_)), k + 1, _, _, _, _, rfl, (by first | rfl | go_num | exact congrArg (Value.int _) (by first | omega | (simp; done) | (simp; omega))), (by first | rfl | go_num | exact congrArg (Value.int _) (by first | omega | (simp; done) | (simp; omega))), (by first | rfl | go_num | exact congrArg (Value.int _) (by first | omega | (simp; done) | (simp; omega))), (by first | rfl | (rw [hsz]; done) | (rw [hsz]; rfl) | (rw [hsz]; go_num)), (by rw [hwf1, shF_snoc, flat_snoc]; exact hS.pick [1, 2, 3] rfl rfl), (by omega), (by first | rfl | exact hq1), (by first | exact hb1 | (simp [Pre, wfT])), (by first | exact hsk1 | simp [sumF])⟩
       try (exfalso; first | with_reducible exact absurd hc1 Bool.false_ne_true | with_reducible exact absurd hc1.symm Bool.false_ne_true | (simp only [nrm] at hc1; omega) | (simp at hc1; done))
       all_goals
        try simp only [nrm] at hc1
        have hwf1 : wfT l (k + 1) = wfT l k ++ [l.getD k default] := by simp only [wfT]; rw [if_pos (by omega)]
        have hq1 : (wfT l k).length + 1 = (wfT l (k + 1)).length := by rw [hwf1, List.length_append, List.length_singleton]
        refine wp_skip ?_
        refine then_n (hK10 _ _ ?_); clear hK10 K10
        refine wp_seq_k ?_; intro K12 hK12
        refine wlit ?_
        refine wl_v (x_move (tmS rfl rfl)) ?_
        refine wl_v (x_len Try.underlying28 (tmS rfl rfl)) ?_
        refine wl_v (x_assign (tmI rfl rfl)) ?_
        refine wl_nil ?_
        refine then_n (hK12 _ _ ?_); clear hK12 K12
        refine wp_seq_k ?_; intro K13 hK13
        refine rg_startk 0 hS mixed_ ?_
        clear hS; intro w hS
        refine rg_take 0 rfl rfl (by kernel_rfl) (by kernel_rfl) (by kernel_rfl) (want_0) (fun w hok => x_move (tmB rfl rfl)) ?_
        refine rg_take 1 rfl rfl (by kernel_rfl) (by kernel_rfl) (by kernel_rfl) (want_0) (fun w hok => x_move (tmB rfl rfl)) ?_
        refine gs_rg (tm (t := 28) rfl) (fun hg9_1 => ?_) (fun hg9_1 => ?_)
        · have hg9_1' := hg9_1; (try simp only [nrm] at hg9_1'); try (exfalso; first | with_reducible exact absurd hg9_1 Bool.false_ne_true | with_reducible exact absurd hg9_1.symm Bool.false_ne_true | omega | (simp at hg9_1; done))
          all_goals
           refine rg_take 2 rfl rfl (by kernel_rfl) (by kernel_rfl) (by kernel_rfl) (want_y rfl rfl rfl rfl (by rw [hg9_1]; rfl)) (fun w hok => x_move (tmI rfl rfl)) ?_
           refine rg_take 3 rfl rfl (by kernel_rfl) (by kernel_rfl) (by kernel_rfl) (want_y rfl rfl rfl rfl (by rw [hg9_1]; rfl)) (fun w hok => x_move (tmS rfl rfl)) ?_
           refine rg_take 4 rfl rfl (by kernel_rfl) (by kernel_rfl) (by kernel_rfl) (want_y rfl rfl rfl rfl (by rw [hg9_1]; rfl)) (fun w hok => x_len Try.underlying28 (tmS rfl rfl)) ?_
           refine rg_take 5 rfl rfl (by kernel_rfl) (by kernel_rfl) (by kernel_rfl) (want_y rfl rfl rfl rfl (by rw [hg9_1]; rfl)) (fun w hok => x_lss (tmI rfl rfl) (tmI rfl rfl)) ?_
           refine rg_take 6 rfl rfl (by kernel_rfl) (by kernel_rfl) (by kernel_rfl) (want_0) (fun w hok => x_pickT (tmB rfl rfl) hg9_1 (tmB rfl rfl)) ?_
           refine rg_take 7 rfl rfl (by kernel_rfl) (by kernel_rfl) (by kernel_rfl) (want_0) (fun w hok => x_move (tmB rfl rfl)) ?_
           refine gs_rg (tm (t := 34) rfl) (fun hg9_7 => ?_) (fun hg9_7 => ?_)
           · have hg9_7' := hg9_7; (try simp only [nrm] at hg9_7'); try (exfalso; first | with_reducible exact absurd hg9_7 Bool.false_ne_true | with_reducible exact absurd hg9_7.symm Bool.false_ne_true | omega | (simp at hg9_7; done))
             all_goals
              obtain ⟨b5, o5, rfl⟩ := view_some hr (by rw [flat_length shV_len]; omega)
              refine rg_take 8 rfl rfl (by kernel_rfl) (by kernel_rfl) (by kernel_rfl) (want_y rfl rfl rfl rfl (by rw [hg9_7]; rfl)) (fun w hok => x_move (tmS rfl rfl)) ?_
              refine rg_take 9 rfl rfl (by kernel_rfl) (by kernel_rfl) (by kernel_rfl) (want_y rfl rfl rfl rfl (by rw [hg9_7]; rfl)) (fun w hok => x_move (tmI rfl rfl)) ?_
              refine rg_take 10 rfl rfl (by kernel_rfl) (by kernel_rfl) (by kernel_rfl) (want_y rfl rfl rfl rfl (by rw [hg9_7]; rfl)) (fun w hok => x_ixs Try.underlying28 ts_42 (tmS rfl rfl) (tmI rfl rfl) (by omega)) ?_
              refine rg_take 11 rfl rfl (by kernel_rfl) (by kernel_rfl) (by kernel_rfl) (want_y rfl rfl rfl rfl (by rw [hg9_7]; rfl)) (fun w hok => x_fa 0 Try.underlying42 rfl rfl ts_40 (tmP rfl rfl)) ?_
              refine rg_take 12 rfl rfl (by kernel_rfl) (by kernel_rfl) (by kernel_rfl) (want_y rfl rfl rfl rfl (by rw [hg9_7]; rfl)) (fun w hok => x_fa 1 Try.underlying40 rfl rfl ts_3 (tmP rfl rfl)) ?_
              first
               | refine rg_take 13 rfl rfl (by kernel_rfl) (by kernel_rfl) (by kernel_rfl) (want_y rfl rfl rfl rfl (by rw [hg9_7]; rfl)) (fun w hok => x_load Try.underlying3 rfl (tmP rfl rfl) (cellR hok 0 rfl rfl)) ?_
               | refine rg_take 13 rfl rfl (by kernel_rfl) (by kernel_rfl) (by kernel_rfl) (want_y rfl rfl rfl rfl (by rw [hg9_7]; rfl)) (fun w hok => x_load Try.underlying3 rfl (tmP rfl rfl) (cellR hok 0 rfl (getm (by omega)))) ?_
               | refine rg_take 13 rfl rfl (by kernel_rfl) (by kernel_rfl) (by kernel_rfl) (want_y rfl rfl rfl rfl (by rw [hg9_7]; rfl)) (fun w hok => x_load Try.underlying3 rfl (tmP rfl rfl) (cellRs hok 0 rfl (fun _ => rfl) rfl (by omega) rfl)) ?_
               | refine rg_take 13 rfl rfl (by kernel_rfl) (by kernel_rfl) (by kernel_rfl) (want_y rfl rfl rfl rfl (by rw [hg9_7]; rfl)) (fun w hok => x_load Try.underlying3 rfl (tmP rfl rfl) (cellV hok 1 rfl rfl)) ?_
               | refine rg_take 13 rfl rfl (by kernel_rfl) (by kernel_rfl) (by kernel_rfl) (want_y rfl rfl rfl rfl (by rw [hg9_7]; rfl)) (fun w hok => x_load Try.underlying3 rfl (tmP rfl rfl) (cellV hok 1 rfl (getm (by omega)))) ?_
               | refine rg_take 13 rfl rfl (by kernel_rfl) (by kernel_rfl) (by kernel_rfl) (want_y rfl rfl rfl rfl (by rw [hg9_7]; rfl)) (fun w hok => x_load Try.underlying3 rfl (tmP rfl rfl) (cellVs hok 1 rfl (fun _ => rfl) rfl (by omega) rfl)) ?_
               | refine rg_take 13 rfl rfl (by kernel_rfl) (by kernel_rfl) (by kernel_rfl) (want_y rfl rfl rfl rfl (by rw [hg9_7]; rfl)) (fun w hok => x_load Try.underlying3 rfl (tmP rfl rfl) (cellV hok 2 rfl rfl)) ?_
               | refine rg_take 13 rfl rfl (by kernel_rfl) (by kernel_rfl) (by kernel_rfl) (want_y rfl rfl rfl rfl (by rw [hg9_7]; rfl)) (fun w hok => x_load Try.underlying3 rfl (tmP rfl rfl) (cellV hok 2 rfl (getm (by omega)))) ?_
               | refine rg_take 13 rfl rfl (by kernel_rfl) (by kernel_rfl) (by kernel_rfl) (want_y rfl rfl rfl rfl (by rw [hg9_7]; rfl)) (fun w hok => x_load Try.underlying3 rfl (tmP rfl rfl) (cellVs hok 2 rfl (fun _ => rfl) rfl (by omega) rfl)) ?_
              refine rg_take 14 rfl rfl (by kernel_rfl) (by kernel_rfl) (by kernel_rfl) (want_y rfl rfl rfl rfl (by rw [hg9_7]; rfl)) (fun w hok => x_move (tmS rfl rfl)) ?_
              refine rg_take 15 rfl rfl (by kernel_rfl) (by kernel_rfl) (by kernel_rfl) (want_y rfl rfl rfl rfl (by rw [hg9_7]; rfl)) (fun w hok => x_move (tmI rfl rfl)) ?_
              refine rg_take 16 rfl rfl (by kernel_rfl) (by kernel_rfl) (by kernel_rfl) (want_y rfl rfl rfl rfl (by rw [hg9_7]; rfl)) (fun w hok => x_ixs Try.underlying30 ts_40 (tmS rfl rfl) (tmI rfl rfl) (by omega)) ?_
              refine rg_take 17 rfl rfl (by kernel_rfl) (by kernel_rfl) (by kernel_rfl) (want_y rfl rfl rfl rfl (by rw [hg9_7]; rfl)) (fun w hok => x_fa 1 Try.underlying40 rfl rfl ts_3 (tmP rfl rfl)) ?_
              first
               | refine rg_take 18 rfl rfl (by kernel_rfl) (by kernel_rfl) (by kernel_rfl) (want_y rfl rfl rfl rfl (by rw [hg9_7]; rfl)) (fun w hok => x_load Try.underlying3 rfl (tmP rfl rfl) (cellR hok 0 rfl rfl)) ?_
               | refine rg_take 18 rfl rfl (by kernel_rfl) (by kernel_rfl) (by kernel_rfl) (want_y rfl rfl rfl rfl (by rw [hg9_7]; rfl)) (fun w hok => x_load Try.underlying3 rfl (tmP rfl rfl) (cellR hok 0 rfl (getm (by omega)))) ?_
               | refine rg_take 18 rfl rfl (by kernel_rfl) (by kernel_rfl) (by kernel_rfl) (want_y rfl rfl rfl rfl (by rw [hg9_7]; rfl)) (fun w hok => x_load Try.underlying3 rfl (tmP rfl rfl) (cellRs hok 0 rfl (fun _ => rfl) rfl (by omega) rfl)) ?_
               | refine rg_take 18 rfl rfl (by kernel_rfl) (by kernel_rfl) (by kernel_rfl) (want_y rfl rfl rfl rfl (by rw [hg9_7]; rfl)) (fun w hok => x_load Try.underlying3 rfl (tmP rfl rfl) (cellV hok 1 rfl rfl)) ?_
               | refine rg_take 18 rfl rfl (by kernel_rfl) (by kernel_rfl) (by kernel_rfl) (want_y rfl rfl rfl rfl (by rw [hg9_7]; rfl)) (fun w hok => x_load Try.underlying3 rfl (tmP rfl rfl) (cellV hok 1 rfl (getm (by omega)))) ?_
               | refine rg_take 18 rfl rfl (by kernel_rfl) (by kernel_rfl) (by kernel_rfl) (want_y rfl rfl rfl rfl (by rw [hg9_7]; rfl)) (fun w hok => x_load Try.underlying3 rfl (tmP rfl rfl) (cellVs hok 1 rfl (fun _ => rfl) rfl (by omega) rfl)) ?_
               | refine rg_take 18 rfl rfl (by kernel_rfl) (by kernel_rfl) (by kernel_rfl) (want_y rfl rfl rfl rfl (by rw [hg9_7]; rfl)) (fun w hok => x_load Try.underlying3 rfl (tmP rfl rfl) (cellV hok 2 rfl rfl)) ?_
               | refine rg_take 18 rfl rfl (by kernel_rfl) (by kernel_rfl) (by kernel_rfl) (want_y rfl rfl rfl rfl (by rw [hg9_7]; rfl)) (fun w hok => x_load Try.underlying3 rfl (tmP rfl rfl) (cellV hok 2 rfl (getm (by omega)))) ?_
               | refine rg_take 18 rfl rfl (by kernel_rfl) (by kernel_rfl) (by kernel_rfl) (want_y rfl rfl rfl rfl (by rw [hg9_7]; rfl)) (fun w hok => x_load Try.underlying3 rfl (tmP rfl rfl) (cellVs hok 2 rfl (fun _ => rfl) rfl (by omega) rfl)) ?_
              refine rg_take 19 rfl rfl (by kernel_rfl) (by kernel_rfl) (by kernel_rfl) (want_y rfl rfl rfl rfl (by rw [hg9_7]; rfl)) (fun w hok => x_eql (tmI rfl rfl) (tmI rfl rfl)) ?_
              refine rg_take 20 rfl rfl (by kernel_rfl) (by kernel_rfl) (by kernel_rfl) (want_0) (fun w hok => x_pickT (tmB rfl rfl) hg9_7 (tmB rfl rfl)) ?_
              refine rg_take 21 rfl rfl (by kernel_rfl) (by kernel_rfl) (by kernel_rfl) (want_0) (fun w hok => x_move (tmB rfl rfl)) ?_
              refine gs_rg (tm (t := 48) rfl) (fun hg9_21 => ?_) (fun hg9_21 => ?_)
              · have hg9_21' := hg9_21; (try simp only [nrm] at hg9_21'); try (exfalso; first | with_reducible exact absurd hg9_21 Bool.false_ne_true | with_reducible exact absurd hg9_21.symm Bool.false_ne_true | omega | (simp at hg9_21; done))
                all_goals
                 have hb1 : decide ((r.getD (wfT l k).length default).weight = (l.getD k default).weight) = true ↔ Pre (wfT l (k + 1)) r := by
                   rw [hwf1, Pre_snoc]
                   exact ⟨fun h => ⟨hb.1 hg9_1, by omega, hg9_21'.symm, (of_decide_eq_true h).symm⟩, fun h => decide_eq_true h.2.2.2.symm⟩
                 refine rg_take 22 rfl rfl (by kernel_rfl) (by kernel_rfl) (by kernel_rfl) (want_y rfl rfl rfl rfl (by rw [hg9_21]; rfl)) (fun w hok => x_move (tmS rfl rfl)) ?_
                 refine rg_take 23 rfl rfl (by kernel_rfl) (by kernel_rfl) (by kernel_rfl) (want_y rfl rfl rfl rfl (by rw [hg9_21]; rfl)) (fun w hok => x_move (tmI rfl rfl)) ?_
                 refine rg_take 24 rfl rfl (by kernel_rfl) (by kernel_rfl) (by kernel_rfl) (want_y rfl rfl rfl rfl (by rw [hg9_21]; rfl)) (fun w hok => x_ixs Try.underlying28 ts_42 (tmS rfl rfl) (tmI rfl rfl) (by omega)) ?_
                 refine rg_take 25 rfl rfl (by kernel_rfl) (by kernel_rfl) (by kernel_rfl) (want_y rfl rfl rfl rfl (by rw [hg9_21]; rfl)) (fun w hok => x_fa 0 Try.underlying42 rfl rfl ts_40 (tmP rfl rfl)) ?_
                 refine rg_take 26 rfl rfl (by kernel_rfl) (by kernel_rfl) (by kernel_rfl) (want_y rfl rfl rfl rfl (by rw [hg9_21]; rfl)) (fun w hok => x_fa 2 Try.underlying40 rfl rfl ts_3 (tmP rfl rfl)) ?_
                 first
                  | refine rg_take 27 rfl rfl (by kernel_rfl) (by kernel_rfl) (by kernel_rfl) (want_y rfl rfl rfl rfl (by rw [hg9_21]; rfl)) (fun w hok => x_load Try.underlying3 rfl (tmP rfl rfl) (cellR hok 0 rfl rfl)) ?_
                  | refine rg_take 27 rfl rfl (by kernel_rfl) (by kernel_rfl) (by kernel_rfl) (want_y rfl rfl rfl rfl (by rw [hg9_21]; rfl)) (fun w hok => x_load Try.underlying3 rfl (tmP rfl rfl) (cellR hok 0 rfl (getm (by omega)))) ?_
                  | refine rg_take 27 rfl rfl (by kernel_rfl) (by kernel_rfl) (by kernel_rfl) (want_y rfl rfl rfl rfl (by rw [hg9_21]; rfl)) (fun w hok => x_load Try.underlying3 rfl (tmP rfl rfl) (cellRs hok 0 rfl (fun _ => rfl) rfl (by omega) rfl)) ?_
                  | refine rg_take 27 rfl rfl (by kernel_rfl) (by kernel_rfl) (by kernel_rfl) (want_y rfl rfl rfl rfl (by rw [hg9_21]; rfl)) (fun w hok => x_load Try.underlying3 rfl (tmP rfl rfl) (cellV hok 1 rfl rfl)) ?_
                  | refine rg_take 27 rfl rfl (by kernel_rfl) (by kernel_rfl) (by kernel_rfl) (want_y rfl rfl rfl rfl (by rw [hg9_21]; rfl)) (fun w hok => x_load Try.underlying3 rfl (tmP rfl rfl) (cellV hok 1 rfl (getm (by omega)))) ?_
                  | refine rg_take 27 rfl rfl (by kernel_rfl) (by kernel_rfl) (by kernel_rfl) (want_y rfl rfl rfl rfl (by rw [hg9_21]; rfl)) (fun w hok => x_load Try.underlying3 rfl (tmP rfl rfl) (cellVs hok 1 rfl (fun _ => rfl) rfl (by omega) rfl)) ?_
                  | refine rg_take 27 rfl rfl (by kernel_rfl) (by kernel_rfl) (by kernel_rfl) (want_y rfl rfl rfl rfl (by rw [hg9_21]; rfl)) (fun w hok => x_load Try.underlying3 rfl (tmP rfl rfl) (cellV hok 2 rfl rfl)) ?_
                  | refine rg_take 27 rfl rfl (by kernel_rfl) (by kernel_rfl) (by kernel_rfl) (want_y rfl rfl rfl rfl (by rw [hg9_21]; rfl)) (fun w hok => x_load Try.underlying3 rfl (tmP rfl rfl) (cellV hok 2 rfl (getm (by omega)))) ?_
                  | refine rg_take 27 rfl rfl (by kernel_rfl) (by kernel_rfl) (by kernel_rfl) (want_y rfl rfl rfl rfl (by rw [hg9_21]; rfl)) (fun w hok => x_load Try.underlying3 rfl (tmP rfl rfl) (cellVs hok 2 rfl (fun _ => rfl) rfl (by omega) rfl)) ?_
                 refine rg_take 28 rfl rfl (by kernel_rfl) (by kernel_rfl) (by kernel_rfl) (want_y rfl rfl rfl rfl (by rw [hg9_21]; rfl)) (fun w hok => x_move (tmS rfl rfl)) ?_
                 refine rg_take 29 rfl rfl (by kernel_rfl) (by kernel_rfl) (by kernel_rfl) (want_y rfl rfl rfl rfl (by rw [hg9_21]; rfl)) (fun w hok => x_move (tmI rfl rfl)) ?_
                 refine rg_take 30 rfl rfl (by kernel_rfl) (by kernel_rfl) (by kernel_rfl) (want_y rfl rfl rfl rfl (by rw [hg9_21]; rfl)) (fun w hok => x_ixs Try.underlying30 ts_40 (tmS rfl rfl) (tmI rfl rfl) (by omega)) ?_
                 refine rg_take 31 rfl rfl (by kernel_rfl) (by kernel_rfl) (by kernel_rfl) (want_y rfl rfl rfl rfl (by rw [hg9_21]; rfl)) (fun w hok => x_fa 2 Try.underlying40 rfl rfl ts_3 (tmP rfl rfl)) ?_
                 first
                  | refine rg_take 32 rfl rfl (by kernel_rfl) (by kernel_rfl) (by kernel_rfl) (want_y rfl rfl rfl rfl (by rw [hg9_21]; rfl)) (fun w hok => x_load Try.underlying3 rfl (tmP rfl rfl) (cellR hok 0 rfl rfl)) ?_
                  | refine rg_take 32 rfl rfl (by kernel_rfl) (by kernel_rfl) (by kernel_rfl) (want_y rfl rfl rfl rfl (by rw [hg9_21]; rfl)) (fun w hok => x_load Try.underlying3 rfl (tmP rfl rfl) (cellR hok 0 rfl (getm (by omega)))) ?_
                  | refine rg_take 32 rfl rfl (by kernel_rfl) (by kernel_rfl) (by kernel_rfl) (want_y rfl rfl rfl rfl (by rw [hg9_21]; rfl)) (fun w hok => x_load Try.underlying3 rfl (tmP rfl rfl) (cellRs hok 0 rfl (fun _ => rfl) rfl (by omega) rfl)) ?_
                  | refine rg_take 32 rfl rfl (by kernel_rfl) (by kernel_rfl) (by kernel_rfl) (want_y rfl rfl rfl rfl (by rw [hg9_21]; rfl)) (fun w hok => x_load Try.underlying3 rfl (tmP rfl rfl) (cellV hok 1 rfl rfl)) ?_
                  | refine rg_take 32 rfl rfl (by kernel_rfl) (by kernel_rfl) (by kernel_rfl) (want_y rfl rfl rfl rfl (by rw [hg9_21]; rfl)) (fun w hok => x_load Try.underlying3 rfl (tmP rfl rfl) (cellV hok 1 rfl (getm (by omega)))) ?_
                  | refine rg_take 32 rfl rfl (by kernel_rfl) (by kernel_rfl) (by kernel_rfl) (want_y rfl rfl rfl rfl (by rw [hg9_21]; rfl)) (fun w hok => x_load Try.underlying3 rfl (tmP rfl rfl) (cellVs hok 1 rfl (fun _ => rfl) rfl (by omega) rfl)) ?_
                  | refine rg_take 32 rfl rfl (by kernel_rfl) (by kernel_rfl) (by kernel_rfl) (want_y rfl rfl rfl rfl (by rw [hg9_21]; rfl)) (fun w hok => x_load Try.underlying3 rfl (tmP rfl rfl) (cellV hok 2 rfl rfl)) ?_
                  | refine rg_take 32 rfl rfl (by kernel_rfl) (by kernel_rfl) (by kernel_rfl) (want_y rfl rfl rfl rfl (by rw [hg9_21]; rfl)) (fun w hok => x_load Try.underlying3 rfl (tmP rfl rfl) (cellV hok 2 rfl (getm (by omega)))) ?_
                  | refine rg_take 32 rfl rfl (by kernel_rfl) (by kernel_rfl) (by kernel_rfl) (want_y rfl rfl rfl rfl (by rw [hg9_21]; rfl)) (fun w hok => x_load Try.underlying3 rfl (tmP rfl rfl) (cellVs hok 2 rfl (fun _ => rfl) rfl (by omega) rfl)) ?_
                 refine rg_take 33 rfl rfl (by kernel_rfl) (by kernel_rfl) (by kernel_rfl) (want_y rfl rfl rfl rfl (by rw [hg9_21]; rfl)) (fun w hok => x_eql (tmI rfl rfl) (tmI rfl rfl)) ?_
                 refine rg_take 34 rfl rfl (by kernel_rfl) (by kernel_rfl) (by kernel_rfl) (want_0) (fun w hok => x_pickT (tmB rfl rfl) hg9_21 (tmB rfl rfl)) ?_
                 refine rg_take 35 rfl rfl (by kernel_rfl) (by kernel_rfl) (by kernel_rfl) (want_0) (fun w hok => x_assign (tmB rfl rfl)) ?_
                 refine rg_done (oks_drop hS 0 rfl) (by kernel_rfl) ?_
                 refine then_n (hK13 _ _ ?_); clear hK13 K13
                 refine wp_seq_k ?_; intro K14 hK14
                 refine wlit ?_
                 refine wl_v (x_move (tmS rfl rfl)) ?_
                 refine wl_v (x_move (tmS rfl rfl)) ?_
                 refine wl_v (x_move (tmI rfl rfl)) ?_
                 refine wl_v (x_ixs Try.underlying30 ts_40 (tmS rfl rfl) (tmI rfl rfl) (by omega)) ?_
                 first
                  | refine wl_v (x_loadA Try.underlying40 rfl (by exact ts_40) (tmP rfl rfl) (rangeRs hS.ok 0 rfl (fun _ => rfl) (by omega))) ?_
                  | refine wl_v (x_loadA Try.underlying40 rfl (by exact ts_40) (tmP rfl rfl) (rangeVs hS.ok 1 rfl (fun _ => rfl) (by omega))) ?_
                  | refine wl_v (x_loadA Try.underlying40 rfl (by exact ts_40) (tmP rfl rfl) (rangeVs hS.ok 2 rfl (fun _ => rfl) (by omega))) ?_
                 refine wl_v (x_build (bc_takeL (tmA rfl rfl) <| bc_skip (.int .i64 0) <| bc_nil) (by kernel_rfl)) ?_
                 refine wl_e rfl ?_; intro K hK
                 refine ow_build hS Try.underlying28 tz_42 (bc_takeL (tmA rfl rfl) <| bc_nil) rfl rfl (by kernel_rfl) ?_
                 clear hS; intro g10_6 w hg10_6 hS
                 refine hK _ _ ?_; clear hK K
                 refine wl_e rfl ?_; intro K hK
                 (refine ow_append hS 1 0 rfl rfl Try.underlying28 tz_42 rfl (tmS rfl rfl) (tmS rfl rfl) rfl ⟨by decide, by decide, rfl⟩ (by simp only [maxLen]; omega) (by omega) ?_; clear hS; intro g10_7 cg10_7 w hS)
                 refine hK _ _ ?_; clear hK K
                 refine wl_v (x_assign (tmS rfl rfl)) ?_
                 refine wl_nil ?_
                 refine then_n (hK14 _ _ ?_); clear hK14 K14
                 refine wlit ?_
                 refine wl_v (x_move (tmI rfl rfl)) ?_
                 refine wl_v (x_move (tmS rfl rfl)) ?_
                 refine wl_v (x_move (tmI rfl rfl)) ?_
                 refine wl_v (x_ixs Try.underlying30 ts_40 (tmS rfl rfl) (tmI rfl rfl) (by omega)) ?_
                 refine wl_v (x_fa 2 Try.underlying40 rfl rfl ts_3 (tmP rfl rfl)) ?_
                 first
                  | refine wl_v (x_load Try.underlying3 rfl (tmP rfl rfl) (cellB hS.ok 0 rfl rfl)) ?_
                  | refine wl_v (x_load Try.underlying3 rfl (tmP rfl rfl) (cellR hS.ok 1 rfl rfl)) ?_
                  | refine wl_v (x_load Try.underlying3 rfl (tmP rfl rfl) (cellR hS.ok 1 rfl (getm (by omega)))) ?_
                  | refine wl_v (x_load Try.underlying3 rfl (tmP rfl rfl) (cellRs hS.ok 1 rfl (fun _ => rfl) rfl (by omega) rfl)) ?_
                  | refine wl_v (x_load Try.underlying3 rfl (tmP rfl rfl) (cellV hS.ok 2 rfl rfl)) ?_
                  | refine wl_v (x_load Try.underlying3 rfl (tmP rfl rfl) (cellV hS.ok 2 rfl (getm (by omega)))) ?_
                  | refine wl_v (x_load Try.underlying3 rfl (tmP rfl rfl) (cellVs hS.ok 2 rfl (fun _ => rfl) rfl (by omega) rfl)) ?_
                  | refine wl_v (x_load Try.underlying3 rfl (tmP rfl rfl) (cellV hS.ok 3 rfl rfl)) ?_
                  | refine wl_v (x_load Try.underlying3 rfl (tmP rfl rfl) (cellV hS.ok 3 rfl (getm (by omega)))) ?_
                  | refine wl_v (x_load Try.underlying3 rfl (tmP rfl rfl) (cellVs hS.ok 3 rfl (fun _ => rfl) rfl (by omega) rfl)) ?_
                 first
                  | refine wl_v (x_addN (tmI rfl rfl) (tmI rfl rfl) (fit_i64 (by omega))) ?_
                  | refine wl_v (x_addI (tmI rfl rfl) (tmI rfl rfl) (IntWalk.i64_in _ (by omega))) ?_
                  | refine wl_v (x_add (tmI rfl rfl) (tmI rfl rfl)) ?_
                 refine wl_v (x_assign (tmI rfl rfl)) ?_
                 refine wl_nil ?_
                 refine inb_n ?_
                 refine then_n (hK9 _ _ ?_); clear hK9 K9
                 refine wlit ?_
                 refine wl_v (x_move (tmI rfl rfl)) ?_
                 first
                  | refine wl_v (x_addN (tmI rfl rfl) (ev_cN 1) (fit_i64 (by omega))) ?_
                  | refine wl_v (x_addI (tmI rfl rfl) (ev_cN 1) (IntWalk.i64_in _ (by omega))) ?_
                  | refine wl_v (x_add (tmI rfl rfl) (ev_cN 1)) ?_
                 refine wl_v (x_assign (tmI rfl rfl)) ?_
                 refine wl_nil ?_
                 first
                  | exact then_n ⟨_, _, rfl, (by show _ < _; omega), (by repeat (first | exact agree_self | exact agree_refl | refine agree_upd rfl ?_ | refine agree_mix rfl ?_)), k + 1, _, _, _, _, rfl, (by first | rfl | go_num | exact congrArg (Value.int _) (by first | omega | (simp; done) | (simp; omega))), (by first | rfl | go_num | exact congrArg (Value.int _) (by first | omega | (simp; done) | (simp; omega))), (by first | rfl | go_num | exact congrArg (Value.int _) (by first | omega | (simp; done) | (simp; omega))), (by first | rfl | (rw [hsz]; done) | (rw [hsz]; rfl) | (rw [hsz]; go_num)), (by rw [hwf1]; exact hS), (by omega), (by first | rfl | exact hq1), (by first | exact hb1 | (simp [Pre, wfT])), (by first | exact hsk1 | simp [sumF])⟩
                  | exact then_n ⟨_, _, rfl, (by show _ < _; omega), (by repeat (first | exact agree_self | exact agree_refl | refine agree_upd rfl ?_ | refine agree_mix rfl ?_)), k + 1, _, _, _, _, rfl, (by first | rfl | go_num | exact congrArg (Value.int _) (by first | omega | (simp; done) | (simp; omega))), (by first | rfl | go_num | exact congrArg (Value.int _) (by first | omega | (simp; done) | (simp; omega))), (by first | rfl | go_num | exact congrArg (Value.int _) (by first | omega | (simp; done) | (simp; omega))), (by first | rfl | (rw [hsz]; done) | (rw [hsz]; rfl) | (rw [hsz]; go_num)), (by rw [hwf1, shF_snoc, flat_snoc]; exact hS.pick [1, 2, 3] rfl rfl), (by omega), (by first | rfl | exact hq1), (by first | exact hb1 | (simp [Pre, wfT])), (by first | exact hsk1 | simp [sumF])⟩
              have hg9_21' := hg9_21; (try simp only [nrm] at hg9_21'); try (exfalso; first | with_reducible exact absurd hg9_21 Bool.false_ne_true | with_reducible exact absurd hg9_21.symm Bool.false_ne_true | omega | (simp at hg9_21; done))
              all_goals
               have hb1 : false = true ↔ Pre (wfT l (k + 1)) r := by
                 rw [hwf1, Pre_snoc]
                 exact ⟨(fun h => by cases h), fun h => absurd h.2.2.1.symm hg9_21'⟩
               refine rg_skip 22 rfl rfl (by kernel_rfl) (by kernel_rfl) (by kernel_rfl) (want_n rfl rfl rfl rfl (by rw [hg9_21]; rfl)) ?_
               refine rg_skip 23 rfl rfl (by kernel_rfl) (by kernel_rfl) (by kernel_rfl) (want_n rfl rfl rfl rfl (by rw [hg9_21]; rfl)) ?_
               refine rg_skip 24 rfl rfl (by kernel_rfl) (by kernel_rfl) (by kernel_rfl) (want_n rfl rfl rfl rfl (by rw [hg9_21]; rfl)) ?_
               refine rg_skip 25 rfl rfl (by kernel_rfl) (by kernel_rfl) (by kernel_rfl) (want_n rfl rfl rfl rfl (by rw [hg9_21]; rfl)) ?_
               refine rg_skip 26 rfl rfl (by kernel_rfl) (by kernel_rfl) (by kernel_rfl) (want_n rfl rfl rfl rfl (by rw [hg9_21]; rfl)) ?_
               refine rg_skip 27 rfl rfl (by kernel_rfl) (by kernel_rfl) (by kernel_rfl) (want_n rfl rfl rfl rfl (by rw [hg9_21]; rfl)) ?_
               refine rg_skip 28 rfl rfl (by kernel_rfl) (by kernel_rfl) (by kernel_rfl) (want_n rfl rfl rfl rfl (by rw [hg9_21]; rfl)) ?_
               refine rg_skip 29 rfl rfl (by kernel_rfl) (by kernel_rfl) (by kernel_rfl) (want_n rfl rfl rfl rfl (by rw [hg9_21]; rfl)) ?_
               refine rg_skip 30 rfl rfl (by kernel_rfl) (by kernel_rfl) (by kernel_rfl) (want_n rfl rfl rfl rfl (by rw [hg9_21]; rfl)) ?_
               refine rg_skip 31 rfl rfl (by kernel_rfl) (by kernel_rfl) (by kernel_rfl) (want_n rfl rfl rfl rfl (by rw [hg9_21]; rfl)) ?_
               refine rg_skip 32 rfl rfl (by kernel_rfl) (by kernel_rfl) (by kernel_rfl) (want_n rfl rfl rfl rfl (by rw [hg9_21]; rfl)) ?_
               refine rg_skip 33 rfl rfl (by kernel_rfl) (by kernel_rfl) (by kernel_rfl) (want_n rfl rfl rfl rfl (by rw [hg9_21]; rfl)) ?_
               refine rg_take 34 rfl rfl (by kernel_rfl) (by kernel_rfl) (by kernel_rfl) (want_0) (fun w hok => x_pickF (tmB rfl rfl) hg9_21 ev_c) ?_
               refine rg_take 35 rfl rfl (by kernel_rfl) (by kernel_rfl) (by kernel_rfl) (want_0) (fun w hok => x_assign (tmB rfl rfl)) ?_
               refine rg_done (oks_drop hS 0 rfl) (by kernel_rfl) ?_
               refine then_n (hK13 _ _ ?_); clear hK13 K13
               refine wp_seq_k ?_; intro K15 hK15
               refine wlit ?_
               refine wl_v (x_move (tmS rfl rfl)) ?_
               refine wl_v (x_move (tmS rfl rfl)) ?_
               refine wl_v (x_move (tmI rfl rfl)) ?_
               refine wl_v (x_ixs Try.underlying30 ts_40 (tmS rfl rfl) (tmI rfl rfl) (by omega)) ?_
               first
                | refine wl_v (x_loadA Try.underlying40 rfl (by exact ts_40) (tmP rfl rfl) (rangeRs hS.ok 0 rfl (fun _ => rfl) (by omega))) ?_
                | refine wl_v (x_loadA Try.underlying40 rfl (by exact ts_40) (tmP rfl rfl) (rangeVs hS.ok 1 rfl (fun _ => rfl) (by omega))) ?_
                | refine wl_v (x_loadA Try.underlying40 rfl (by exact ts_40) (tmP rfl rfl) (rangeVs hS.ok 2 rfl (fun _ => rfl) (by omega))) ?_
               refine wl_v (x_build (bc_takeL (tmA rfl rfl) <| bc_skip (.int .i64 0) <| bc_nil) (by kernel_rfl)) ?_
               refine wl_e rfl ?_; intro K hK
               refine ow_build hS Try.underlying28 tz_42 (bc_takeL (tmA rfl rfl) <| bc_nil) rfl rfl (by kernel_rfl) ?_
               clear hS; intro g10_6 w hg10_6 hS
               refine hK _ _ ?_; clear hK K
               refine wl_e rfl ?_; intro K hK
               (refine ow_append hS 1 0 rfl rfl Try.underlying28 tz_42 rfl (tmS rfl rfl) (tmS rfl rfl) rfl ⟨by decide, by decide, rfl⟩ (by simp only [maxLen]; omega) (by omega) ?_; clear hS; intro g10_7 cg10_7 w hS)
               refine hK _ _ ?_; clear hK K
               refine wl_v (x_assign (tmS rfl rfl)) ?_
               refine wl_nil ?_
               refine then_n (hK15 _ _ ?_); clear hK15 K15
               refine wlit ?_
               refine wl_v (x_move (tmI rfl rfl)) ?_
               refine wl_v (x_move (tmS rfl rfl)) ?_
               refine wl_v (x_move (tmI rfl rfl)) ?_
               refine wl_v (x_ixs Try.underlying30 ts_40 (tmS rfl rfl) (tmI rfl rfl) (by omega)) ?_
               refine wl_v (x_fa 2 Try.underlying40 rfl rfl ts_3 (tmP rfl rfl)) ?_
               first
                | refine wl_v (x_load Try.underlying3 rfl (tmP rfl rfl) (cellB hS.ok 0 rfl rfl)) ?_
                | refine wl_v (x_load Try.underlying3 rfl (tmP rfl rfl) (cellR hS.ok 1 rfl rfl)) ?_
                | refine wl_v (x_load Try.underlying3 rfl (tmP rfl rfl) (cellR hS.ok 1 rfl (getm (by omega)))) ?_
                | refine wl_v (x_load Try.underlying3 rfl (tmP rfl rfl) (cellRs hS.ok 1 rfl (fun _ => rfl) rfl (by omega) rfl)) ?_
                | refine wl_v (x_load Try.underlying3 rfl (tmP rfl rfl) (cellV hS.ok 2 rfl rfl)) ?_
                | refine wl_v (x_load Try.underlying3 rfl (tmP rfl rfl) (cellV hS.ok 2 rfl (getm (by omega)))) ?_
                | refine wl_v (x_load Try.underlying3 rfl (tmP rfl rfl) (cellVs hS.ok 2 rfl (fun _ => rfl) rfl (by omega) rfl)) ?_
                | refine wl_v (x_load Try.underlying3 rfl (tmP rfl rfl) (cellV hS.ok 3 rfl rfl)) ?_
                | refine wl_v (x_load Try.underlying3 rfl (tmP rfl rfl) (cellV hS.ok 3 rfl (getm (by omega)))) ?_
                | refine wl_v (x_load Try.underlying3 rfl (tmP rfl rfl) (cellVs hS.ok 3 rfl (fun _ => rfl) rfl (by omega) rfl)) ?_
               first
                | refine wl_v (x_addN (tmI rfl rfl) (tmI rfl rfl) (fit_i64 (by omega))) ?_
                | refine wl_v (x_addI (tmI rfl rfl) (tmI rfl rfl) (IntWalk.i64_in _ (by omega))) ?_
                | refine wl_v (x_add (tmI rfl rfl) (tmI rfl rfl)) ?_
               refine wl_v (x_assign (tmI rfl rfl)) ?_
               refine wl_nil ?_
               refine inb_n ?_
               refine then_n (hK9 _ _ ?_); clear hK9 K9
               refine wlit ?_
               refine wl_v (x_move (tmI rfl rfl)) ?_
               first
                | refine wl_v (x_addN (tmI rfl rfl) (ev_cN 1) (fit_i64 (by omega))) ?_
                | refine wl_v (x_addI (tmI rfl rfl) (ev_cN 1) (IntWalk.i64_in _ (by omega))) ?_
                | refine wl_v (x_add (tmI rfl rfl) (ev_cN 1)) ?_
               refine wl_v (x_assign (tmI rfl rfl)) ?_
               refine wl_nil ?_
               first
                | exact then_n ⟨_, _, rfl, (by show _ < _; omega), (by repeat (first | exact agree_self | exact agree_refl | refine agree_upd rfl ?_ | refine agree_mix rfl ?_)), k + 1, _, _, _, _, rfl, (by first | rfl | go_num | exact congrArg (Value.int _) (by first | omega | (simp; done) | (simp; omega))), (by first | rfl | go_num | exact congrArg (Value.int _) (by first | omega | (simp; done) | (simp; omega))), (by first | rfl | go_num | exact congrArg (Value.int _) (by first | omega | (simp; done) | (simp; omega))), (by first | rfl | (rw [hsz]; done) | (rw [hsz]; rfl) | (rw [hsz]; go_num)), (by rw [hwf1]; exact hS), (by omega), (by first | rfl | exact hq1), (by first | exact hb1 | (simp [Pre, wfT])), (by first | exact hsk1 | simp [sumF])⟩
                | exact then_n ⟨_, _, rfl, (by show _ < _; omega), (by repeat (first | exact agree_self | exact agree_refl | refine agree_upd rfl ?_ | refine agree_mix rfl ?_)), k + 1, _, _, _, _, rfl, (by first | rfl | go_num | exact congrArg (Value.int _) (by first | omega | (simp; done) | (simp; omega))), (by first | rfl | go_num | exact congrArg (Value.int _) (by first | omega | (simp; done) | (simp; omega))), (by first | rfl | go_num | exact congrArg (Value.int _) (by first | omega | (simp; done) | (simp; omega))), (by first | rfl | (rw [hsz]; done) | (rw [hsz]; rfl) | (rw [hsz]; go_num)), (by rw [hwf1, shF_snoc, flat_snoc]; exact hS.pick [1, 2, 3] rfl rfl), (by omega), (by first | rfl | exact hq1), (by first | exact hb1 | (simp [Pre, wfT])), (by first | exact hsk1 | simp [sumF])⟩
           have hg9_7' := hg9_7; (try simp only [nrm] at hg9_7'); try (exfalso; first | with_reducible exact absurd hg9_7 Bool.false_ne_true | with_reducible exact absurd hg9_7.symm Bool.false_ne_true | omega | (simp at hg9_7; done))
           all_goals
            have hb1 : false = true ↔ Pre (wfT l (k + 1)) r := by
              rw [hwf1, Pre_snoc]
              exact ⟨(fun h => by cases h), fun h => by have := h.2.1; omega⟩
            refine rg_skip 8 rfl rfl (by kernel_rfl) (by kernel_rfl) (by kernel_rfl) (want_n rfl rfl rfl rfl (by rw [hg9_7]; rfl)) ?_
            refine rg_skip 9 rfl rfl (by kernel_rfl) (by kernel_rfl) (by kernel_rfl) (want_n rfl rfl rfl rfl (by rw [hg9_7]; rfl)) ?_
            refine rg_skip 10 rfl rfl (by kernel_rfl) (by kernel_rfl) (by kernel_rfl) (want_n rfl rfl rfl rfl (by rw [hg9_7]; rfl)) ?_
            refine rg_skip 11 rfl rfl (by kernel_rfl) (by kernel_rfl) (by kernel_rfl) (want_n rfl rfl rfl rfl (by rw [hg9_7]; rfl)) ?_
            refine rg_skip 12 rfl rfl (by kernel_rfl) (by kernel_rfl) (by kernel_rfl) (want_n rfl rfl rfl rfl (by rw [hg9_7]; rfl)) ?_
            refine rg_skip 13 rfl rfl (by kernel_rfl) (by kernel_rfl) (by kernel_rfl) (want_n rfl rfl rfl rfl (by rw [hg9_7]; rfl)) ?_
            refine rg_skip 14 rfl rfl (by kernel_rfl) (by kernel_rfl) (by kernel_rfl) (want_n rfl rfl rfl rfl (by rw [hg9_7]; rfl)) ?_
            refine rg_skip 15 rfl rfl (by kernel_rfl) (by kernel_rfl) (by kernel_rfl) (want_n rfl rfl rfl rfl (by rw [hg9_7]; rfl)) ?_
            refine rg_skip 16 rfl rfl (by kernel_rfl) (by kernel_rfl) (by kernel_rfl) (want_n rfl rfl rfl rfl (by rw [hg9_7]; rfl)) ?_
            refine rg_skip 17 rfl rfl (by kernel_rfl) (by kernel_rfl) (by kernel_rfl) (want_n rfl rfl rfl rfl (by rw [hg9_7]; rfl)) ?_
            refine rg_skip 18 rfl rfl (by kernel_rfl) (by kernel_rfl) (by kernel_rfl) (want_n rfl rfl rfl rfl (by rw [hg9_7]; rfl)) ?_
            refine rg_skip 19 rfl rfl (by kernel_rfl) (by kernel_rfl) (by kernel_rfl) (want_n rfl rfl rfl rfl (by rw [hg9_7]; rfl)) ?_
            refine rg_take 20 rfl rfl (by kernel_rfl) (by kernel_rfl) (by kernel_rfl) (want_0) (fun w hok => x_pickF (tmB rfl rfl) hg9_7 ev_c) ?_
            refine rg_take 21 rfl rfl (by kernel_rfl) (by kernel_rfl) (by kernel_rfl) (want_0) (fun w hok => x_move (tmB rfl rfl)) ?_
            refine rg_skip 22 rfl rfl (by kernel_rfl) (by kernel_rfl) (by kernel_rfl) (want_n rfl rfl rfl rfl rfl) ?_
            refine rg_skip 23 rfl rfl (by kernel_rfl) (by kernel_rfl) (by kernel_rfl) (want_n rfl rfl rfl rfl rfl) ?_
            refine rg_skip 24 rfl rfl (by kernel_rfl) (by kernel_rfl) (by kernel_rfl) (want_n rfl rfl rfl rfl rfl) ?_
            refine rg_skip 25 rfl rfl (by kernel_rfl) (by kernel_rfl) (by kernel_rfl) (want_n rfl rfl rfl rfl rfl) ?_
            refine rg_skip 26 rfl rfl (by kernel_rfl) (by kernel_rfl) (by kernel_rfl) (want_n rfl rfl rfl rfl rfl) ?_
            refine rg_skip 27 rfl rfl (by kernel_rfl) (by kernel_rfl) (by kernel_rfl) (want_n rfl rfl rfl rfl rfl) ?_
            refine rg_skip 28 rfl rfl (by kernel_rfl) (by kernel_rfl) (by kernel_rfl) (want_n rfl rfl rfl rfl rfl) ?_
            refine rg_skip 29 rfl rfl (by kernel_rfl) (by kernel_rfl) (by kernel_rfl) (want_n rfl rfl rfl rfl rfl) ?_
            refine rg_skip 30 rfl rfl (by kernel_rfl) (by kernel_rfl) (by kernel_rfl) (want_n rfl rfl rfl rfl rfl) ?_
            refine rg_skip 31 rfl rfl (by kernel_rfl) (by kernel_rfl) (by kernel_rfl) (want_n rfl rfl rfl rfl rfl) ?_
            refine rg_skip 32 rfl rfl (by kernel_rfl) (by kernel_rfl) (by kernel_rfl) (want_n rfl rfl rfl rfl rfl) ?_
            refine rg_skip 33 rfl rfl (by kernel_rfl) (by kernel_rfl) (by kernel_rfl) (want_n rfl rfl rfl rfl rfl) ?_
            refine rg_take 34 rfl rfl (by kernel_rfl) (by kernel_rfl) (by kernel_rfl) (want_0) (fun w hok => x_pickF (tmB rfl rfl) rfl ev_c) ?_
            refine rg_take 35 rfl rfl (by kernel_rfl) (by kernel_rfl) (by kernel_rfl) (want_0) (fun w hok => x_assign (tmB rfl rfl)) ?_
            refine rg_done (oks_drop hS 0 rfl) (by kernel_rfl) ?_
            refine then_n (hK13 _ _ ?_); clear hK13 K13
            refine wp_seq_k ?_; intro K16 hK16
            refine wlit ?_
            refine wl_v (x_move (tmS rfl rfl)) ?_
            refine wl_v (x_move (tmS rfl rfl)) ?_
            refine wl_v (x_move (tmI rfl rfl)) ?_
            refine wl_v (x_ixs Try.underlying30 ts_40 (tmS rfl rfl) (tmI rfl rfl) (by omega)) ?_
            first
             | refine wl_v (x_loadA Try.underlying40 rfl (by exact ts_40) (tmP rfl rfl) (rangeRs hS.ok 0 rfl (fun _ => rfl) (by omega))) ?_
             | refine wl_v (x_loadA Try.underlying40 rfl (by exact ts_40) (tmP rfl rfl) (rangeVs hS.ok 1 rfl (fun _ => rfl) (by omega))) ?_
             | refine wl_v (x_loadA Try.underlying40 rfl (by exact ts_40) (tmP rfl rfl) (rangeVs hS.ok 2 rfl (fun _ => rfl) (by omega))) ?_
            refine wl_v (x_build (bc_takeL (tmA rfl rfl) <| bc_skip (.int .i64 0) <| bc_nil) (by kernel_rfl)) ?_
            refine wl_e rfl ?_; intro K hK
            refine ow_build hS Try.underlying28 tz_42 (bc_takeL (tmA rfl rfl) <| bc_nil) rfl rfl (by kernel_rfl) ?_
            clear hS; intro g10_6 w hg10_6 hS
            refine hK _ _ ?_; clear hK K
            refine wl_e rfl ?_; intro K hK
            (refine ow_append hS 1 0 rfl rfl Try.underlying28 tz_42 rfl (tmS rfl rfl) (tmS rfl rfl) rfl ⟨by decide, by decide, rfl⟩ (by simp only [maxLen]; omega) (by omega) ?_; clear hS; intro g10_7 cg10_7 w hS)
            refine hK _ _ ?_; clear hK K
            refine wl_v (x_assign (tmS rfl rfl)) ?_
            refine wl_nil ?_
            refine then_n (hK16 _ _ ?_); clear hK16 K16
            refine wlit ?_
            refine wl_v (x_move (tmI rfl rfl)) ?_
            refine wl_v (x_move (tmS rfl rfl)) ?_
            refine wl_v (x_move (tmI rfl rfl)) ?_
            refine wl_v (x_ixs Try.underlying30 ts_40 (tmS rfl rfl) (tmI rfl rfl) (by omega)) ?_
            refine wl_v (x_fa 2 Try.underlying40 rfl rfl ts_3 (tmP rfl rfl)) ?_
            first
             | refine wl_v (x_load Try.underlying3 rfl (tmP rfl rfl) (cellB hS.ok 0 rfl rfl)) ?_
             | refine wl_v (x_load Try.underlying3 rfl (tmP rfl rfl) (cellR hS.ok 1 rfl rfl)) ?_
             | refine wl_v (x_load Try.underlying3 rfl (tmP rfl rfl) (cellR hS.ok 1 rfl (getm (by omega)))) ?_
             | refine wl_v (x_load Try.underlying3 rfl (tmP rfl rfl) (cellRs hS.ok 1 rfl (fun _ => rfl) rfl (by omega) rfl)) ?_
             | refine wl_v (x_load Try.underlying3 rfl (tmP rfl rfl) (cellV hS.ok 2 rfl rfl)) ?_
             | refine wl_v (x_load Try.underlying3 rfl (tmP rfl rfl) (cellV hS.ok 2 rfl (getm (by omega)))) ?_
             | refine wl_v (x_load Try.underlying3 rfl (tmP rfl rfl) (cellVs hS.ok 2 rfl (fun _ => rfl) rfl (by omega) rfl)) ?_
             | refine wl_v (x_load Try.underlying3 rfl (tmP rfl rfl) (cellV hS.ok 3 rfl rfl)) ?_
             | refine wl_v (x_load Try.underlying3 rfl (tmP rfl rfl) (cellV hS.ok 3 rfl (getm (by omega)))) ?_
             | refine wl_v (x_load Try.underlying3 rfl (tmP rfl rfl) (cellVs hS.ok 3 rfl (fun _ => rfl) rfl (by omega) rfl)) ?_
            first
             | refine wl_v (x_addN (tmI rfl rfl) (tmI rfl rfl) (fit_i64 (by omega))) ?_
             | refine wl_v (x_addI (tmI rfl rfl) (tmI rfl rfl) (IntWalk.i64_in _ (by omega))) ?_
             | refine wl_v (x_add (tmI rfl rfl) (tmI rfl rfl)) ?_
            refine wl_v (x_assign (tmI rfl rfl)) ?_
            refine wl_nil ?_
            refine inb_n ?_
            refine then_n (hK9 _ _ ?_); clear hK9 K9
            refine wlit ?_
            refine wl_v (x_move (tmI rfl rfl)) ?_
            first
             | refine wl_v (x_addN (tmI rfl rfl) (ev_cN 1) (fit_i64 (by omega))) ?_
             | refine wl_v (x_addI (tmI rfl rfl) (ev_cN 1) (IntWalk.i64_in _ (by omega))) ?_
             | refine wl_v (x_add (tmI rfl rfl) (ev_cN 1)) ?_
            refine wl_v (x_assign (tmI rfl rfl)) ?_
            refine wl_nil ?_
            first
             | exact then_n ⟨_, _, rfl, (by show _ < _; omega), (by repeat (first | exact agree_self | exact agree_refl | refine agree_upd rfl ?_ | refine agree_mix rfl ?_)), k + 1, _, _, _, _, rfl, (by first | rfl | go_num | exact congrArg (Value.int _) (by first | omega | (simp; done) | (simp; omega))), (by first | rfl | go_num | exact congrArg (Value.int _) (by first | omega | (simp; done) | (simp; omega))), (by first | rfl | go_num | exact congrArg (Value.int _) (by first | omega | (simp; done) | (simp; omega))), (by first | rfl | (rw [hsz]; done) | (rw [hsz]; rfl) | (rw [hsz]; go_num)), (by rw [hwf1]; exact hS), (by omega), (by first | rfl | exact hq1), (by first | exact hb1 | (simp [Pre, wfT])), (by first | exact hsk1 | simp [sumF])⟩
             | exact then_n ⟨_, _, rfl, (by show _ < _; omega), (by repeat (first | exact agree_self | exact agree_refl | refine agree_upd rfl ?_ | refine agree_mix rfl ?_)), k + 1, _, _, _, _, rfl, (by first | rfl | go_num | exact congrArg (Value.int _) (by first | omega | (simp; done) | (simp; omega))), (by first | rfl | go_num | exact congrArg (Value.int _) (by first | omega | (simp; done) | (simp; omega))), (by first | rfl | go_num | exact congrArg (Value.int _) (by first | omega | (simp; done) | (simp; omega))), (by first | rfl | (rw [hsz]; done) | (rw [hsz]; rfl) | (rw [hsz]; go_num)), (by rw [hwf1, shF_snoc, flat_snoc]; exact hS.pick [1, 2, 3] rfl rfl), (by omega), (by first | rfl | exact hq1), (by first | exact hb1 | (simp [Pre, wfT])), (by first | exact hsk1 | simp [sumF])⟩
        have hg9_1' := hg9_1; (try simp only [nrm] at hg9_1'); try (exfalso; first | with_reducible exact absurd hg9_1 Bool.false_ne_true | with_reducible exact absurd hg9_1.symm Bool.false_ne_true | omega | (simp at hg9_1; done))
        all_goals
         have hb1 : false = true ↔ Pre (wfT l (k + 1)) r := by
           rw [hwf1, Pre_snoc, ← hb]
           exact ⟨(fun h => by cases h), fun h => by rw [hg9_1] at h; exact absurd h.1 Bool.false_ne_true⟩
         refine rg_skip 2 rfl rfl (by kernel_rfl) (by kernel_rfl) (by kernel_rfl) (want_n rfl rfl rfl rfl (by rw [hg9_1]; rfl)) ?_
         refine rg_skip 3 rfl rfl (by kernel_rfl) (by kernel_rfl) (by kernel_rfl) (want_n rfl rfl rfl rfl (by rw [hg9_1]; rfl)) ?_
         refine rg_skip 4 rfl rfl (by kernel_rfl) (by kernel_rfl) (by kernel_rfl) (want_n rfl rfl rfl rfl (by rw [hg9_1]; rfl)) ?_
         refine rg_skip 5 rfl rfl (by kernel_rfl) (by kernel_rfl) (by kernel_rfl) (want_n rfl rfl rfl rfl (by rw [hg9_1]; rfl)) ?_
         refine rg_take 6 rfl rfl (by kernel_rfl) (by kernel_rfl) (by kernel_rfl) (want_0) (fun w hok => x_pickF (tmB rfl rfl) hg9_1 ev_c) ?_
         refine rg_take 7 rfl rfl (by kernel_rfl) (by kernel_rfl) (by kernel_rfl) (want_0) (fun w hok => x_move (tmB rfl rfl)) ?_
         refine rg_skip 8 rfl rfl (by kernel_rfl) (by kernel_rfl) (by kernel_rfl) (want_n rfl rfl rfl rfl rfl) ?_
         refine rg_skip 9 rfl rfl (by kernel_rfl) (by kernel_rfl) (by kernel_rfl) (want_n rfl rfl rfl rfl rfl) ?_
         refine rg_skip 10 rfl rfl (by kernel_rfl) (by kernel_rfl) (by kernel_rfl) (want_n rfl rfl rfl rfl rfl) ?_
         refine rg_skip 11 rfl rfl (by kernel_rfl) (by kernel_rfl) (by kernel_rfl) (want_n rfl rfl rfl rfl rfl) ?_
         refine rg_skip 12 rfl rfl (by kernel_rfl) (by kernel_rfl) (by kernel_rfl) (want_n rfl rfl rfl rfl rfl) ?_
         refine rg_skip 13 rfl rfl (by kernel_rfl) (by kernel_rfl) (by kernel_rfl) (want_n rfl rfl rfl rfl rfl) ?_
         refine rg_skip 14 rfl rfl (by kernel_rfl) (by kernel_rfl) (by kernel_rfl) (want_n rfl rfl rfl rfl rfl) ?_
         refine rg_skip 15 rfl rfl (by kernel_rfl) (by kernel_rfl) (by kernel_rfl) (want_n rfl rfl rfl rfl rfl) ?_
         refine rg_skip 16 rfl rfl (by kernel_rfl) (by kernel_rfl) (by kernel_rfl) (want_n rfl rfl rfl rfl rfl) ?_
         refine rg_skip 17 rfl rfl (by kernel_rfl) (by kernel_rfl) (by kernel_rfl) (want_n rfl rfl rfl rfl rfl) ?_
         refine rg_skip 18 rfl rfl (by kernel_rfl) (by kernel_rfl) (by kernel_rfl) (want_n rfl rfl rfl rfl rfl) ?_
         refine rg_skip 19 rfl rfl (by kernel_rfl) (by kernel_rfl) (by kernel_rfl) (want_n rfl rfl rfl rfl rfl) ?_
         refine rg_take 20 rfl rfl (by kernel_rfl) (by kernel_rfl) (by kernel_rfl) (want_0) (fun w hok => x_pickF (tmB rfl rfl) rfl ev_c) ?_
         refine rg_take 21 rfl rfl (by kernel_rfl) (by kernel_rfl) (by kernel_rfl) (want_0) (fun w hok => x_move (tmB rfl rfl)) ?_
         refine rg_skip 22 rfl rfl (by kernel_rfl) (by kernel_rfl) (by kernel_rfl) (want_n rfl rfl rfl rfl rfl) ?_
         refine rg_skip 23 rfl rfl (by kernel_rfl) (by kernel_rfl) (by kernel_rfl) (want_n rfl rfl rfl rfl rfl) ?_
         refine rg_skip 24 rfl rfl (by kernel_rfl) (by kernel_rfl) (by kernel_rfl) (want_n rfl rfl rfl rfl rfl) ?_
         refine rg_skip 25 rfl rfl (by kernel_rfl) (by kernel_rfl) (by kernel_rfl) (want_n rfl rfl rfl rfl rfl) ?_
         refine rg_skip 26 rfl rfl (by kernel_rfl) (by kernel_rfl) (by kernel_rfl) (want_n rfl rfl rfl rfl rfl) ?_
         refine rg_skip 27 rfl rfl (by kernel_rfl) (by kernel_rfl) (by kernel_rfl) (want_n rfl rfl rfl rfl rfl) ?_
         refine rg_skip 28 rfl rfl (by kernel_rfl) (by kernel_rfl) (by kernel_rfl) (want_n rfl rfl rfl rfl rfl) ?_
         refine rg_skip 29 rfl rfl (by kernel_rfl) (by kernel_rfl) (by kernel_rfl) (want_n rfl rfl rfl rfl rfl) ?_
         refine rg_skip 30 rfl rfl (by kernel_rfl) (by kernel_rfl) (by kernel_rfl) (want_n rfl rfl rfl rfl rfl) ?_
         refine rg_skip 31 rfl rfl (by kernel_rfl) (by kernel_rfl) (by kernel_rfl) (want_n rfl rfl rfl rfl rfl) ?_
         refine rg_skip 32 rfl rfl (by kernel_rfl) (by kernel_rfl) (by kernel_rfl) (want_n rfl rfl rfl rfl rfl) ?_
         refine rg_skip 33 rfl rfl (by kernel_rfl) (by kernel_rfl) (by kernel_rfl) (want_n rfl rfl rfl rfl rfl) ?_
         refine rg_take 34 rfl rfl (by kernel_rfl) (by kernel_rfl) (by kernel_rfl) (want_0) (fun w hok => x_pickF (tmB rfl rfl) rfl ev_c) ?_
         refine rg_take 35 rfl rfl (by kernel_rfl) (by kernel_rfl) (by kernel_rfl) (want_0) (fun w hok => x_assign (tmB rfl rfl)) ?_
         refine rg_done (oks_drop hS 0 rfl) (by kernel_rfl) ?_
         refine then_n (hK13 _ _ ?_); clear hK13 K13
         refine wp_seq_k ?_; intro K17 hK17
         refine wlit ?_
         refine wl_v (x_move (tmS rfl rfl)) ?_
         refine wl_v (x_move (tmS rfl rfl)) ?_
         refine wl_v (x_move (tmI rfl rfl)) ?_
         refine wl_v (x_ixs Try.underlying30 ts_40 (tmS rfl rfl) (tmI rfl rfl) (by omega)) ?_
         first
          | refine wl_v (x_loadA Try.underlying40 rfl (by exact ts_40) (tmP rfl rfl) (rangeRs hS.ok 0 rfl (fun _ => rfl) (by omega))) ?_
          | refine wl_v (x_loadA Try.underlying40 rfl (by exact ts_40) (tmP rfl rfl) (rangeVs hS.ok 1 rfl (fun _ => rfl) (by omega))) ?_
          | refine wl_v (x_loadA Try.underlying40 rfl (by exact ts_40) (tmP rfl rfl) (rangeVs hS.ok 2 rfl (fun _ => rfl) (by omega))) ?_
         refine wl_v (x_build (bc_takeL (tmA rfl rfl) <| bc_skip (.int .i64 0) <| bc_nil) (by kernel_rfl)) ?_
         refine wl_e rfl ?_; intro K hK
         refine ow_build hS Try.underlying28 tz_42 (bc_takeL (tmA rfl rfl) <| bc_nil) rfl rfl (by kernel_rfl) ?_
         clear hS; intro g10_6 w hg10_6 hS
         refine hK _ _ ?_; clear hK K
         refine wl_e rfl ?_; intro K hK
         (refine ow_append hS 1 0 rfl rfl Try.underlying28 tz_42 rfl (tmS rfl rfl) (tmS rfl rfl) rfl ⟨by decide, by decide, rfl⟩ (by simp only [maxLen]; omega) (by omega) ?_; clear hS; intro g10_7 cg10_7 w hS)
         refine hK _ _ ?_; clear hK K
         refine wl_v (x_assign (tmS rfl rfl)) ?_
         refine wl_nil ?_
         refine then_n (hK17 _ _ ?_); clear hK17 K17
         refine wlit ?_
         refine wl_v (x_move (tmI rfl rfl)) ?_
         refine wl_v (x_move (tmS rfl rfl)) ?_
         refine wl_v (x_move (tmI rfl rfl)) ?_
         refine wl_v (x_ixs Try.underlying30 ts_40 (tmS rfl rfl) (tmI rfl rfl) (by omega)) ?_
         refine wl_v (x_fa 2 Try.underlying40 rfl rfl ts_3 (tmP rfl rfl)) ?_
         first
          | refine wl_v (x_load Try.underlying3 rfl (tmP rfl rfl) (cellB hS.ok 0 rfl rfl)) ?_
          | refine wl_v (x_load Try.underlying3 rfl (tmP rfl rfl) (cellR hS.ok 1 rfl rfl)) ?_
          | refine wl_v (x_load Try.underlying3 rfl (tmP rfl rfl) (cellR hS.ok 1 rfl (getm (by omega)))) ?_
          | refine wl_v (x_load Try.underlying3 rfl (tmP rfl rfl) (cellRs hS.ok 1 rfl (fun _ => rfl) rfl (by omega) rfl)) ?_
          | refine wl_v (x_load Try.underlying3 rfl (tmP rfl rfl) (cellV hS.ok 2 rfl rfl)) ?_
          | refine wl_v (x_load Try.underlying3 rfl (tmP rfl rfl) (cellV hS.ok 2 rfl (getm (by omega)))) ?_
          | refine wl_v (x_load Try.underlying3 rfl (tmP rfl rfl) (cellVs hS.ok 2 rfl (fun _ => rfl) rfl (by omega) rfl)) ?_
          | refine wl_v (x_load Try.underlying3 rfl (tmP rfl rfl) (cellV hS.ok 3 rfl rfl)) ?_
          | refine wl_v (x_load Try.underlying3 rfl (tmP rfl rfl) (cellV hS.ok 3 rfl (getm (by omega)))) ?_
          | refine wl_v (x_load Try.underlying3 rfl (tmP rfl rfl) (cellVs hS.ok 3 rfl (fun _ => rfl) rfl (by omega) rfl)) ?_
         first
          | refine wl_v (x_addN (tmI rfl rfl) (tmI rfl rfl) (fit_i64 (by omega))) ?_
          | refine wl_v (x_addI (tmI rfl rfl) (tmI rfl rfl) (IntWalk.i64_in _ (by omega))) ?_
          | refine wl_v (x_add (tmI rfl rfl) (tmI rfl rfl)) ?_
         refine wl_v (x_assign (tmI rfl rfl)) ?_
         refine wl_nil ?_
         refine inb_n ?_
         refine then_n (hK9 _ _ ?_); clear hK9 K9
         refine wlit ?_
         refine wl_v (x_move (tmI rfl rfl)) ?_
         first
          | refine wl_v (x_addN (tmI rfl rfl) (ev_cN 1) (fit_i64 (by omega))) ?_
          | refine wl_v (x_addI (tmI rfl rfl) (ev_cN 1) (IntWalk.i64_in _ (by omega))) ?_
          | refine wl_v (x_add (tmI rfl rfl) (ev_cN 1)) ?_
         refine wl_v (x_assign (tmI rfl rfl)) ?_
         refine wl_nil ?_
         first
          | exact then_n ⟨_, _, rfl, (by show _ < _; omega), (by repeat (first | exact agree_self | exact agree_refl | refine agree_upd rfl ?_ | refine agree_mix rfl ?_)), k + 1, _, _, _, _, rfl, (by first | rfl | go_num | exact congrArg (Value.int _) (by first | omega | (simp; done) | (simp; omega))), (by first | rfl | go_num | exact congrArg (Value.int _) (by first | omega | (simp; done) | (simp; omega))), (by first | rfl | go_num | exact congrArg (Value.int _) (by first | omega | (simp; done) | (simp; omega))), (by first | rfl | (rw [hsz]; done) | (rw [hsz]; rfl) | (rw [hsz]; go_num)), (by rw [hwf1]; exact hS), (by omega), (by first | rfl | exact hq1), (by first | exact hb1 | (simp [Pre, wfT])), (by first | exact hsk1 | simp [sumF])⟩
          | exact then_n ⟨_, _, rfl, (by show _ < _; omega), (by repeat (first | exact agree_self | exact agree_refl | refine agree_upd rfl ?_ | refine agree_mix rfl ?_)), k + 1, _, _, _, _, rfl, (by first | rfl | go_num | exact congrArg (Value.int _) (by first | omega | (simp; done) | (simp; omega))), (by first | rfl | go_num | exact congrArg (Value.int _) (by first | omega | (simp; done) | (simp; omega))), (by first | rfl | go_num | exact congrArg (Value.int _) (by first | omega | (simp; done) | (simp; omega))), (by first | rfl | (rw [hsz]; done) | (rw [hsz]; rfl) | (rw [hsz]; go_num)), (by rw [hwf1, shF_snoc, flat_snoc]; exact hS.pick [1, 2, 3] rfl rfl), (by omega), (by first | rfl | exact hq1), (by first | exact hb1 | (simp [Pre, wfT])), (by first | exact hsk1 | simp [sumF])⟩
    try (exfalso; first | with_reducible exact absurd hc0 Bool.false_ne_true | with_reducible exact absurd hc0.symm Bool.false_ne_true | (simp only [nrm] at hc0; omega) | (simp at hc0; done))
    all_goals
     try simp only [nrm] at hc0
     refine wp_exit ?_
     refine then_x ?_; clear hK7 K7
     refine then_x ?_
     refine inb_x ?_
     refine then_n (hK5 _ _ ?_); clear hK5 K5
     refine wp_seq_k ?_; intro K18 hK18
     refine wp_seq_k ?_; intro K19 hK19
     obtain rfl : n = k := by omega
     have hq2 := hq
     subst hq
     refine wlit ?_
     refine wl_v (x_move (tmS rfl rfl)) ?_
     refine wl_v (x_len Try.underlying28 (tmS rfl rfl)) ?_
     refine wl_v (x_eql (tmI rfl rfl) (ev_cN 0)) ?_
     refine wl_nil ?_
     refine then_n (hK19 _ _ ?_); clear hK19 K19
     refine cnd (tm rfl) (fun hc2 => ?_) (fun hc2 => ?_)
     · exfalso
       simp only [nrm] at hc2
       omega
     try (exfalso; first | with_reducible exact absurd hc2 Bool.false_ne_true | with_reducible exact absurd hc2.symm Bool.false_ne_true | (simp only [nrm] at hc2; omega) | (simp at hc2; done))
     all_goals
      try simp only [nrm] at hc2
      refine wp_skip ?_
      refine then_n (hK18 _ _ ?_); clear hK18 K18
      refine wp_seq_k ?_; intro K20 hK20
      refine cutc [7, 81, 82, 83, 84, 85, 86, 87, 88] (fun g w => ∃ (s : Bool), g 7 = .bool s ∧ St [] w0 [.row (.slice A' (wfT l n).length c') 42 5 (wfT l n).length (flat shV (shF (wfT l n) (fun _ => 0))), .vw R (flat shV r), .vw A (flat cnV l)] w ∧ (s = sameB (wfT l n) (r.map Sh.cr))) ?_ ?_
      · skip
        refine wlit ?_
        refine wl_v (x_move (tmB rfl rfl)) ?_
        refine wl_v (x_move (tmB rfl rfl)) ?_
        refine gs_wl (tm (t := 82) rfl) (fun hg14_1 => ?_) (fun hg14_1 => ?_)
        · have hg14_1' := hg14_1; (try simp only [nrm] at hg14_1'); try (exfalso; first | with_reducible exact absurd hg14_1 Bool.false_ne_true | with_reducible exact absurd hg14_1.symm Bool.false_ne_true | omega | (simp at hg14_1; done))
          all_goals
           have hs1 : decide (((wfT l n).length : Int) = (m : Int)) = sameB (wfT l n) (r.map Sh.cr) := by
             by_cases h : SameP (wfT l n) (r.map Sh.cr)
             · rw [sameB_yes h]; exact decide_eq_true (by have := ((Pre_same _ _).1 h).2; omega)
             · rw [sameB_no h]; exact decide_eq_false fun h1 => h ((Pre_same _ _).2 ⟨hb.1 hg14_1, by omega⟩)
           refine wl_gv (want_y rfl rfl rfl rfl (by rw [hg14_1]; rfl)) (x_move (tmS rfl rfl)) ?_
           refine wl_gv (want_y rfl rfl rfl rfl (by rw [hg14_1]; rfl)) (x_len Try.underlying28 (tmS rfl rfl)) ?_
           refine wl_gv (want_y rfl rfl rfl rfl (by rw [hg14_1]; rfl)) (x_move (tmS rfl rfl)) ?_
           refine wl_gv (want_y rfl rfl rfl rfl (by rw [hg14_1]; rfl)) (x_len Try.underlying28 (tmS rfl rfl)) ?_
           refine wl_gv (want_y rfl rfl rfl rfl (by rw [hg14_1]; rfl)) (x_eql (tmI rfl rfl) (tmI rfl rfl)) ?_
           refine wl_v (x_pickT (tmB rfl rfl) hg14_1 (tmB rfl rfl)) ?_
           refine wl_v (x_assign (tmB rfl rfl)) ?_
           refine wl_nil ?_
           exact then_n ⟨_, rfl, (by repeat (first | exact agree_self | exact agree_refl | refine agree_upd rfl ?_ | refine agree_mix rfl ?_)), _, (by first | rfl | go_num | exact congrArg (Value.int _) (by first | omega | (simp; done) | (simp; omega))), hS, (by exact hs1)⟩
        have hg14_1' := hg14_1; (try simp only [nrm] at hg14_1'); try (exfalso; first | with_reducible exact absurd hg14_1 Bool.false_ne_true | with_reducible exact absurd hg14_1.symm Bool.false_ne_true | omega | (simp at hg14_1; done))
        all_goals
         have hs1 : false = sameB (wfT l n) (r.map Sh.cr) := by
           rw [sameB_no fun h => by have := hb.2 ((Pre_same _ _).1 h).1; rw [hg14_1] at this; exact absurd this Bool.false_ne_true]
         refine wl_s rfl (want_n rfl rfl rfl rfl (by rw [hg14_1]; rfl)) ?_
         refine wl_s rfl (want_n rfl rfl rfl rfl (by rw [hg14_1]; rfl)) ?_
         refine wl_s rfl (want_n rfl rfl rfl rfl (by rw [hg14_1]; rfl)) ?_
         refine wl_s rfl (want_n rfl rfl rfl rfl (by rw [hg14_1]; rfl)) ?_
         refine wl_s rfl (want_n rfl rfl rfl rfl (by rw [hg14_1]; rfl)) ?_
         refine wl_v (x_pickF (tmB rfl rfl) hg14_1 ev_c) ?_
         refine wl_v (x_assign (tmB rfl rfl)) ?_
         refine wl_nil ?_
         exact then_n ⟨_, rfl, (by repeat (first | exact agree_self | exact agree_refl | refine agree_upd rfl ?_ | refine agree_mix rfl ?_)), _, (by first | rfl | go_num | exact congrArg (Value.int _) (by first | omega | (simp; done) | (simp; omega))), hS, (by exact hs1)⟩
      · clear hS; intro g w hI
        obtain ⟨s, hs7, hS, hs⟩ := hI
        refine fr_knowQ (d := 7) hs7 ?_; clear hs7
        refine then_n (hK20 _ _ ?_); clear hK20 K20
        refine wp_seq_k ?_; intro K22 hK22
        have hqn : (wfT l n).length ≤ n := wfT_le l n
        have hkd : ∃ kr, kr = startP (wfT l n) (r.map Sh.cr) := ⟨_, rfl⟩
        obtain ⟨kr, hkr⟩ := hkd
        have hk1 : s = true → kr = r.map Sh.cr ∧ m = (wfT l n).length := fun h => ⟨by rw [hkr]; unfold startP; rw [if_pos (by rw [← hs]; exact h)], by rw [hs] at h; have := (of_sameB h).1; rw [List.length_map] at this; omega⟩
        have hk0 : s = false → kr = (wfT l n).map fresh := fun h => by rw [hkr]; unfold startP; rw [if_neg (by rw [← hs, h]; simp)]
        have hkl : kr.length = (wfT l n).length := by
          cases s with
          | true => have := hk1 rfl; rw [this.1, List.length_map]; omega
          | false => rw [hk0 rfl, List.length_map]
        have hkw : ∀ i, i < (wfT l n).length → (kr.getD i default).weight = ((wfT l n).getD i default).weight := by
          intro i hi
          cases s with
          | true => rw [(hk1 rfl).1]; exact (((of_sameB hs.symm).2 i hi).2).symm
          | false => rw [hk0 rfl]; exact (((same_fresh (wfT l n)).2 i hi).2).symm
        rw [← hkr]
        rw [← hkr] at hmild
        refine wlit ?_
        refine wl_v (x_assign (ev_cN 0)) ?_
        refine wl_nil ?_
        refine then_n (hK22 _ _ ?_); clear hK22 K22
        refine wp_seq_k ?_; intro K23 hK23
        refine wp_seq_k ?_; intro K24 hK24
        refine wlit ?_
        refine wl_v (x_assign (ev_cN 0)) ?_
        refine wl_nil ?_
        refine then_n (hK24 _ _ ?_); clear hK24 K24
        refine wp_block ?_
        rw [show shF (wfT l n) (fun _ => 0) = shF (wfT l n) (owF kr 0) from shF_congr _ (fun i _ => by simp [owF])] at hS
        refine lp [11, 12, 89, 90, 91, 92, 93, 94, 95, 96, 97, 98, 99, 100, 101, 102, 103, 104, 105, 106, 107, 108, 109, 110, 111, 112, 113, 114, 115, 116, 117, 118, 119, 120, 121, 122, 123, 124, 125, 126, 127, 128, 129, 130, 131, 132] (fun mz g w => ∃ (k : Nat), mz = (wfT l n).length - k ∧ g 12 = .int .i64 (k : Int) ∧ g 11 = .int .i64 (besP kr k : Int) ∧ St [] w0 [.row (.slice A' (wfT l n).length c') 42 5 (wfT l n).length (flat shV (shF (wfT l n) (owF kr k))), .vw R (flat shV r), .vw A (flat cnV l)] w ∧ (k ≤ (wfT l n).length)) ?_ ?_
        · exact ⟨_, 0, rfl, (by first | rfl | go_num | exact congrArg (Value.int _) (by first | omega | (simp; done) | (simp; omega))), (by first | rfl | go_num | exact congrArg (Value.int _) (by first | omega | (simp; done) | (simp; omega))), hS, (by omega)⟩
        · clear hS; intro mz g w hI
          obtain ⟨k, rfl, hs12, hs11, hS, hk⟩ := hI
          refine fr_know (d := 12) hs12 ?_; clear hs12
          refine fr_know (d := 11) hs11 ?_; clear hs11
          refine wp_seq_k ?_; intro K25 hK25
          refine wp_seq_k ?_; intro K26 hK26
          refine wlit ?_
          refine wl_v (x_move (tmI rfl rfl)) ?_
          refine wl_v (x_move (tmS rfl rfl)) ?_
          refine wl_v (x_len Try.underlying28 (tmS rfl rfl)) ?_
          refine wl_v (x_lss (tmI rfl rfl) (tmI rfl rfl)) ?_
          refine wl_nil ?_
          refine then_n (hK26 _ _ ?_); clear hK26 K26
          refine cnd (tm rfl) (fun hc3 => ?_) (fun hc3 => ?_)
          · try (exfalso; first | with_reducible exact absurd hc3 Bool.false_ne_true | with_reducible exact absurd hc3.symm Bool.false_ne_true | (simp only [nrm] at hc3; omega) | (simp at hc3; done))
            all_goals
             try simp only [nrm] at hc3
             obtain ⟨gk, rfl⟩ := row_some (hS.rowOk 0 rfl) (by omega)
             have hfl : ∀ f, (flat shV (shF (wfT l n) f)).length = (wfT l n).length * 5 := fun f => by rw [flat_length shV_len, shF_len]
             have hfl0 := hfl (owF kr k)
             have hl0 := shF_len (wfT l n) (owF kr k)
             refine wp_skip ?_
             refine then_n (hK25 _ _ ?_); clear hK25 K25
             refine wp_seq_k ?_; intro K27 hK27
             refine wp_block ?_
             refine wp_seq_k ?_; intro K28 hK28
             refine wp_seq_k ?_; intro K29 hK29
             refine wlit ?_
             refine wl_v (x_move (tmB rfl rfl)) ?_
             refine wl_nil ?_
             refine then_n (hK29 _ _ ?_); clear hK29 K29
             refine cutc [96, 97, 98, 99, 100, 101, 102, 103, 104] (fun g w => St [] w0 [.row (.slice (some ⟨gk, 0, none⟩) (wfT l n).length c') 42 5 (wfT l n).length (flat shV (shF (wfT l n) (fun j => if j = k then (kr.getD k default).owed else owF kr k j))), .vw R (flat shV r), .vw A (flat cnV l)] w ∧ (True)) ?_ ?_
             · skip
               refine cnd (tm rfl) (fun hc4 => ?_) (fun hc4 => ?_)
               · try (exfalso; first | with_reducible exact absurd hc4 Bool.false_ne_true | with_reducible exact absurd hc4.symm Bool.false_ne_true | (simp only [nrm] at hc4; omega) | (simp at hc4; done))
                 all_goals
                  try simp only [nrm] at hc4
                  obtain ⟨hk1a, hk1b⟩ := hk1 (by simpa using hc4)
                  obtain ⟨b5, o5, rfl⟩ := view_some hr (by rw [flat_length shV_len]; omega)
                  refine wlit ?_
                  refine wl_v (x_move (tmS rfl rfl)) ?_
                  refine wl_v (x_move (tmI rfl rfl)) ?_
                  refine wl_v (x_move (tmS rfl rfl)) ?_
                  refine wl_v (x_move (tmI rfl rfl)) ?_
                  refine wl_v (x_ixs Try.underlying28 ts_42 (tmS rfl rfl) (tmI rfl rfl) (by omega)) ?_
                  refine wl_v (x_fa 4 Try.underlying42 rfl rfl ts_3 (tmP rfl rfl)) ?_
                  first
                   | refine wl_v (x_load Try.underlying3 rfl (tmP rfl rfl) (cellR hS.ok 0 rfl rfl)) ?_
                   | refine wl_v (x_load Try.underlying3 rfl (tmP rfl rfl) (cellR hS.ok 0 rfl (getm (by omega)))) ?_
                   | refine wl_v (x_load Try.underlying3 rfl (tmP rfl rfl) (cellRs hS.ok 0 rfl (fun _ => rfl) rfl (by omega) rfl)) ?_
                   | refine wl_v (x_load Try.underlying3 rfl (tmP rfl rfl) (cellV hS.ok 1 rfl rfl)) ?_
                   | refine wl_v (x_load Try.underlying3 rfl (tmP rfl rfl) (cellV hS.ok 1 rfl (getm (by omega)))) ?_
                   | refine wl_v (x_load Try.underlying3 rfl (tmP rfl rfl) (cellVs hS.ok 1 rfl (fun _ => rfl) rfl (by omega) rfl)) ?_
                   | refine wl_v (x_load Try.underlying3 rfl (tmP rfl rfl) (cellV hS.ok 2 rfl rfl)) ?_
                   | refine wl_v (x_load Try.underlying3 rfl (tmP rfl rfl) (cellV hS.ok 2 rfl (getm (by omega)))) ?_
                   | refine wl_v (x_load Try.underlying3 rfl (tmP rfl rfl) (cellVs hS.ok 2 rfl (fun _ => rfl) rfl (by omega) rfl)) ?_
                  refine wl_v (x_ixs Try.underlying28 ts_42 (tmS rfl rfl) (tmI rfl rfl) (by omega)) ?_
                  refine wl_v (x_fa 4 Try.underlying42 rfl rfl ts_3 (tmP rfl rfl)) ?_
                  refine wl_e rfl ?_; intro K hK
                  first
                   | refine ow_store hS 0 rfl ts_3 (tmP rfl rfl) (tmI rfl rfl) rfl rfl ?_
                   | refine ow_storeX hS 0 rfl ts_3 (tmP rfl rfl) (tmI rfl rfl) rfl (by simp; omega) ?_
                   | refine ow_storeRs hS 0 rfl ts_3 (tmP rfl rfl) (tmI rfl rfl) rfl (by first | omega | (simp; omega)) ?_
                   | refine ow_storeR hS 0 rfl ts_3 (tmP rfl rfl) (tmI rfl rfl) rfl (by first | omega | (simp; omega)) ?_
                  clear hS; intro w hS
                  refine hK _ _ ?_; clear hK K
                  refine wl_nil ?_
                  rw [flat_set (mkSh ((wfT l n).getD k default) (r.getD k default).owed) shV_len (by decide) (by omega) (by rw [shF_getD _ _ _ (by omega)]; rfl), shF_set, show (r.getD k default).owed = (kr.getD k default).owed from by rw [hk1a, cr_getD]; rfl] at hS
                  exact then_n ⟨_, rfl, (by repeat (first | exact agree_self | exact agree_refl | refine agree_upd rfl ?_ | refine agree_mix rfl ?_)), hS, (by trivial)⟩
               try (exfalso; first | with_reducible exact absurd hc4 Bool.false_ne_true | with_reducible exact absurd hc4.symm Bool.false_ne_true | (simp only [nrm] at hc4; omega) | (simp at hc4; done))
               all_goals
                try simp only [nrm] at hc4
                have hk0a := hk0 (by simpa using hc4)
                rw [shF_congr (wfT l n) (f := owF kr k) (g := fun j => if j = k then (kr.getD k default).owed else owF kr k j) (fun i hi => by
                  show _ = if i = k then _ else _
                  split
                  · subst i; rw [hk0a]; unfold owF; rw [if_neg (by omega), List.getD_eq_getElem?_getD, List.getElem?_map, List.getElem?_eq_getElem hi]; rfl
                  · rfl)] at hS
                refine wp_skip ?_
                exact then_n ⟨_, rfl, (by repeat (first | exact agree_self | exact agree_refl | refine agree_upd rfl ?_ | refine agree_mix rfl ?_)), hS, (by trivial)⟩
             · clear hS; intro g w hI
               obtain ⟨hS, hz4⟩ := hI
               refine then_n (hK28 _ _ ?_); clear hK28 K28
               refine wp_seq_k ?_; intro K31 hK31
               have hl1 := shF_len (wfT l n) (fun j => if j = k then (kr.getD k default).owed else owF kr k j)
               have hfl1 := hfl (fun j => if j = k then (kr.getD k default).owed else owF kr k j)
               have ho1 : ((shF (wfT l n) (fun j => if j = k then (kr.getD k default).owed else owF kr k j)).getD k default).owed = (kr.getD k default).owed := by
                 rw [shF_getD _ _ _ (by omega)]
                 show (if k = k then (kr.getD k default).owed else owF kr k k) = _
                 exact if_pos rfl
               have hw1 : ((shF (wfT l n) (fun j => if j = k then (kr.getD k default).owed else owF kr k j)).getD k default).weight = (kr.getD k default).weight := by rw [shF_getD _ _ _ (by omega), hkw k (by omega)]; rfl
               have hmk := hmild k
               refine rg_startk 1 hS mixed_ ?_
               clear hS; intro w hS
               refine rg_take 0 rfl rfl (by kernel_rfl) (by kernel_rfl) (by kernel_rfl) (want_0) (fun w hok => x_move (tmS rfl rfl)) ?_
               refine rg_take 1 rfl rfl (by kernel_rfl) (by kernel_rfl) (by kernel_rfl) (want_0) (fun w hok => x_move (tmI rfl rfl)) ?_
               refine rg_take 2 rfl rfl (by kernel_rfl) (by kernel_rfl) (by kernel_rfl) (want_0) (fun w hok => x_move (tmS rfl rfl)) ?_
               refine rg_take 3 rfl rfl (by kernel_rfl) (by kernel_rfl) (by kernel_rfl) (want_0) (fun w hok => x_move (tmI rfl rfl)) ?_
               refine rg_take 4 rfl rfl (by kernel_rfl) (by kernel_rfl) (by kernel_rfl) (want_0) (fun w hok => x_ixs Try.underlying28 ts_42 (tmS rfl rfl) (tmI rfl rfl) (by omega)) ?_
               refine rg_take 5 rfl rfl (by kernel_rfl) (by kernel_rfl) (by kernel_rfl) (want_0) (fun w hok => x_fa 4 Try.underlying42 rfl rfl ts_3 (tmP rfl rfl)) ?_
               refine rg_take 7 rfl rfl (by kernel_rfl) (by kernel_rfl) (by kernel_rfl) (want_0) (fun w hok => x_move (tmS rfl rfl)) ?_
               refine rg_take 8 rfl rfl (by kernel_rfl) (by kernel_rfl) (by kernel_rfl) (want_0) (fun w hok => x_move (tmI rfl rfl)) ?_
               refine rg_take 9 rfl rfl (by kernel_rfl) (by kernel_rfl) (by kernel_rfl) (want_0) (fun w hok => x_ixs Try.underlying28 ts_42 (tmS rfl rfl) (tmI rfl rfl) (by omega)) ?_
               refine rg_take 10 rfl rfl (by kernel_rfl) (by kernel_rfl) (by kernel_rfl) (want_0) (fun w hok => x_fa 0 Try.underlying42 rfl rfl ts_40 (tmP rfl rfl)) ?_
               refine rg_take 11 rfl rfl (by kernel_rfl) (by kernel_rfl) (by kernel_rfl) (want_0) (fun w hok => x_fa 2 Try.underlying40 rfl rfl ts_3 (tmP rfl rfl)) ?_
               refine rg_step2 6 12 rfl rfl (by kernel_rfl) (want_0) (want_0) (oks_drop hS 1 rfl) ?_ ?_
               · intro K hK
                 first
                  | refine ow_v (x_load Try.underlying3 rfl (tmP rfl rfl) (cellR hS.ok 0 rfl rfl)) ?_
                  | refine ow_v (x_load Try.underlying3 rfl (tmP rfl rfl) (cellR hS.ok 0 rfl (getm (by omega)))) ?_
                  | refine ow_v (x_load Try.underlying3 rfl (tmP rfl rfl) (cellRs hS.ok 0 rfl (fun _ => rfl) rfl (by omega) rfl)) ?_
                  | refine ow_v (x_load Try.underlying3 rfl (tmP rfl rfl) (cellV hS.ok 1 rfl rfl)) ?_
                  | refine ow_v (x_load Try.underlying3 rfl (tmP rfl rfl) (cellV hS.ok 1 rfl (getm (by omega)))) ?_
                  | refine ow_v (x_load Try.underlying3 rfl (tmP rfl rfl) (cellVs hS.ok 1 rfl (fun _ => rfl) rfl (by omega) rfl)) ?_
                  | refine ow_v (x_load Try.underlying3 rfl (tmP rfl rfl) (cellV hS.ok 2 rfl rfl)) ?_
                  | refine ow_v (x_load Try.underlying3 rfl (tmP rfl rfl) (cellV hS.ok 2 rfl (getm (by omega)))) ?_
                  | refine ow_v (x_load Try.underlying3 rfl (tmP rfl rfl) (cellVs hS.ok 2 rfl (fun _ => rfl) rfl (by omega) rfl)) ?_
                 refine hK _ _ ?_; clear hK K
                 refine rg_step 12 rfl (by kernel_rfl) (want_0) (oks_drop hS 1 rfl) ?_; intro K hK
                 first
                  | refine ow_v (x_load Try.underlying3 rfl (tmP rfl rfl) (cellR hS.ok 0 rfl rfl)) ?_
                  | refine ow_v (x_load Try.underlying3 rfl (tmP rfl rfl) (cellR hS.ok 0 rfl (getm (by omega)))) ?_
                  | refine ow_v (x_load Try.underlying3 rfl (tmP rfl rfl) (cellRs hS.ok 0 rfl (fun _ => rfl) rfl (by omega) rfl)) ?_
                  | refine ow_v (x_load Try.underlying3 rfl (tmP rfl rfl) (cellV hS.ok 1 rfl rfl)) ?_
                  | refine ow_v (x_load Try.underlying3 rfl (tmP rfl rfl) (cellV hS.ok 1 rfl (getm (by omega)))) ?_
                  | refine ow_v (x_load Try.underlying3 rfl (tmP rfl rfl) (cellVs hS.ok 1 rfl (fun _ => rfl) rfl (by omega) rfl)) ?_
                  | refine ow_v (x_load Try.underlying3 rfl (tmP rfl rfl) (cellV hS.ok 2 rfl rfl)) ?_
                  | refine ow_v (x_load Try.underlying3 rfl (tmP rfl rfl) (cellV hS.ok 2 rfl (getm (by omega)))) ?_
                  | refine ow_v (x_load Try.underlying3 rfl (tmP rfl rfl) (cellVs hS.ok 2 rfl (fun _ => rfl) rfl (by omega) rfl)) ?_
                 refine hK _ _ ?_; clear hK K
                 first
                  | refine rg_take 13 rfl rfl (by kernel_rfl) (by kernel_rfl) (by kernel_rfl) (want_0) (fun w hok => x_addN (tmI rfl rfl) (tmI rfl rfl) (fit_i64 (by omega))) ?_
                  | refine rg_take 13 rfl rfl (by kernel_rfl) (by kernel_rfl) (by kernel_rfl) (want_0) (fun w hok => x_addI (tmI rfl rfl) (tmI rfl rfl) (IntWalk.i64_in _ (by omega))) ?_
                  | refine rg_take 13 rfl rfl (by kernel_rfl) (by kernel_rfl) (by kernel_rfl) (want_0) (fun w hok => x_add (tmI rfl rfl) (tmI rfl rfl)) ?_
                 refine rg_take 14 rfl rfl (by kernel_rfl) (by kernel_rfl) (by kernel_rfl) (want_0) (fun w hok => x_ixs Try.underlying28 ts_42 (tmS rfl rfl) (tmI rfl rfl) (by omega)) ?_
                 refine rg_take 15 rfl rfl (by kernel_rfl) (by kernel_rfl) (by kernel_rfl) (want_0) (fun w hok => x_fa 4 Try.underlying42 rfl rfl ts_3 (tmP rfl rfl)) ?_
                 refine rg_step 16 rfl (by kernel_rfl) (want_0) (oks_drop hS 1 rfl) ?_; intro K hK
                 first
                  | refine ow_store hS 0 rfl ts_3 (tmP rfl rfl) (tmI rfl rfl) rfl rfl ?_
                  | refine ow_storeX hS 0 rfl ts_3 (tmP rfl rfl) (tmI rfl rfl) rfl (by simp; omega) ?_
                  | refine ow_storeRs hS 0 rfl ts_3 (tmP rfl rfl) (tmI rfl rfl) rfl (by first | omega | (simp; omega)) ?_
                  | refine ow_storeR hS 0 rfl ts_3 (tmP rfl rfl) (tmI rfl rfl) rfl (by first | omega | (simp; omega)) ?_
                 clear hS; intro w hS
                 refine hK _ _ ?_; clear hK K
                 refine rg_done (oks_drop hS 1 rfl) (by kernel_rfl) ?_
                 rw [flat_set (mkSh ((wfT l n).getD k default) (((shF (wfT l n) (fun j => if j = k then (kr.getD k default).owed else owF kr k j)).getD k default).owed + ((shF (wfT l n) (fun j => if j = k then (kr.getD k default).owed else owF kr k j)).getD k default).weight)) shV_len (by decide) (by omega) (by rw [shF_getD _ _ _ (by omega)]; rfl), shF_set, shF_congr (wfT l n) (f := fun j => if j = k then ((shF (wfT l n) (fun j => if j = k then (kr.getD k default).owed else owF kr k j)).getD k default).owed + ((shF (wfT l n) (fun j => if j = k then (kr.getD k default).owed else owF kr k j)).getD k default).weight else (fun j => if j = k then (kr.getD k default).owed else owF kr k j) j) (g := owF kr (k + 1)) (fun i hi => by
                   show (if i = k then _ else if i = k then _ else owF kr k i) = owF kr (k + 1) i
                   split
                   · subst i; rw [ho1, hw1]; unfold owF; rw [if_pos (by omega)]
                   · unfold owF
                     by_cases h : i < k
                     · rw [if_pos h, if_pos (by omega)]
                     · rw [if_neg h, if_neg (by omega)])] at hS
                 refine then_n (hK31 _ _ ?_); clear hK31 K31
                 refine wp_seq_k ?_; intro K32 hK32
                 have hl2 := shF_len (wfT l n) (owF kr (k + 1))
                 have hA : ∀ i, i < k + 1 → ((shF (wfT l n) (owF kr (k + 1))).getD i default).owed = ((addP kr (k + 1)).getD i default).owed := by
                   intro i hi
                   rw [shF_getD _ _ _ (by omega), addP_getD _ _ (by omega), if_pos hi]
                   show owF kr (k + 1) i = _
                   unfold owF; rw [if_pos hi]; rfl
                 have hbk : besP kr k < k + 1 := by
                   rcases Nat.eq_zero_or_pos k with h | h
                   · rw [h]; simp [besP]
                   · have := besP_lt kr k h; omega
                 refine rg_startk 0 hS mixed_ ?_
                 clear hS; intro w hS
                 refine rg_take 0 rfl rfl (by kernel_rfl) (by kernel_rfl) (by kernel_rfl) (want_0) (fun w hok => x_move (tmS rfl rfl)) ?_
                 refine rg_take 1 rfl rfl (by kernel_rfl) (by kernel_rfl) (by kernel_rfl) (want_0) (fun w hok => x_move (tmI rfl rfl)) ?_
                 refine rg_take 2 rfl rfl (by kernel_rfl) (by kernel_rfl) (by kernel_rfl) (want_0) (fun w hok => x_ixs Try.underlying28 ts_42 (tmS rfl rfl) (tmI rfl rfl) (by omega)) ?_
                 refine rg_take 3 rfl rfl (by kernel_rfl) (by kernel_rfl) (by kernel_rfl) (want_0) (fun w hok => x_fa 4 Try.underlying42 rfl rfl ts_3 (tmP rfl rfl)) ?_
                 first
                  | refine rg_take 4 rfl rfl (by kernel_rfl) (by kernel_rfl) (by kernel_rfl) (want_0) (fun w hok => x_load Try.underlying3 rfl (tmP rfl rfl) (cellR hok 0 rfl rfl)) ?_
                  | refine rg_take 4 rfl rfl (by kernel_rfl) (by kernel_rfl) (by kernel_rfl) (want_0) (fun w hok => x_load Try.underlying3 rfl (tmP rfl rfl) (cellR hok 0 rfl (getm (by omega)))) ?_
                  | refine rg_take 4 rfl rfl (by kernel_rfl) (by kernel_rfl) (by kernel_rfl) (want_0) (fun w hok => x_load Try.underlying3 rfl (tmP rfl rfl) (cellRs hok 0 rfl (fun _ => rfl) rfl (by omega) rfl)) ?_
                  | refine rg_take 4 rfl rfl (by kernel_rfl) (by kernel_rfl) (by kernel_rfl) (want_0) (fun w hok => x_load Try.underlying3 rfl (tmP rfl rfl) (cellV hok 1 rfl rfl)) ?_
                  | refine rg_take 4 rfl rfl (by kernel_rfl) (by kernel_rfl) (by kernel_rfl) (want_0) (fun w hok => x_load Try.underlying3 rfl (tmP rfl rfl) (cellV hok 1 rfl (getm (by omega)))) ?_
                  | refine rg_take 4 rfl rfl (by kernel_rfl) (by kernel_rfl) (by kernel_rfl) (want_0) (fun w hok => x_load Try.underlying3 rfl (tmP rfl rfl) (cellVs hok 1 rfl (fun _ => rfl) rfl (by omega) rfl)) ?_
                  | refine rg_take 4 rfl rfl (by kernel_rfl) (by kernel_rfl) (by kernel_rfl) (want_0) (fun w hok => x_load Try.underlying3 rfl (tmP rfl rfl) (cellV hok 2 rfl rfl)) ?_
                  | refine rg_take 4 rfl rfl (by kernel_rfl) (by kernel_rfl) (by kernel_rfl) (want_0) (fun w hok => x_load Try.underlying3 rfl (tmP rfl rfl) (cellV hok 2 rfl (getm (by omega)))) ?_
                  | refine rg_take 4 rfl rfl (by kernel_rfl) (by kernel_rfl) (by kernel_rfl) (want_0) (fun w hok => x_load Try.underlying3 rfl (tmP rfl rfl) (cellVs hok 2 rfl (fun _ => rfl) rfl (by omega) rfl)) ?_
                 refine rg_take 5 rfl rfl (by kernel_rfl) (by kernel_rfl) (by kernel_rfl) (want_0) (fun w hok => x_move (tmS rfl rfl)) ?_
                 refine rg_take 6 rfl rfl (by kernel_rfl) (by kernel_rfl) (by kernel_rfl) (want_0) (fun w hok => x_move (tmI rfl rfl)) ?_
                 refine rg_take 7 rfl rfl (by kernel_rfl) (by kernel_rfl) (by kernel_rfl) (want_0) (fun w hok => x_ixs Try.underlying28 ts_42 (tmS rfl rfl) (tmI rfl rfl) (by omega)) ?_
                 refine rg_take 8 rfl rfl (by kernel_rfl) (by kernel_rfl) (by kernel_rfl) (want_0) (fun w hok => x_fa 4 Try.underlying42 rfl rfl ts_3 (tmP rfl rfl)) ?_
                 first
                  | refine rg_take 9 rfl rfl (by kernel_rfl) (by kernel_rfl) (by kernel_rfl) (want_0) (fun w hok => x_load Try.underlying3 rfl (tmP rfl rfl) (cellR hok 0 rfl rfl)) ?_
                  | refine rg_take 9 rfl rfl (by kernel_rfl) (by kernel_rfl) (by kernel_rfl) (want_0) (fun w hok => x_load Try.underlying3 rfl (tmP rfl rfl) (cellR hok 0 rfl (getm (by omega)))) ?_
                  | refine rg_take 9 rfl rfl (by kernel_rfl) (by kernel_rfl) (by kernel_rfl) (want_0) (fun w hok => x_load Try.underlying3 rfl (tmP rfl rfl) (cellRs hok 0 rfl (fun _ => rfl) rfl (by omega) rfl)) ?_
                  | refine rg_take 9 rfl rfl (by kernel_rfl) (by kernel_rfl) (by kernel_rfl) (want_0) (fun w hok => x_load Try.underlying3 rfl (tmP rfl rfl) (cellV hok 1 rfl rfl)) ?_
                  | refine rg_take 9 rfl rfl (by kernel_rfl) (by kernel_rfl) (by kernel_rfl) (want_0) (fun w hok => x_load Try.underlying3 rfl (tmP rfl rfl) (cellV hok 1 rfl (getm (by omega)))) ?_
                  | refine rg_take 9 rfl rfl (by kernel_rfl) (by kernel_rfl) (by kernel_rfl) (want_0) (fun w hok => x_load Try.underlying3 rfl (tmP rfl rfl) (cellVs hok 1 rfl (fun _ => rfl) rfl (by omega) rfl)) ?_
                  | refine rg_take 9 rfl rfl (by kernel_rfl) (by kernel_rfl) (by kernel_rfl) (want_0) (fun w hok => x_load Try.underlying3 rfl (tmP rfl rfl) (cellV hok 2 rfl rfl)) ?_
                  | refine rg_take 9 rfl rfl (by kernel_rfl) (by kernel_rfl) (by kernel_rfl) (want_0) (fun w hok => x_load Try.underlying3 rfl (tmP rfl rfl) (cellV hok 2 rfl (getm (by omega)))) ?_
                  | refine rg_take 9 rfl rfl (by kernel_rfl) (by kernel_rfl) (by kernel_rfl) (want_0) (fun w hok => x_load Try.underlying3 rfl (tmP rfl rfl) (cellVs hok 2 rfl (fun _ => rfl) rfl (by omega) rfl)) ?_
                 refine rg_take 10 rfl rfl (by kernel_rfl) (by kernel_rfl) (by kernel_rfl) (want_0) (fun w hok => x_gtr (tmI rfl rfl) (tmI rfl rfl)) ?_
                 refine rg_done (oks_drop hS 0 rfl) (by kernel_rfl) ?_
                 refine then_n (hK32 _ _ ?_); clear hK32 K32
                 refine cnd (tm rfl) (fun hc5 => ?_) (fun hc5 => ?_)
                 · try (exfalso; first | with_reducible exact absurd hc5 Bool.false_ne_true | with_reducible exact absurd hc5.symm Bool.false_ne_true | (simp only [nrm] at hc5; omega) | (simp at hc5; done))
                   all_goals
                    try simp only [nrm] at hc5
                    have hb1 : besP kr (k + 1) = k := by rw [hA _ hbk, hA _ (by omega)] at hc5; simp only [besP]; rw [if_pos hc5]
                    refine wlit ?_
                    refine wl_v (x_move (tmI rfl rfl)) ?_
                    refine wl_v (x_assign (tmI rfl rfl)) ?_
                    refine wl_nil ?_
                    refine inb_n ?_
                    refine then_n (hK27 _ _ ?_); clear hK27 K27
                    refine wlit ?_
                    refine wl_v (x_move (tmI rfl rfl)) ?_
                    first
                     | refine wl_v (x_addN (tmI rfl rfl) (ev_cN 1) (fit_i64 (by omega))) ?_
                     | refine wl_v (x_addI (tmI rfl rfl) (ev_cN 1) (IntWalk.i64_in _ (by omega))) ?_
                     | refine wl_v (x_add (tmI rfl rfl) (ev_cN 1)) ?_
                    refine wl_v (x_assign (tmI rfl rfl)) ?_
                    refine wl_nil ?_
                    exact then_n ⟨_, _, rfl, (by show _ < _; omega), (by repeat (first | exact agree_self | exact agree_refl | refine agree_upd rfl ?_ | refine agree_mix rfl ?_)), k + 1, rfl, (by first | rfl | go_num | exact congrArg (Value.int _) (by first | omega | (simp; done) | (simp; omega))), (by first | rfl | (rw [hb1]; done) | (rw [hb1]; rfl) | (rw [hb1]; go_num)), hS, (by omega)⟩
                 try (exfalso; first | with_reducible exact absurd hc5 Bool.false_ne_true | with_reducible exact absurd hc5.symm Bool.false_ne_true | (simp only [nrm] at hc5; omega) | (simp at hc5; done))
                 all_goals
                  try simp only [nrm] at hc5
                  have hb1 : besP kr (k + 1) = besP kr k := by rw [hA _ hbk, hA _ (by omega)] at hc5; simp only [besP]; rw [if_neg (by omega)]
                  refine wp_skip ?_
                  refine inb_n ?_
                  refine then_n (hK27 _ _ ?_); clear hK27 K27
                  refine wlit ?_
                  refine wl_v (x_move (tmI rfl rfl)) ?_
                  first
                   | refine wl_v (x_addN (tmI rfl rfl) (ev_cN 1) (fit_i64 (by omega))) ?_
                   | refine wl_v (x_addI (tmI rfl rfl) (ev_cN 1) (IntWalk.i64_in _ (by omega))) ?_
                   | refine wl_v (x_add (tmI rfl rfl) (ev_cN 1)) ?_
                  refine wl_v (x_assign (tmI rfl rfl)) ?_
                  refine wl_nil ?_
                  exact then_n ⟨_, _, rfl, (by show _ < _; omega), (by repeat (first | exact agree_self | exact agree_refl | refine agree_upd rfl ?_ | refine agree_mix rfl ?_)), k + 1, rfl, (by first | rfl | go_num | exact congrArg (Value.int _) (by first | omega | (simp; done) | (simp; omega))), (by first | rfl | (rw [hb1]; done) | (rw [hb1]; rfl) | (rw [hb1]; go_num)), hS, (by omega)⟩
               · intro K hK
                 first
                  | refine ow_v (x_load Try.underlying3 rfl (tmP rfl rfl) (cellR hS.ok 0 rfl rfl)) ?_
                  | refine ow_v (x_load Try.underlying3 rfl (tmP rfl rfl) (cellR hS.ok 0 rfl (getm (by omega)))) ?_
                  | refine ow_v (x_load Try.underlying3 rfl (tmP rfl rfl) (cellRs hS.ok 0 rfl (fun _ => rfl) rfl (by omega) rfl)) ?_
                  | refine ow_v (x_load Try.underlying3 rfl (tmP rfl rfl) (cellV hS.ok 1 rfl rfl)) ?_
                  | refine ow_v (x_load Try.underlying3 rfl (tmP rfl rfl) (cellV hS.ok 1 rfl (getm (by omega)))) ?_
                  | refine ow_v (x_load Try.underlying3 rfl (tmP rfl rfl) (cellVs hS.ok 1 rfl (fun _ => rfl) rfl (by omega) rfl)) ?_
                  | refine ow_v (x_load Try.underlying3 rfl (tmP rfl rfl) (cellV hS.ok 2 rfl rfl)) ?_
                  | refine ow_v (x_load Try.underlying3 rfl (tmP rfl rfl) (cellV hS.ok 2 rfl (getm (by omega)))) ?_
                  | refine ow_v (x_load Try.underlying3 rfl (tmP rfl rfl) (cellVs hS.ok 2 rfl (fun _ => rfl) rfl (by omega) rfl)) ?_
                 refine hK _ _ ?_; clear hK K
                 refine rg_step 6 rfl (by kernel_rfl) (want_0) (oks_drop hS 1 rfl) ?_; intro K hK
                 first
                  | refine ow_v (x_load Try.underlying3 rfl (tmP rfl rfl) (cellR hS.ok 0 rfl rfl)) ?_
                  | refine ow_v (x_load Try.underlying3 rfl (tmP rfl rfl) (cellR hS.ok 0 rfl (getm (by omega)))) ?_
                  | refine ow_v (x_load Try.underlying3 rfl (tmP rfl rfl) (cellRs hS.ok 0 rfl (fun _ => rfl) rfl (by omega) rfl)) ?_
                  | refine ow_v (x_load Try.underlying3 rfl (tmP rfl rfl) (cellV hS.ok 1 rfl rfl)) ?_
                  | refine ow_v (x_load Try.underlying3 rfl (tmP rfl rfl) (cellV hS.ok 1 rfl (getm (by omega)))) ?_
                  | refine ow_v (x_load Try.underlying3 rfl (tmP rfl rfl) (cellVs hS.ok 1 rfl (fun _ => rfl) rfl (by omega) rfl)) ?_
                  | refine ow_v (x_load Try.underlying3 rfl (tmP rfl rfl) (cellV hS.ok 2 rfl rfl)) ?_
                  | refine ow_v (x_load Try.underlying3 rfl (tmP rfl rfl) (cellV hS.ok 2 rfl (getm (by omega)))) ?_
                  | refine ow_v (x_load Try.underlying3 rfl (tmP rfl rfl) (cellVs hS.ok 2 rfl (fun _ => rfl) rfl (by omega) rfl)) ?_
                 refine hK _ _ ?_; clear hK K
                 first
                  | refine rg_take 13 rfl rfl (by kernel_rfl) (by kernel_rfl) (by kernel_rfl) (want_0) (fun w hok => x_addN (tmI rfl rfl) (tmI rfl rfl) (fit_i64 (by omega))) ?_
                  | refine rg_take 13 rfl rfl (by kernel_rfl) (by kernel_rfl) (by kernel_rfl) (want_0) (fun w hok => x_addI (tmI rfl rfl) (tmI rfl rfl) (IntWalk.i64_in _ (by omega))) ?_
                  | refine rg_take 13 rfl rfl (by kernel_rfl) (by kernel_rfl) (by kernel_rfl) (want_0) (fun w hok => x_add (tmI rfl rfl) (tmI rfl rfl)) ?_
                 refine rg_take 14 rfl rfl (by kernel_rfl) (by kernel_rfl) (by kernel_rfl) (want_0) (fun w hok => x_ixs Try.underlying28 ts_42 (tmS rfl rfl) (tmI rfl rfl) (by omega)) ?_
                 refine rg_take 15 rfl rfl (by kernel_rfl) (by kernel_rfl) (by kernel_rfl) (want_0) (fun w hok => x_fa 4 Try.underlying42 rfl rfl ts_3 (tmP rfl rfl)) ?_
                 refine rg_step 16 rfl (by kernel_rfl) (want_0) (oks_drop hS 1 rfl) ?_; intro K hK
                 first
                  | refine ow_store hS 0 rfl ts_3 (tmP rfl rfl) (tmI rfl rfl) rfl rfl ?_
                  | refine ow_storeX hS 0 rfl ts_3 (tmP rfl rfl) (tmI rfl rfl) rfl (by simp; omega) ?_
                  | refine ow_storeRs hS 0 rfl ts_3 (tmP rfl rfl) (tmI rfl rfl) rfl (by first | omega | (simp; omega)) ?_
                  | refine ow_storeR hS 0 rfl ts_3 (tmP rfl rfl) (tmI rfl rfl) rfl (by first | omega | (simp; omega)) ?_
                 clear hS; intro w hS
                 refine hK _ _ ?_; clear hK K
                 refine rg_done (oks_drop hS 1 rfl) (by kernel_rfl) ?_
                 rw [flat_set (mkSh ((wfT l n).getD k default) (((shF (wfT l n) (fun j => if j = k then (kr.getD k default).owed else owF kr k j)).getD k default).owed + ((shF (wfT l n) (fun j => if j = k then (kr.getD k default).owed else owF kr k j)).getD k default).weight)) shV_len (by decide) (by omega) (by rw [shF_getD _ _ _ (by omega)]; rfl), shF_set, shF_congr (wfT l n) (f := fun j => if j = k then ((shF (wfT l n) (fun j => if j = k then (kr.getD k default).owed else owF kr k j)).getD k default).owed + ((shF (wfT l n) (fun j => if j = k then (kr.getD k default).owed else owF kr k j)).getD k default).weight else (fun j => if j = k then (kr.getD k default).owed else owF kr k j) j) (g := owF kr (k + 1)) (fun i hi => by
                   show (if i = k then _ else if i = k then _ else owF kr k i) = owF kr (k + 1) i
                   split
                   · subst i; rw [ho1, hw1]; unfold owF; rw [if_pos (by omega)]
                   · unfold owF
                     by_cases h : i < k
                     · rw [if_pos h, if_pos (by omega)]
                     · rw [if_neg h, if_neg (by omega)])] at hS
                 refine then_n (hK31 _ _ ?_); clear hK31 K31
                 refine wp_seq_k ?_; intro K33 hK33
                 have hl2 := shF_len (wfT l n) (owF kr (k + 1))
                 have hA : ∀ i, i < k + 1 → ((shF (wfT l n) (owF kr (k + 1))).getD i default).owed = ((addP kr (k + 1)).getD i default).owed := by
                   intro i hi
                   rw [shF_getD _ _ _ (by omega), addP_getD _ _ (by omega), if_pos hi]
                   show owF kr (k + 1) i = _
                   unfold owF; rw [if_pos hi]; rfl
                 have hbk : besP kr k < k + 1 := by
                   rcases Nat.eq_zero_or_pos k with h | h
                   · rw [h]; simp [besP]
                   · have := besP_lt kr k h; omega
                 refine rg_startk 0 hS mixed_ ?_
                 clear hS; intro w hS
                 refine rg_take 0 rfl rfl (by kernel_rfl) (by kernel_rfl) (by kernel_rfl) (want_0) (fun w hok => x_move (tmS rfl rfl)) ?_
                 refine rg_take 1 rfl rfl (by kernel_rfl) (by kernel_rfl) (by kernel_rfl) (want_0) (fun w hok => x_move (tmI rfl rfl)) ?_
                 refine rg_take 2 rfl rfl (by kernel_rfl) (by kernel_rfl) (by kernel_rfl) (want_0) (fun w hok => x_ixs Try.underlying28 ts_42 (tmS rfl rfl) (tmI rfl rfl) (by omega)) ?_
                 refine rg_take 3 rfl rfl (by kernel_rfl) (by kernel_rfl) (by kernel_rfl) (want_0) (fun w hok => x_fa 4 Try.underlying42 rfl rfl ts_3 (tmP rfl rfl)) ?_
                 first
                  | refine rg_take 4 rfl rfl (by kernel_rfl) (by kernel_rfl) (by kernel_rfl) (want_0) (fun w hok => x_load Try.underlying3 rfl (tmP rfl rfl) (cellR hok 0 rfl rfl)) ?_
                  | refine rg_take 4 rfl rfl (by kernel_rfl) (by kernel_rfl) (by kernel_rfl) (want_0) (fun w hok => x_load Try.underlying3 rfl (tmP rfl rfl) (cellR hok 0 rfl (getm (by omega)))) ?_
                  | refine rg_take 4 rfl rfl (by kernel_rfl) (by kernel_rfl) (by kernel_rfl) (want_0) (fun w hok => x_load Try.underlying3 rfl (tmP rfl rfl) (cellRs hok 0 rfl (fun _ => rfl) rfl (by omega) rfl)) ?_
                  | refine rg_take 4 rfl rfl (by kernel_rfl) (by kernel_rfl) (by kernel_rfl) (want_0) (fun w hok => x_load Try.underlying3 rfl (tmP rfl rfl) (cellV hok 1 rfl rfl)) ?_
                  | refine rg_take 4 rfl rfl (by kernel_rfl) (by kernel_rfl) (by kernel_rfl) (want_0) (fun w hok => x_load Try.underlying3 rfl (tmP rfl rfl) (cellV hok 1 rfl (getm (by omega)))) ?_
                  | refine rg_take 4 rfl rfl (by kernel_rfl) (by kernel_rfl) (by kernel_rfl) (want_0) (fun w hok => x_load Try.underlying3 rfl (tmP rfl rfl) (cellVs hok 1 rfl (fun _ => rfl) rfl (by omega) rfl)) ?_
                  | refine rg_take 4 rfl rfl (by kernel_rfl) (by kernel_rfl) (by kernel_rfl) (want_0) (fun w hok => x_load Try.underlying3 rfl (tmP rfl rfl) (cellV hok 2 rfl rfl)) ?_
                  | refine rg_take 4 rfl rfl (by kernel_rfl) (by kernel_rfl) (by kernel_rfl) (want_0) (fun w hok => x_load Try.underlying3 rfl (tmP rfl rfl) (cellV hok 2 rfl (getm (by omega)))) ?_
                  | refine rg_take 4 rfl rfl (by kernel_rfl) (by kernel_rfl) (by kernel_rfl) (want_0) (fun w hok => x_load Try.underlying3 rfl (tmP rfl rfl) (cellVs hok 2 rfl (fun _ => rfl) rfl (by omega) rfl)) ?_
                 refine rg_take 5 rfl rfl (by kernel_rfl) (by kernel_rfl) (by kernel_rfl) (want_0) (fun w hok => x_move (tmS rfl rfl)) ?_
                 refine rg_take 6 rfl rfl (by kernel_rfl) (by kernel_rfl) (by kernel_rfl) (want_0) (fun w hok => x_move (tmI rfl rfl)) ?_
                 refine rg_take 7 rfl rfl (by kernel_rfl) (by kernel_rfl) (by kernel_rfl) (want_0) (fun w hok => x_ixs Try.underlying28 ts_42 (tmS rfl rfl) (tmI rfl rfl) (by omega)) ?_
                 refine rg_take 8 rfl rfl (by kernel_rfl) (by kernel_rfl) (by kernel_rfl) (want_0) (fun w hok => x_fa 4 Try.underlying42 rfl rfl ts_3 (tmP rfl rfl)) ?_
                 first
                  | refine rg_take 9 rfl rfl (by kernel_rfl) (by kernel_rfl) (by kernel_rfl) (want_0) (fun w hok => x_load Try.underlying3 rfl (tmP rfl rfl) (cellR hok 0 rfl rfl)) ?_
                  | refine rg_take 9 rfl rfl (by kernel_rfl) (by kernel_rfl) (by kernel_rfl) (want_0) (fun w hok => x_load Try.underlying3 rfl (tmP rfl rfl) (cellR hok 0 rfl (getm (by omega)))) ?_
                  | refine rg_take 9 rfl rfl (by kernel_rfl) (by kernel_rfl) (by kernel_rfl) (want_0) (fun w hok => x_load Try.underlying3 rfl (tmP rfl rfl) (cellRs hok 0 rfl (fun _ => rfl) rfl (by omega) rfl)) ?_
                  | refine rg_take 9 rfl rfl (by kernel_rfl) (by kernel_rfl) (by kernel_rfl) (want_0) (fun w hok => x_load Try.underlying3 rfl (tmP rfl rfl) (cellV hok 1 rfl rfl)) ?_
                  | refine rg_take 9 rfl rfl (by kernel_rfl) (by kernel_rfl) (by kernel_rfl) (want_0) (fun w hok => x_load Try.underlying3 rfl (tmP rfl rfl) (cellV hok 1 rfl (getm (by omega)))) ?_
                  | refine rg_take 9 rfl rfl (by kernel_rfl) (by kernel_rfl) (by kernel_rfl) (want_0) (fun w hok => x_load Try.underlying3 rfl (tmP rfl rfl) (cellVs hok 1 rfl (fun _ => rfl) rfl (by omega) rfl)) ?_
                  | refine rg_take 9 rfl rfl (by kernel_rfl) (by kernel_rfl) (by kernel_rfl) (want_0) (fun w hok => x_load Try.underlying3 rfl (tmP rfl rfl) (cellV hok 2 rfl rfl)) ?_
                  | refine rg_take 9 rfl rfl (by kernel_rfl) (by kernel_rfl) (by kernel_rfl) (want_0) (fun w hok => x_load Try.underlying3 rfl (tmP rfl rfl) (cellV hok 2 rfl (getm (by omega)))) ?_
                  | refine rg_take 9 rfl rfl (by kernel_rfl) (by kernel_rfl) (by kernel_rfl) (want_0) (fun w hok => x_load Try.underlying3 rfl (tmP rfl rfl) (cellVs hok 2 rfl (fun _ => rfl) rfl (by omega) rfl)) ?_
                 refine rg_take 10 rfl rfl (by kernel_rfl) (by kernel_rfl) (by kernel_rfl) (want_0) (fun w hok => x_gtr (tmI rfl rfl) (tmI rfl rfl)) ?_
                 refine rg_done (oks_drop hS 0 rfl) (by kernel_rfl) ?_
                 refine then_n (hK33 _ _ ?_); clear hK33 K33
                 refine cnd (tm rfl) (fun hc5 => ?_) (fun hc5 => ?_)
                 · try (exfalso; first | with_reducible exact absurd hc5 Bool.false_ne_true | with_reducible exact absurd hc5.symm Bool.false_ne_true | (simp only [nrm] at hc5; omega) | (simp at hc5; done))
                   all_goals
                    try simp only [nrm] at hc5
                    have hb1 : besP kr (k + 1) = k := by rw [hA _ hbk, hA _ (by omega)] at hc5; simp only [besP]; rw [if_pos hc5]
                    refine wlit ?_
                    refine wl_v (x_move (tmI rfl rfl)) ?_
                    refine wl_v (x_assign (tmI rfl rfl)) ?_
                    refine wl_nil ?_
                    refine inb_n ?_
                    refine then_n (hK27 _ _ ?_); clear hK27 K27
                    refine wlit ?_
                    refine wl_v (x_move (tmI rfl rfl)) ?_
                    first
                     | refine wl_v (x_addN (tmI rfl rfl) (ev_cN 1) (fit_i64 (by omega))) ?_
                     | refine wl_v (x_addI (tmI rfl rfl) (ev_cN 1) (IntWalk.i64_in _ (by omega))) ?_
                     | refine wl_v (x_add (tmI rfl rfl) (ev_cN 1)) ?_
                    refine wl_v (x_assign (tmI rfl rfl)) ?_
                    refine wl_nil ?_
                    exact then_n ⟨_, _, rfl, (by show _ < _; omega), (by repeat (first | exact agree_self | exact agree_refl | refine agree_upd rfl ?_ | refine agree_mix rfl ?_)), k + 1, rfl, (by first | rfl | go_num | exact congrArg (Value.int _) (by first | omega | (simp; done) | (simp; omega))), (by first | rfl | (rw [hb1]; done) | (rw [hb1]; rfl) | (rw [hb1]; go_num)), hS, (by omega)⟩
                 try (exfalso; first | with_reducible exact absurd hc5 Bool.false_ne_true | with_reducible exact absurd hc5.symm Bool.false_ne_true | (simp only [nrm] at hc5; omega) | (simp at hc5; done))
                 all_goals
                  try simp only [nrm] at hc5
                  have hb1 : besP kr (k + 1) = besP kr k := by rw [hA _ hbk, hA _ (by omega)] at hc5; simp only [besP]; rw [if_neg (by omega)]
                  refine wp_skip ?_
                  refine inb_n ?_
                  refine then_n (hK27 _ _ ?_); clear hK27 K27
                  refine wlit ?_
                  refine wl_v (x_move (tmI rfl rfl)) ?_
                  first
                   | refine wl_v (x_addN (tmI rfl rfl) (ev_cN 1) (fit_i64 (by omega))) ?_
                   | refine wl_v (x_addI (tmI rfl rfl) (ev_cN 1) (IntWalk.i64_in _ (by omega))) ?_
                   | refine wl_v (x_add (tmI rfl rfl) (ev_cN 1)) ?_
                  refine wl_v (x_assign (tmI rfl rfl)) ?_
                  refine wl_nil ?_
                  exact then_n ⟨_, _, rfl, (by show _ < _; omega), (by repeat (first | exact agree_self | exact agree_refl | refine agree_upd rfl ?_ | refine agree_mix rfl ?_)), k + 1, rfl, (by first | rfl | go_num | exact congrArg (Value.int _) (by first | omega | (simp; done) | (simp; omega))), (by first | rfl | (rw [hb1]; done) | (rw [hb1]; rfl) | (rw [hb1]; go_num)), hS, (by omega)⟩
          try (exfalso; first | with_reducible exact absurd hc3 Bool.false_ne_true | with_reducible exact absurd hc3.symm Bool.false_ne_true | (simp only [nrm] at hc3; omega) | (simp at hc3; done))
          all_goals
           try simp only [nrm] at hc3
           refine wp_exit ?_
           refine then_x ?_; clear hK25 K25
           refine then_x ?_
           refine inb_x ?_
           refine then_n (hK23 _ _ ?_); clear hK23 K23
           refine wp_seq_k ?_; intro K34 hK34
           have hke : k = (wfT l n).length := by omega
           subst hke
           obtain ⟨gk, rfl⟩ := row_some (hS.rowOk 0 rfl) (by omega)
           have hbl := besP_lt kr (wfT l n).length (by omega)
           have hl3 := shF_len (wfT l n) (owF kr (wfT l n).length)
           have hfl3 : (flat shV (shF (wfT l n) (owF kr (wfT l n).length))).length = (wfT l n).length * 5 := by rw [flat_length shV_len, shF_len]
           have ho3 : ((shF (wfT l n) (owF kr (wfT l n).length)).getD (besP kr (wfT l n).length) default).owed = (kr.getD (besP kr (wfT l n).length) default).owed + (kr.getD (besP kr (wfT l n).length) default).weight := by
             rw [shF_getD _ _ _ (by omega)]
             show owF kr _ _ = _
             unfold owF; rw [if_pos hbl]
           have hmk := hmild (besP kr (wfT l n).length)
           have htt : ∀ k, k ≤ (wfT l n).length → totP kr k = sumF (wOf (wfT l n)) k := by
             intro k
             induction k with
             | zero => intro _; rfl
             | succ k ih => intro hk; rw [totP_step _ _ (by omega), ih (by omega), hkw k (by omega)]; rfl
           refine wlit ?_
           refine wl_v (x_move (tmS rfl rfl)) ?_
           refine wl_v (x_move (tmI rfl rfl)) ?_
           refine wl_v (x_move (tmS rfl rfl)) ?_
           refine wl_v (x_move (tmI rfl rfl)) ?_
           refine wl_v (x_ixs Try.underlying28 ts_42 (tmS rfl rfl) (tmI rfl rfl) (by omega)) ?_
           refine wl_v (x_fa 4 Try.underlying42 rfl rfl ts_3 (tmP rfl rfl)) ?_
           first
            | refine wl_v (x_load Try.underlying3 rfl (tmP rfl rfl) (cellR hS.ok 0 rfl rfl)) ?_
            | refine wl_v (x_load Try.underlying3 rfl (tmP rfl rfl) (cellR hS.ok 0 rfl (getm (by omega)))) ?_
            | refine wl_v (x_load Try.underlying3 rfl (tmP rfl rfl) (cellRs hS.ok 0 rfl (fun _ => rfl) rfl (by omega) rfl)) ?_
            | refine wl_v (x_load Try.underlying3 rfl (tmP rfl rfl) (cellV hS.ok 1 rfl rfl)) ?_
            | refine wl_v (x_load Try.underlying3 rfl (tmP rfl rfl) (cellV hS.ok 1 rfl (getm (by omega)))) ?_
            | refine wl_v (x_load Try.underlying3 rfl (tmP rfl rfl) (cellVs hS.ok 1 rfl (fun _ => rfl) rfl (by omega) rfl)) ?_
            | refine wl_v (x_load Try.underlying3 rfl (tmP rfl rfl) (cellV hS.ok 2 rfl rfl)) ?_
            | refine wl_v (x_load Try.underlying3 rfl (tmP rfl rfl) (cellV hS.ok 2 rfl (getm (by omega)))) ?_
            | refine wl_v (x_load Try.underlying3 rfl (tmP rfl rfl) (cellVs hS.ok 2 rfl (fun _ => rfl) rfl (by omega) rfl)) ?_
           refine wl_v (x_move (tmI rfl rfl)) ?_
           first
            | refine wl_v (x_subN (tmI rfl rfl) (tmI rfl rfl) (fit_i64 (by omega)) (by omega)) ?_
            | refine wl_v (x_subI (tmI rfl rfl) (tmI rfl rfl) (IntWalk.i64_in _ (by omega))) ?_
            | refine wl_v (x_sub (tmI rfl rfl) (tmI rfl rfl)) ?_
           refine wl_v (x_ixs Try.underlying28 ts_42 (tmS rfl rfl) (tmI rfl rfl) (by omega)) ?_
           refine wl_v (x_fa 4 Try.underlying42 rfl rfl ts_3 (tmP rfl rfl)) ?_
           refine wl_e rfl ?_; intro K hK
           first
            | refine ow_store hS 0 rfl ts_3 (tmP rfl rfl) (tmI rfl rfl) rfl rfl ?_
            | refine ow_storeX hS 0 rfl ts_3 (tmP rfl rfl) (tmI rfl rfl) rfl (by simp; omega) ?_
            | refine ow_storeRs hS 0 rfl ts_3 (tmP rfl rfl) (tmI rfl rfl) rfl (by first | omega | (simp; omega)) ?_
            | refine ow_storeR hS 0 rfl ts_3 (tmP rfl rfl) (tmI rfl rfl) rfl (by first | omega | (simp; omega)) ?_
           clear hS; intro w hS
           refine hK _ _ ?_; clear hK K
           refine wl_nil ?_
           rw [flat_set (mkSh ((wfT l n).getD (besP kr (wfT l n).length) default) (((shF (wfT l n) (owF kr (wfT l n).length)).getD (besP kr (wfT l n).length) default).owed - sumF (wOf l) n)) shV_len (by decide) (by omega) (by rw [shF_getD _ _ _ (by omega)]; rfl), shF_set] at hS
           refine then_n (hK34 _ _ ?_); clear hK34 K34
           refine wp_seq_k ?_; intro K35 hK35
           refine wlit ?_
           refine wl_v (x_move (tmS rfl rfl)) ?_
           refine wl_v (x_move (tmI rfl rfl)) ?_
           refine wl_v (x_assign (tmS rfl rfl)) ?_
           refine wl_v (x_assign (tmI rfl rfl)) ?_
           refine wl_nil ?_
           refine then_n (hK35 _ _ ?_); clear hK35 K35
           refine wp_ret ?_
           refine ret2 rfl (.tmp rfl (show _ = Value.slice _ _ _ from rfl)) (.tmp rfl (show _ = Value.int _ _ from rfl)) ?_
           rw [← hkr]
           refine ⟨some ⟨gk, 0, none⟩, c', _, rfl, ?_, hS.new 0 rfl rfl, hS.kp⟩
           refine shF_congr _ fun i hi => ?_
           rw [payP_getD kr (by omega) i (by omega), hkl, htt _ (Nat.le_refl _)]
           show (if i = _ then _ else owF kr _ i) = _ + _ - (if _ = i then sumW (wfT l n) else 0)
           rw [hsum]
           by_cases h : i = besP kr (wfT l n).length
           · rw [if_pos h, if_pos h.symm, ho3, ← h]
           · rw [if_neg h, if_neg (fun e => h e.symm)]; unfold owF; rw [if_pos hi]; omega
end Go.Proofs.Yteocdobepgbnkaa
