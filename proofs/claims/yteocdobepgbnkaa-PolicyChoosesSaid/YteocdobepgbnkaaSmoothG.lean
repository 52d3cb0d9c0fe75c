
/- smooth: what weighs, and the counts of a window of picks. Conditions: none. -/
import Derived.Test.YteocdobepgbnkaaSmoothF
namespace Go.Proofs.Yteocdobepgbnkaa

theorem getD_snocL (a : List Cn) (x : Cn) (i : Nat) (hi : i < a.length) : (a ++ [x]).getD i default = a.getD i default := by
  rw [List.getD_eq_getElem?_getD, List.getD_eq_getElem?_getD, List.getElem?_append_left hi]
theorem getD_snocR (a : List Cn) (x : Cn) : (a ++ [x]).getD a.length default = x := by
  rw [List.getD_eq_getElem?_getD, List.getElem?_append_right (Nat.le_refl _), Nat.sub_self]; rfl
theorem right_all {l : List Cn} {k : Nat} (h : RightT l k) : ∀ j, j < k → 0 ≤ (l.getD j default).slot ∧ (l.getD j default).slot ≤ 4095 ∧ 0 ≤ (l.getD j default).weight ∧ (l.getD j default).weight ≤ 100 ∧ (l.getD j default).slot ≤ lastS l k := by
  induction k with
  | zero => intro j hj; omega
  | succ k ih =>
    intro j hj
    obtain ⟨h1, h2, h3, h4, h5⟩ := h
    have hlast : -1 ≤ lastS l k := by
      cases k with
      | zero => simp [lastS]
      | succ k => have := ih h1 k (by omega); simp only [lastS]; omega
    by_cases hjk : j = k
    · subst hjk
      refine ⟨by omega, h3, h4, h5, ?_⟩
      simp [lastS]
    · have := ih h1 j (by omega)
      refine ⟨this.1, this.2.1, this.2.2.1, this.2.2.2.1, ?_⟩
      show _ ≤ (l.getD k default).slot
      have := this.2.2.2.2; omega
theorem right_inc {l : List Cn} {k : Nat} (h : RightT l k) : ∀ i j, i < j → j < k → (l.getD i default).slot < (l.getD j default).slot := by
  induction k with
  | zero => intro i j _ hj; omega
  | succ k ih =>
    intro i j hij hj
    by_cases hjk : j = k
    · subst hjk
      have := (right_all h.1 i hij).2.2.2.2
      have := h.2.1; omega
    · exact ih h.1 i j hij (by omega)
theorem wf_mem (l : List Cn) (k : Nat) : ∀ i, i < (wfT l k).length → ∃ j, j < k ∧ (wfT l k).getD i default = l.getD j default ∧ 0 < (l.getD j default).weight := by
  induction k with
  | zero => intro i hi; simp [wfT] at hi
  | succ k ih =>
    intro i hi
    simp only [wfT] at hi ⊢
    split at hi
    · rename_i hw
      rw [if_pos hw]
      rw [List.length_append, List.length_singleton] at hi
      by_cases h : i < (wfT l k).length
      · obtain ⟨j, hj, e, hp⟩ := ih i h
        exact ⟨j, by omega, by rw [getD_snocL _ _ _ h]; exact e, hp⟩
      · obtain rfl : i = (wfT l k).length := by omega
        exact ⟨k, by omega, getD_snocR _ _, hw⟩
    · rename_i hw
      rw [if_neg hw]
      obtain ⟨j, hj, e, hp⟩ := ih i hi
      exact ⟨j, by omega, e, hp⟩
theorem wf_has (l : List Cn) (k : Nat) : ∀ j, j < k → 0 < (l.getD j default).weight → ∃ i, i < (wfT l k).length ∧ (wfT l k).getD i default = l.getD j default := by
  induction k with
  | zero => intro j hj; omega
  | succ k ih =>
    intro j hj hp
    simp only [wfT]
    by_cases hjk : j = k
    · subst hjk
      rw [if_pos hp]
      exact ⟨(wfT l j).length, by rw [List.length_append]; simp, getD_snocR _ _⟩
    · obtain ⟨i, hi, e⟩ := ih j (by omega) hp
      split
      · exact ⟨i, by rw [List.length_append]; omega, by rw [getD_snocL _ _ _ hi]; exact e⟩
      · exact ⟨i, hi, e⟩
theorem wf_apart {l : List Cn} {k : Nat} (h : RightT l k) : ∀ i i', i < (wfT l k).length → i' < (wfT l k).length → ((wfT l k).getD i default).slot = ((wfT l k).getD i' default).slot → i = i' := by
  induction k with
  | zero => intro i i' hi; simp [wfT] at hi
  | succ k ih =>
    intro i i' hi hi' he
    simp only [wfT] at hi hi' he
    by_cases hw : 0 < (l.getD k default).weight
    · rw [if_pos hw] at hi hi' he
      rw [List.length_append, List.length_singleton] at hi hi'
      have hlow : ∀ a, a < (wfT l k).length → ((wfT l k).getD a default).slot < (l.getD k default).slot := by
        intro a ha
        obtain ⟨j, hj, e, _⟩ := wf_mem l k a ha
        rw [e]; exact right_inc h j k hj (by omega)
      by_cases h1 : i < (wfT l k).length
      · rw [getD_snocL _ _ _ h1] at he
        by_cases h2 : i' < (wfT l k).length
        · rw [getD_snocL _ _ _ h2] at he; exact ih h.1 i i' h1 h2 he
        · obtain rfl : i' = (wfT l k).length := by omega
          rw [getD_snocR] at he; have := hlow i h1; omega
      · obtain rfl : i = (wfT l k).length := by omega
        rw [getD_snocR] at he
        by_cases h2 : i' < (wfT l k).length
        · rw [getD_snocL _ _ _ h2] at he; have := hlow i' h2; omega
        · omega
    · rw [if_neg hw] at hi hi' he
      exact ih h.1 i i' hi hi' he
theorem sumW_snoc (a : List Cn) (x : Cn) : sumW (a ++ [x]) = sumW a + x.weight := by
  unfold sumW
  rw [List.length_append, List.length_singleton]
  simp only [sumF]
  rw [sumF_congr a.length (g := wOf a) (fun i hi => by unfold wOf; rw [getD_snocL _ _ _ hi])]
  unfold wOf
  rw [getD_snocR]
theorem wf_sum {l : List Cn} {k : Nat} (h : RightT l k) : sumW (wfT l k) = sumF (wOf l) k := by
  induction k with
  | zero => rfl
  | succ k ih =>
    simp only [wfT, sumF]
    split
    · rw [sumW_snoc, ih h.1]; rfl
    · rename_i hw
      have := h.2.2.2.1
      rw [ih h.1]
      show _ = _ + (l.getD k default).weight
      omega
theorem sum_bd {l : List Cn} {k : Nat} (h : RightT l k) : 0 ≤ sumF (wOf l) k ∧ sumF (wOf l) k ≤ 100 * k := by
  induction k with
  | zero => simp [sumF]
  | succ k ih =>
    have := ih h.1
    have h1 := h.2.2.2
    simp only [sumF]
    show 0 ≤ _ + (l.getD k default).weight ∧ _ + (l.getD k default).weight ≤ _
    omega

theorem cnt_nonneg (wt : List Cn) (i t : Nat) : 0 ≤ cnt wt i t := by
  induction t with
  | zero => simp [cnt]
  | succ t ih => simp only [cnt]; split <;> omega
theorem mild_run {wt : List Cn} (h0 : 0 < wt.length) (hw : ∀ i, i < wt.length → 0 < wOf wt i ∧ wOf wt i ≤ 100) (hT : sumW wt ≤ 3000) (t : Nat) (ht : t ≤ 10000) : Mild (run wt t) := by
  intro i
  by_cases hi : i < wt.length
  · have h1 := c_low h0 (fun i hi => (hw i hi).1) t i hi
    have h2 := c_cnt h0 t i hi
    have h3 := hw i hi
    have hpos : 0 ≤ sumW wt := by
      have := c_low h0 (fun i hi => (hw i hi).1) 0 i hi
      rw [c_zero] at this; omega
    have h4 : 0 ≤ cnt wt i t * sumW wt := Int.mul_nonneg (cnt_nonneg _ _ _) hpos
    have h5 : (t : Int) * wOf wt i ≤ 10000 * 100 := Int.mul_le_mul (by omega) h3.2 (by omega) (by omega)
    rw [run_w h0 t i hi]
    show 0 ≤ wOf wt i ∧ wOf wt i ≤ 1000000 ∧ -1000000000000 ≤ cOf wt t i ∧ cOf wt t i ≤ 1000000000000
    omega
  · rw [List.getD_eq_getElem?_getD, List.getElem?_eq_none (by rw [run_len h0]; omega)]
    exact ⟨by decide, by decide, by decide, by decide⟩

/-- The slot of the t-th pick. -/
def slotAt (wt : List Cn) (t : Nat) : Nat := (wt.getD (best wt t) default).slot.toNat
def cntL (wt : List Cn) (s : Nat) : Nat → List Int
  | 0 => List.replicate 4096 0
  | u + 1 => (cntL wt s u).set (slotAt wt (s + u)) ((cntL wt s u).getD (slotAt wt (s + u)) 0 + 1)
theorem cntL_len (wt : List Cn) (s u : Nat) : (cntL wt s u).length = 4096 := by
  induction u with
  | zero => exact List.length_replicate
  | succ u ih => simp only [cntL, List.length_set]; exact ih
theorem set_getI (l : List Int) (i j : Nat) (x : Int) (hi : i < l.length) : (l.set i x).getD j 0 = if i = j then x else l.getD j 0 := by
  rw [List.getD_eq_getElem?_getD, List.getD_eq_getElem?_getD, List.getElem?_set]
  split
  · subst j; simp [hi]
  · rfl
theorem hits_in {wt : List Cn} (h0 : 0 < wt.length) (hs : ∀ i, i < wt.length → 0 ≤ (wt.getD i default).slot ∧ (wt.getD i default).slot ≤ 4095)
    (ha : ∀ i i', i < wt.length → i' < wt.length → (wt.getD i default).slot = (wt.getD i' default).slot → i = i') (s u i : Nat) (hi : i < wt.length) :
    (cntL wt s u).getD (wt.getD i default).slot.toNat 0 = cnt wt i (s + u) - cnt wt i s := by
  induction u with
  | zero => simp only [cntL]; rw [List.getD_eq_getElem?_getD, List.getElem?_replicate]; split <;> simp
  | succ u ih =>
    have hb := best_lt h0 (s + u)
    have h1 := hs _ hb
    have h2 := hs i hi
    simp only [cntL]
    rw [set_getI _ _ _ _ (by rw [cntL_len]; unfold slotAt; omega), show s + (u + 1) = s + u + 1 by omega]
    simp only [cnt]
    by_cases hbi : best wt (s + u) = i
    · rw [if_pos (by unfold slotAt; rw [hbi]), if_pos hbi]
      unfold slotAt; rw [hbi, ih]; omega
    · rw [if_neg (by unfold slotAt; intro he; exact hbi (ha _ _ hb hi (by omega))), if_neg hbi, ih]; omega
theorem hits_out {wt : List Cn} (h0 : 0 < wt.length) (hs : ∀ i, i < wt.length → 0 ≤ (wt.getD i default).slot ∧ (wt.getD i default).slot ≤ 4095)
    (s u x : Nat) (hx : ∀ i, i < wt.length → (wt.getD i default).slot.toNat ≠ x) : (cntL wt s u).getD x 0 = 0 := by
  induction u with
  | zero => simp only [cntL]; rw [List.getD_eq_getElem?_getD, List.getElem?_replicate]; split <;> simp
  | succ u ih =>
    have hb := best_lt h0 (s + u)
    have h1 := hs _ hb
    simp only [cntL]
    rw [set_getI _ _ _ _ (by rw [cntL_len]; unfold slotAt; omega), if_neg (by unfold slotAt; exact hx _ hb), ih]
theorem cntL_bd (wt : List Cn) (s u x : Nat) (h : ∀ t, slotAt wt t < 4096) : 0 ≤ (cntL wt s u).getD x 0 ∧ (cntL wt s u).getD x 0 ≤ u := by
  induction u generalizing x with
  | zero => simp only [cntL]; rw [List.getD_eq_getElem?_getD, List.getElem?_replicate]; split <;> simp
  | succ u ih =>
    simp only [cntL]
    rw [set_getI _ _ _ _ (by rw [cntL_len]; exact h _)]
    split
    · have := ih (slotAt wt (s + u)); omega
    · have := ih x; omega
/-- The picks' states with the first, empty, one. -/
def runK (wt : List Cn) : Nat → List Cr
  | 0 => []
  | t + 1 => run wt (t + 1)
theorem runK_start {wt : List Cn} (h0 : 0 < wt.length) (t : Nat) : startP wt (runK wt t) = run wt t := by
  cases t with
  | zero => exact start_nil h0
  | succ t => exact start_same (run_same h0 (t + 1))
end Go.Proofs.Yteocdobepgbnkaa
