
/- The least loaded one, as the program finds it and as the reference does. Conditions: none but bounds. -/
import Derived.Test.YteocdobepgbnkaaLeastP
import Derived.Test.YteocdobepgbnkaaSmoothG
namespace Go.Proofs.Yteocdobepgbnkaa
open Go.RowKit
/-- The first one with the least load, of the first k. -/
def FirstLeast (l : List Cn) (k b : Nat) : Prop := b < k ∧ ∀ i, i < k → (l.getD b default).load ≤ (l.getD i default).load ∧ (i < b → (l.getD b default).load < (l.getD i default).load)
theorem FirstLeast.uniq {l : List Cn} {k a b : Nat} (h : FirstLeast l k a) (g : FirstLeast l k b) : a = b := by
  rcases Nat.lt_trichotomy a b with h1 | h1 | h1
  · have := (g.2 a h.1).2 h1; have := (h.2 b g.1).1; omega
  · exact h1
  · have := (h.2 b g.1).2 h1; have := (g.2 a h.1).1; omega
theorem FirstLeast.stay {l : List Cn} {k b : Nat} (h : FirstLeast l k b) (hle : (l.getD b default).load ≤ (l.getD k default).load) : FirstLeast l (k + 1) b := by
  refine ⟨by have := h.1; omega, fun i hi => ?_⟩
  by_cases hik : i = k
  · subst hik; exact ⟨hle, fun h1 => absurd h1 (by have := h.1; omega)⟩
  · exact h.2 i (by omega)
theorem FirstLeast.go {l : List Cn} {k b : Nat} (h : FirstLeast l k b) (hlt : (l.getD k default).load < (l.getD b default).load) : FirstLeast l (k + 1) k := by
  refine ⟨by omega, fun i hi => ?_⟩
  by_cases hik : i = k
  · subst hik; exact ⟨Int.le_refl _, fun h1 => by omega⟩
  · have := h.2 i (by omega)
    exact ⟨by omega, fun _ => by omega⟩
theorem FirstLeast.one (l : List Cn) : FirstLeast l 1 0 := by
  refine ⟨by omega, fun i hi => ?_⟩
  obtain rfl : i = 0 := by omega
  exact ⟨Int.le_refl _, fun h1 => by omega⟩
theorem bst_first {l : List Cn} {n : Nat} (hR : RightT l n) : ∀ k, 0 < k → k ≤ n → ∃ b, FirstLeast l k b ∧ bstC l k = l.getD b default := by
  intro k
  induction k with
  | zero => intro h; omega
  | succ k ih =>
    intro _ hk
    rcases Nat.eq_zero_or_pos k with rfl | h0
    · refine ⟨0, FirstLeast.one l, ?_⟩
      show (if LessC _ _ then _ else _) = _
      split
      · rfl
      · rfl
    · obtain ⟨b, hb, e⟩ := ih h0 (by omega)
      show ∃ b, _ ∧ (if LessC _ _ then _ else _) = _
      rw [e]
      have hs := right_inc hR b k hb.1 (by omega)
      by_cases hlt : LessC (l.getD k default) (l.getD b default)
      · rw [if_pos hlt]
        refine ⟨k, hb.go ?_, rfl⟩
        unfold LessC at hlt
        omega
      · rw [if_neg hlt]
        refine ⟨b, hb.stay ?_, rfl⟩
        unfold LessC at hlt
        omega
theorem bst_is {l : List Cn} {n b : Nat} (hR : RightT l n) (h : FirstLeast l n b) : bstC l n = l.getD b default := by
  obtain ⟨b', hb', e⟩ := bst_first hR n (by have := h.1; omega) (Nat.le_refl _)
  rw [e, hb'.uniq h]
end Go.Proofs.Yteocdobepgbnkaa
