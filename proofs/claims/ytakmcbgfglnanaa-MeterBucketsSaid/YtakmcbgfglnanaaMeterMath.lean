
/- The bound on what comes through a bucket, as arithmetic: an invariant of the calls. Conditions: none. -/
import Derived.Test.YtakmcbgfglnanaaMeter
namespace Go.Proofs.Ytakmcbgfglnanaa
open Go.RowKit

/-- What is taken since each take, and what is left, is at most the size and the rate times the stretch. -/
def MInv (R S lv x : Nat) (tl nl : List Nat) : Prop :=
  tl.length = nl.length ∧ lv ≤ S ∧ (∀ n ∈ nl, n < 100000) ∧ ∀ j, j < nl.length → nth tl j ≤ x ∧ (nl.drop j).sum + lv ≤ S + R * (x - nth tl j)
theorem MInv.start (R S : Nat) : MInv R S S 0 [] [] := ⟨rfl, Nat.le_refl _, by simp, by simp⟩
theorem MInv.fill {R S lv x x' : Nat} {tl nl : List Nat} (h : MInv R S lv x tl nl) (hx : x ≤ x') : MInv R S (refL R S lv x x') x' tl nl := by
  obtain ⟨h1, h2, h3, h4⟩ := h
  refine ⟨h1, refL_le h2, h3, fun j hj => ?_⟩
  obtain ⟨h5, h6⟩ := h4 j hj
  refine ⟨by omega, ?_⟩
  have e : R * (x' - nth tl j) = R * (x - nth tl j) + R * (x' - x) := by rw [← Nat.mul_add]; congr 1; omega
  have hm : R * min (x' - x) 2147483648 ≤ R * (x' - x) := Nat.mul_le_mul_left _ (by omega)
  rw [e]
  unfold refL
  split <;> omega
theorem MInv.take {R S lv x n : Nat} {tl nl : List Nat} (h : MInv R S lv x tl nl) (hn : n ≤ lv) (hb : n < 100000) : MInv R S (lv - n) x (tl ++ [x]) (nl ++ [n]) := by
  obtain ⟨h1, h2, h3, h4⟩ := h
  refine ⟨by simp [h1], by omega, ?_, fun j hj => ?_⟩
  · intro m hm
    rcases List.mem_append.1 hm with hm | hm
    · exact h3 m hm
    · simp at hm; omega
  · rcases Nat.lt_or_ge j nl.length with hj' | hj'
    · obtain ⟨h5, h6⟩ := h4 j hj'
      have e : nth (tl ++ [x]) j = nth tl j := by unfold nth; rw [List.getD_eq_getElem?_getD, List.getD_eq_getElem?_getD, List.getElem?_append_left (by omega)]
      rw [e]
      refine ⟨h5, ?_⟩
      rw [List.drop_append_of_le_length (by omega), List.sum_append]
      simp
      omega
    · have hj2 : j = nl.length := by simp at hj; omega
      subst hj2
      have e : nth (tl ++ [x]) nl.length = x := by unfold nth; rw [List.getD_eq_getElem?_getD, ← h1]; simp
      rw [e]
      simp
      omega
theorem sum_le_len (l : List Nat) (h : ∀ n ∈ l, n < 100000) : l.sum ≤ 100000 * l.length := by
  induction l with
  | nil => simp
  | cons a l ih =>
    have h1 := h a (by simp)
    have h2 := ih fun n hn => h n (by simp [hn])
    simp
    omega
theorem MInv.sum_le {R S lv x : Nat} {tl nl : List Nat} (h : MInv R S lv x tl nl) (j : Nat) : (nl.drop j).sum ≤ 100000 * nl.length := by
  have h1 := sum_le_len (nl.drop j) fun n hn => h.2.2.1 n (List.mem_of_mem_drop hn)
  have h2 : (nl.drop j).length ≤ nl.length := by simp
  omega
theorem drop_sum (nl : List Nat) (j : Nat) (h : j < nl.length) : (nl.drop j).sum = nth nl j + (nl.drop (j + 1)).sum := by
  have e : nth nl j = nl[j] := by unfold nth; rw [List.getD_eq_getElem?_getD, List.getElem?_eq_getElem h]; rfl
  rw [e, List.drop_eq_getElem_cons h, List.sum_cons]

set_option maxRecDepth 100000 in
theorem meter_awake_c (w : World) : Calls Try.prog 24 #[] w fun e w' => e = .returned (.bool true) ∧ Below w.heap.size w w' := by
  go_enter Try.func24, Try.ntmps24
  go_wp2_with fail
  refine (new_c 1 2 w (by omega) (by omega) (by omega)).mono ?_
  rintro e w1 ⟨g, rfl, hg, hB, hbel⟩
  have hgs : w.heap.size ≤ w1.heap.size := hbel.size
  go_wp2_with fail
  refine (bkt_take_c g 1 2 2 0 2 0 w1 hB (by omega) (by omega) (by omega) (U64.of (by omega)) (U64.of (by omega))).mono ?_
  rintro e w2 (⟨h0, _⟩ | ⟨_, rfl, hB2, hM2⟩)
  · exact absurd h0 (by decide)
  have hbel2 := Below.mod hbel hM2 hg hbel.size
  rw [show refL 1 2 2 0 0 - 2 = 0 by decide, show max 0 0 = 0 by decide] at hB2
  go_wp2_with fail
  refine (bkt_take_c g 1 2 0 0 1 0 w2 hB2 (by omega) (by omega) (by omega) (U64.of (by omega)) (U64.of (by omega))).mono ?_
  rintro e w3 (⟨_, rfl, hB3, hM3⟩ | ⟨h0, _⟩)
  rotate_left
  · exact absurd h0 (by decide)
  have hbel3 := Below.mod hbel2 hM3 hg hbel2.size
  rw [show refL 1 2 0 0 0 = 0 by decide, show max 0 0 = 0 by decide] at hB3
  go_wp2_with fail
  refine (bkt_take_c g 1 2 0 0 1 1 w3 hB3 (by omega) (by omega) (by omega) (U64.of (by omega)) (U64.of (by omega))).mono ?_
  rintro e w4 (⟨h0, _⟩ | ⟨_, rfl, hB4, hM4⟩)
  · exact absurd h0 (by decide)
  have hbel4 := Below.mod hbel3 hM4 hg hbel3.size
  go_wp2
  go_ret
  exact ⟨rfl, hbel4⟩
end Go.Proofs.Ytakmcbgfglnanaa
