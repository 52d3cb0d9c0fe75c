
/- lpm: the reference's Cut, by contract. Conditions: none but bounds. -/
import Derived.Test.YtlpgedncnefaoaaLpB
import Derived.Test.YtlpgedncnefaoaaSet
namespace Go.Proofs.Ytlpgedncnefaoaa
open Go.ChangeShapes Go.WideShapes Go.ChangeAt Go.RowKit
def hpB (m p : Nat) : Nat := min (m - 8 * p) 8
def kbV (l : List Nat) (m i j p : Nat) : Nat := if p < i then kb (hpB m p) 8 (nth l p) else if p = i then kb (hpB m p) j (nth l p) else nth l p
/-- The bytes, when those before place i and j bits of that at i were looked at. -/
def kbL (l : List Nat) (m i j : Nat) : List Nat := (List.range l.length).map (kbV l m i j)
theorem kbL_len (l : List Nat) (m i j : Nat) : (kbL l m i j).length = l.length := by unfold kbL; rw [List.length_map, List.length_range]
theorem kbL_nth {l : List Nat} {m i j p : Nat} (h : p < l.length) : nth (kbL l m i j) p = kbV l m i j p := by
  unfold nth kbL
  rw [List.getD_eq_getElem?_getD, List.getElem?_map, List.getElem?_range h]
  rfl
theorem kbL_get {l : List Nat} {m i j p : Nat} (h : p < (kbL l m i j).length) : (kbL l m i j)[p] = kbV l m i j p := by
  simp [kbL]
theorem kbL_ext {l : List Nat} {m i j i' j' : Nat} (h : ∀ p, kbV l m i j p = kbV l m i' j' p) : kbL l m i j = kbL l m i' j' := by
  unfold kbL
  exact List.map_congr_left fun p _ => h p
theorem kbL_row (l : List Nat) (m i : Nat) : kbL l m i 8 = kbL l m (i + 1) 0 := kbL_ext fun p => by
  unfold kbV
  by_cases h1 : p < i
  · rw [if_pos h1, if_pos (by omega)]
  · by_cases h2 : p = i
    · rw [if_neg h1, if_pos h2, if_pos (by omega)]
    · rw [if_neg h1, if_neg h2, if_neg (by omega)]
      by_cases h3 : p = i + 1
      · rw [if_pos h3, kb_0]
      · rw [if_neg h3]
theorem kbL_zero {l : List Nat} (m : Nat) : kbL l m 0 0 = l := by
  apply List.ext_getElem
  · exact kbL_len _ _ _ _
  · intro p h1 h2
    rw [kbL_get]
    unfold kbV
    rw [if_neg (by omega)]
    have e : nth l p = l[p] := by unfold nth; rw [List.getD_eq_getElem?_getD, List.getElem?_eq_getElem h2]; rfl
    by_cases h3 : p = 0
    · rw [if_pos h3, kb_0, e]
    · rw [if_neg h3, e]
theorem kbL_set {l : List Nat} {m i j x : Nat} (h : i < l.length) (hx : kb (hpB m i) (j + 1) (nth l i) = x) : splice (kbL l m i j) i [x] = kbL l m i (j + 1) := by
  have e : splice (kbL l m i j) i [x] = (kbL l m i j).set i x := by
    unfold splice
    rw [List.set_eq_take_append_cons_drop, if_pos (by rw [kbL_len]; exact h)]
    simp
  rw [e]
  apply List.ext_getElem
  · rw [List.length_set, kbL_len, kbL_len]
  · intro p h1 h2
    rw [List.getElem_set, kbL_get, kbL_get]
    unfold kbV
    by_cases hp : i = p
    · subst hp
      rw [if_pos rfl, if_neg (by omega), if_pos rfl, hx]
    · rw [if_neg hp]
      by_cases h3 : p < i
      · rw [if_pos h3, if_pos h3]
      · rw [if_neg h3, if_neg h3, if_neg (fun h => hp h.symm), if_neg (fun h => hp h.symm)]
theorem kb_step {l : List Nat} (hb : Bytes l) (m i j : Nat) (hj : j < 8) : kb (hpB m i) j (nth l i) < 256 ∧ (8 * i + j < m → kb (hpB m i) (j + 1) (nth l i) = kb (hpB m i) j (nth l i)) ∧ (m ≤ 8 * i + j → kb (hpB m i) j (nth l i) / 2 ^ (7 - j) % 2 ≠ 1 → kb (hpB m i) (j + 1) (nth l i) = kb (hpB m i) j (nth l i)) ∧
    (m ≤ 8 * i + j → kb (hpB m i) j (nth l i) / 2 ^ (7 - j) % 2 = 1 → 2 ^ (7 - j) ≤ kb (hpB m i) j (nth l i) ∧ kb (hpB m i) (j + 1) (nth l i) = kb (hpB m i) j (nth l i) - 2 ^ (7 - j)) := by
  have hx := nth_lt hb i
  have hh : hpB m i < 9 := by unfold hpB; omega
  obtain ⟨a1, a2, a3, a4⟩ := kb_all ⟨nth l i, hx⟩ ⟨hpB m i, hh⟩ ⟨j, hj⟩
  exact ⟨a1, fun h => a2 (by show j < hpB m i; unfold hpB; omega), fun h => a3 (by show hpB m i ≤ j; unfold hpB; omega), fun h => a4 (by show hpB m i ≤ j; unfold hpB; omega)⟩
theorem kbL_same {l : List Nat} {m i j : Nat} (h : kb (hpB m i) (j + 1) (nth l i) = kb (hpB m i) j (nth l i)) : kbL l m i (j + 1) = kbL l m i j := kbL_ext fun p => by
  unfold kbV
  by_cases h1 : p < i
  · rw [if_pos h1, if_pos h1]
  · by_cases h2 : p = i
    · subst h2; rw [if_neg h1, if_pos rfl, if_neg h1, if_pos rfl, h]
    · rw [if_neg h1, if_neg h2, if_neg h1, if_neg h2]
end Go.Proofs.Ytlpgedncnefaoaa
