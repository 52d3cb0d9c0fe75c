
/- Whom turns choose, as a function of the candidates and the position; that turns go around. -/
import Derived.Test.YtakmcbgfglnanaaTurn
namespace Go.Proofs.Ytakmcbgfglnanaa
open Go.RowKit

/-- The first candidate from a position on, or else the first one. -/
def pickN (l : List Cd) (next : Int) : Nat := (l.findIdx? (fun c => decide (next ≤ c.slot))).getD 0
theorem pickN_hit (l : List Cd) (next : Int) (k : Nat) (hk : k < l.length) (hlo : ∀ j, j < k → (cdAt l j).slot < next) (h : next ≤ (cdAt l k).slot) : pickN l next = k := by
  unfold pickN
  have e : l.findIdx? (fun c => decide (next ≤ c.slot)) = some k := by
    rw [List.findIdx?_eq_some_iff_getElem]
    refine ⟨hk, ?_, ?_⟩
    · have := cdAt_get l k hk
      rw [List.getElem?_eq_getElem hk] at this
      injection this with this
      rw [this]; simpa using h
    · intro j hj
      have h1 := cdAt_get l j (by omega)
      rw [List.getElem?_eq_getElem (show j < l.length by omega)] at h1
      injection h1 with h1
      have := hlo j hj
      rw [h1]; simp; omega
  rw [e]; rfl
theorem pickN_none (l : List Cd) (next : Int) (hlo : ∀ j, j < l.length → (cdAt l j).slot < next) : pickN l next = 0 := by
  unfold pickN
  have e : l.findIdx? (fun c => decide (next ≤ c.slot)) = none := by
    rw [List.findIdx?_eq_none_iff]
    intro x hx
    obtain ⟨j, hj, rfl⟩ := List.getElem_of_mem hx
    have h1 := cdAt_get l j hj
    rw [List.getElem?_eq_getElem hj] at h1
    injection h1 with h1
    have := hlo j hj
    rw [h1]; simp; omega
  rw [e]; rfl
theorem pickN_lt (l : List Cd) (next : Int) (h : 0 < l.length) : pickN l next < l.length := by
  unfold pickN
  cases e : l.findIdx? (fun c => decide (next ≤ c.slot)) with
  | none => simpa using h
  | some k => exact (List.findIdx?_eq_some_iff_getElem.1 e).1

/-- Slots rise strictly, from 0 to 4095. -/
def Rising (l : List Cd) : Prop := (∀ j, j < l.length → 0 ≤ (cdAt l j).slot ∧ (cdAt l j).slot ≤ 4095) ∧ ∀ i j, i < j → j < l.length → (cdAt l i).slot < (cdAt l j).slot
theorem rightB_rising (l : List Cd) : ∀ z, rightB z l = true → (∀ j, j < l.length → z < (cdAt l j).slot ∧ (cdAt l j).slot ≤ 4095) ∧ (∀ i j, i < j → j < l.length → (cdAt l i).slot < (cdAt l j).slot) := by
  induction l with
  | nil => intro z _; exact ⟨fun j hj => by simp at hj, fun i j _ hj => by simp at hj⟩
  | cons p l ih =>
    intro z h
    unfold rightB at h
    split at h
    · cases h
    · next hb =>
      obtain ⟨h1, h2⟩ := ih _ h
      have e0 : cdAt (p :: l) 0 = p := rfl
      have es : ∀ j, cdAt (p :: l) (j + 1) = cdAt l j := fun j => rfl
      refine ⟨fun j hj => ?_, fun i j hij hj => ?_⟩
      · cases j with
        | zero => rw [e0]; omega
        | succ j => rw [es]; have := h1 j (by simpa using hj); omega
      · cases j with
        | zero => omega
        | succ j =>
          rw [es]
          cases i with
          | zero => rw [e0]; exact (h1 j (by simpa using hj)).1
          | succ i => rw [es]; exact h2 i j (by omega) (by simpa using hj)
theorem rising_of (l : List Cd) (h : rightB (-1) l = true) : Rising l := by
  obtain ⟨h1, h2⟩ := rightB_rising l (-1) h
  exact ⟨fun j hj => by have := h1 j hj; omega, h2⟩
theorem Rising.inj {l : List Cd} (h : Rising l) {i j : Nat} (hi : i < l.length) (hj : j < l.length) (e : (cdAt l i).slot = (cdAt l j).slot) : i = j := by
  rcases Nat.lt_trichotomy i j with h1 | h1 | h1
  · have := h.2 i j h1 hj; omega
  · exact h1
  · have := h.2 j i h1 hi; omega
/-- Behind one, the next one is chosen; behind the last one, the first. -/
theorem pickN_next {l : List Cd} (h : Rising l) {i : Nat} (hi : i < l.length) : pickN l ((cdAt l i).slot + 1) = (i + 1) % l.length := by
  by_cases hl : i + 1 < l.length
  · rw [Nat.mod_eq_of_lt hl]
    refine pickN_hit l _ (i + 1) hl (fun j hj => ?_) (by have := h.2 i (i + 1) (by omega) hl; omega)
    rcases Nat.lt_or_ge j i with h1 | h1
    · have := h.2 j i h1 hi; omega
    · have : j = i := by omega
      subst this; omega
  · have e : i + 1 = l.length := by omega
    rw [e, Nat.mod_self]
    refine pickN_none l _ fun j hj => ?_
    rcases Nat.lt_or_ge j i with h1 | h1
    · have := h.2 j i h1 hi; omega
    · have : j = i := by omega
      subst this; omega
theorem mod_step (a n : Nat) : (a % n + 1) % n = (a + 1) % n := by rw [Nat.mod_add_mod]
theorem mod_ne {a j k n : Nat} (hj : j < k) (hk : k < n) : (a + j) % n ≠ (a + k) % n := by
  intro e
  have h1 := Nat.sub_mod_eq_zero_of_mod_eq e.symm
  rw [show a + k - (a + j) = k - j by omega, Nat.mod_eq_of_lt (by omega)] at h1
  omega

/-- What has been seen. -/
def seenV (S : Nat → Bool) : List Value := (List.range 4096).map fun i => .bool (S i)
theorem seenV_get (S : Nat → Bool) (j : Nat) (h : j < 4096) : (seenV S)[j]? = some (.bool (S j)) := by
  unfold seenV
  rw [List.getElem?_map, List.getElem?_range h]; rfl
theorem seenV_set (S : Nat → Bool) (j : Nat) : (seenV S).set j (.bool true) = seenV (fun i => if i = j then true else S i) := by
  unfold seenV
  apply List.ext_getElem?
  intro i
  rw [List.getElem?_set]
  simp only [List.length_map, List.length_range, List.getElem?_map]
  by_cases hi : i < 4096
  · rw [List.getElem?_range hi]
    by_cases e : j = i
    · subst e; simp [hi]
    · have e2 : ¬ i = j := fun h => e h.symm
      simp [e, e2]
  · rw [List.getElem?_eq_none (by simp; omega)]
    by_cases e : j = i
    · subst e; simp [hi]
    · simp [e]
theorem seenV_zero : List.replicate 4096 (Value.bool false) = seenV (fun _ => false) := by
  unfold seenV
  apply List.ext_getElem?
  intro i
  rw [List.getElem?_replicate, List.getElem?_map]
  by_cases hi : i < 4096
  · rw [List.getElem?_range hi]; simp [hi]
  · rw [List.getElem?_eq_none (by simp; omega)]; simp [hi]
/-- After k picks from place p on. -/
def SeenI (l : List Cd) (p k : Nat) (S : Nat → Bool) : Prop := ∀ i, S i = true → ∃ j, j < k ∧ (i : Int) = (cdAt l ((p + j) % l.length)).slot
theorem SeenI.start (l : List Cd) (p : Nat) : SeenI l p 0 (fun _ => false) := fun i h => by cases h
theorem SeenI.fresh {l : List Cd} {p k : Nat} {S : Nat → Bool} (h : SeenI l p k S) (hr : Rising l) (hk : k < l.length) {s : Nat} (hs : (s : Int) = (cdAt l ((p + k) % l.length)).slot) : S s = false := by
  cases e : S s with
  | false => rfl
  | true =>
    obtain ⟨j, hj, hjs⟩ := h s e
    rw [hs] at hjs
    have := hr.inj (Nat.mod_lt _ (by omega)) (Nat.mod_lt _ (by omega)) hjs
    exact absurd this.symm (mod_ne hj hk)
theorem SeenI.step {l : List Cd} {p k : Nat} {S : Nat → Bool} (h : SeenI l p k S) {s : Nat} (hs : (s : Int) = (cdAt l ((p + k) % l.length)).slot) : SeenI l p (k + 1) (fun i => if i = s then true else S i) := by
  intro i hi
  by_cases e : i = s
  · subst e; exact ⟨k, by omega, hs⟩
  · simp only [e, if_false] at hi
    obtain ⟨j, hj, hjs⟩ := h i hi
    exact ⟨j, by omega, hjs⟩
end Go.Proofs.Ytakmcbgfglnanaa
