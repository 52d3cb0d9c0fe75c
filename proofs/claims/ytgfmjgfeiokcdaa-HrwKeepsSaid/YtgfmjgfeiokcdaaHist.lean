
/- Histograms by bit lengths: counts as functions, sums, and the place of so many hundredths. Conditions: none. -/
import Derived.Test.YtgfmjgfeiokcdaaJF
import Derived.Test.YtgfmjgfeiokcdaaMath
namespace Go.Proofs.Ytgfmjgfeiokcdaa
open Go.RowKit
/-- The bit length. -/
def bl (x : Nat) : Nat := if x = 0 then 0 else Nat.log2 x + 1
theorem bl_zero : bl 0 = 0 := rfl
theorem bl_step {x : Nat} (h : 0 < x) : bl x = bl (x / 2) + 1 := by
  unfold bl
  rw [if_neg (by omega)]
  by_cases h2 : 2 ≤ x
  · rw [if_neg (by omega), Nat.log2_def x, if_pos (by omega)]
  · obtain rfl : x = 1 := by omega
    decide
theorem bl_shift (s : Nat) : ∀ x, 2 ^ s ≤ x → bl x = s + bl (x / 2 ^ s) := by
  induction s with
  | zero => intro x _; simp
  | succ s ih =>
    intro x hx
    have hp : 0 < 2 ^ s := Nat.pow_pos (by omega)
    rw [Nat.pow_succ] at hx
    rw [bl_step (by omega), ih (x / 2) (by omega), Nat.div_div_eq_div_mul, Nat.pow_succ, Nat.mul_comm 2]
    omega
theorem bl_lt {x s : Nat} (h : x < 2 ^ s) : bl x ≤ s := by
  unfold bl
  split
  · omega
  · rename_i h0
    have := (Nat.log2_lt h0).2 h
    omega
def cum (f : Nat → Nat) : Nat → Nat
  | 0 => 0
  | k + 1 => cum f k + f k
theorem cum_add (f g : Nat → Nat) (k : Nat) : cum (fun j => f j + g j) k = cum f k + cum g k := by
  induction k with
  | zero => rfl
  | succ k ih => simp only [cum]; rw [ih]; omega
theorem cum_one (b k : Nat) : cum (fun j => if b = j then 1 else 0) k = if b < k then 1 else 0 := by
  induction k with
  | zero => simp [cum]
  | succ k ih =>
    simp only [cum]
    rw [ih]
    by_cases h1 : b < k
    · rw [if_pos h1, if_neg (by omega), if_pos (by omega)]
    · by_cases h2 : b = k
      · rw [if_neg h1, if_pos h2, if_pos (by omega)]
      · rw [if_neg h1, if_neg h2, if_neg (by omega)]
theorem cum_mono (f : Nat → Nat) {i k : Nat} (h : i ≤ k) : cum f i ≤ cum f k := by
  induction k with
  | zero => obtain rfl : i = 0 := by omega
            exact Nat.le_refl _
  | succ k ih =>
    rcases Nat.lt_or_ge k i with h1 | h1
    · obtain rfl : i = k + 1 := by omega
      exact Nat.le_refl _
    · have := ih h1
      simp only [cum]
      omega
/-- How many of the first n have a bit length. -/
def cntB (l : List Nat) : Nat → Nat → Nat
  | 0, _ => 0
  | n + 1, j => cntB l n j + (if bl (l.getD n 0) = j then 1 else 0)
/-- How many of the first n have no greater one. -/
def leN (l : List Nat) (k : Nat) : Nat → Nat
  | 0 => 0
  | n + 1 => leN l k n + (if bl (l.getD n 0) ≤ k then 1 else 0)
theorem cum_nil (k : Nat) : cum (fun _ => 0) k = 0 := by
  induction k with
  | zero => rfl
  | succ k ih => simp only [cum]; omega
theorem cum_cnt (l : List Nat) (n k : Nat) : cum (cntB l n) (k + 1) = leN l k n := by
  induction n with
  | zero => exact cum_nil _
  | succ n ih =>
    show cum (fun j => cntB l n j + (if bl (l.getD n 0) = j then 1 else 0)) (k + 1) = leN l k n + _
    rw [cum_add (cntB l n) (fun j => if bl (l.getD n 0) = j then 1 else 0), ih, cum_one]
    by_cases h : bl (l.getD n 0) ≤ k
    · rw [if_pos (by omega), if_pos h]
    · rw [if_neg (by omega), if_neg h]
theorem le_all {l : List Nat} {k : Nat} (n : Nat) (h : ∀ i, i < n → bl (l.getD i 0) ≤ k) : leN l k n = n := by
  induction n with
  | zero => rfl
  | succ n ih =>
    simp only [leN]
    rw [ih (fun i hi => h i (by omega)), if_pos (h n (by omega))]
theorem cnt_le (l : List Nat) (n j : Nat) : cntB l n j ≤ n := by
  induction n with
  | zero => exact Nat.le_refl _
  | succ n ih =>
    simp only [cntB]
    split <;> omega
theorem cnt_app (l m : List Nat) (n j : Nat) : cntB (l ++ m) (l.length + n) j = cntB l l.length j + cntB m n j := by
  have h1 : ∀ k, k ≤ l.length → cntB (l ++ m) k j = cntB l k j := by
    intro k
    induction k with
    | zero => intro _; rfl
    | succ k ih =>
      intro hk
      simp only [cntB]
      rw [ih (by omega), List.getD_eq_getElem?_getD, List.getElem?_append_left (by omega), ← List.getD_eq_getElem?_getD]
  induction n with
  | zero => exact h1 _ (Nat.le_refl _)
  | succ n ih =>
    have h2 : (l ++ m).getD (l.length + n) 0 = m.getD n 0 := by
      rw [List.getD_eq_getElem?_getD, List.getElem?_append_right (by omega), Nat.add_sub_cancel_left, ← List.getD_eq_getElem?_getD]
    rw [show l.length + (n + 1) = l.length + n + 1 by omega]
    simp only [cntB]
    rw [ih, h2]
    omega
/-- How many are to lie below. -/
def needP (n p : Nat) : Nat := max ((n * p + 99) / 100) 1
theorem need_split (n p : Nat) : n / 100 * p + (n % 100 * p + 99) / 100 = (n * p + 99) / 100 := by
  have h : n * p = 100 * (n / 100 * p) + n % 100 * p := by
    conv => lhs; rw [← Nat.div_add_mod n 100]
    rw [Nat.add_mul, Nat.mul_assoc]
  rw [h]
  generalize n / 100 * p = x
  generalize n % 100 * p = y
  omega
theorem need_le {n p : Nat} (h0 : 0 < n) (hp : p ≤ 100) : needP n p ≤ n := by
  unfold needP
  have : n * p ≤ n * 100 := Nat.mul_le_mul_left _ hp
  omega
/-- The bit length up to which so many lie. -/
def AtK (f : Nat → Nat) (need k : Nat) : Prop := cum f k < need ∧ need ≤ cum f (k + 1)
theorem AtK.uniq {f : Nat → Nat} {need i k : Nat} (h : AtK f need i) (g : AtK f need k) : i = k := by
  rcases Nat.lt_trichotomy i k with h1 | h1 | h1
  · have := cum_mono f (show i + 1 ≤ k by omega)
    have := h.2; have := g.1; omega
  · exact h1
  · have := cum_mono f (show k + 1 ≤ i by omega)
    have := g.2; have := h.1; omega
/-- The counts' cells. -/
def hL (f : Nat → Nat) : List Value := (List.range 65).map fun j => u64v (f j)
theorem hL_len (f : Nat → Nat) : (hL f).length = 65 := by simp [hL]
theorem hL_get (f : Nat → Nat) {j : Nat} (h : j < 65) : (hL f)[j]? = some (u64v (f j)) := by
  unfold hL
  rw [List.getElem?_map, List.getElem?_range h]; rfl
theorem hL_set (f : Nat → Nat) {j v : Nat} : (hL f).set j (u64v v) = hL (fun i => if i = j then v else f i) := by
  apply List.ext_getElem (by rw [List.length_set, hL_len, hL_len])
  intro i h1 h2
  rw [List.getElem_set]
  simp only [hL, List.getElem_map, List.getElem_range]
  split
  · subst j; rw [if_pos rfl]
  · rw [if_neg (by omega)]
theorem hL_congr {f g : Nat → Nat} (h : ∀ j, j < 65 → f j = g j) : hL f = hL g := by
  unfold hL
  apply List.map_congr_left
  intro i hi
  rw [h i (List.mem_range.1 hi)]
end Go.Proofs.Ytgfmjgfeiokcdaa
