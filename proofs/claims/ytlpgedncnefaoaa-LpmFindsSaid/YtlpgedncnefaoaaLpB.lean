
/- lpm: masks as quotients; a byte of which the first bits are kept. Conditions: none. -/
import Derived.Test.YtlpgedncnefaoaaLpA
namespace Go.Proofs.Ytlpgedncnefaoaa
open Go.RowKit
theorem xor_low (x k : Nat) : x ^^^ (x % 2 ^ k) = x / 2 ^ k * 2 ^ k := by
  have h1 : x / 2 ^ k * 2 ^ k = (x >>> k) <<< k := by rw [Nat.shiftLeft_eq, Nat.shiftRight_eq_div_pow]
  rw [h1]
  apply Nat.eq_of_testBit_eq
  intro i
  rw [Nat.testBit_xor, Nat.testBit_mod_two_pow, Nat.testBit_shiftLeft, Nat.testBit_shiftRight]
  by_cases hi : i < k
  · rw [decide_eq_true hi, decide_eq_false (by omega : ¬ i ≥ k)]; simp
  · rw [decide_eq_false hi, decide_eq_true (by omega : i ≥ k), show k + (i - k) = i by omega]; simp
theorem fst64_eq {n : Nat} (hn : n ≤ 64) : fst64 n = 18446744073709551615 ^^^ (2 ^ (64 - n) - 1) := by
  have hd : 18446744073709551615 / 2 ^ n = 2 ^ (64 - n) - 1 := by
    have : ∀ n : Fin 65, 18446744073709551615 / 2 ^ n.val = 2 ^ (64 - n.val) - 1 := by decide +kernel
    exact this ⟨n, by omega⟩
  unfold fst64
  rw [hd, xor_ones64]
  have := Nat.pow_le_pow_right (n := 2) (by decide) (show 64 - n ≤ 64 by omega)
  have := Nat.two_pow_pos (64 - n)
  omega
theorem and_fst64 {x n : Nat} (hx : x < 2 ^ 64) (hn : n ≤ 64) : x &&& fst64 n = x / 2 ^ (64 - n) * 2 ^ (64 - n) := by
  rw [fst64_eq hn, Nat.and_xor_distrib_left, show (18446744073709551615 : Nat) = 2 ^ 64 - 1 from rfl, Nat.and_two_pow_sub_one_eq_mod, Nat.and_two_pow_sub_one_eq_mod, Nat.mod_eq_of_lt hx]
  exact xor_low _ _
/-- A byte of which the first h bits are kept, when j bits were looked at. -/
def kb (h j x : Nat) : Nat := if j ≤ h then x else x / 2 ^ (8 - h) * 2 ^ (8 - h) + x % 2 ^ (8 - j)
theorem kb_all : ∀ (x : Fin 256) (h : Fin 9) (j : Fin 8), kb h.val j.val x.val < 256 ∧ (j.val < h.val → kb h.val (j.val + 1) x.val = kb h.val j.val x.val) ∧ (h.val ≤ j.val → kb h.val j.val x.val / 2 ^ (7 - j.val) % 2 ≠ 1 → kb h.val (j.val + 1) x.val = kb h.val j.val x.val) ∧
    (h.val ≤ j.val → kb h.val j.val x.val / 2 ^ (7 - j.val) % 2 = 1 → 2 ^ (7 - j.val) ≤ kb h.val j.val x.val ∧ kb h.val (j.val + 1) x.val = kb h.val j.val x.val - 2 ^ (7 - j.val)) := by decide +kernel
theorem kb_0 (h x : Nat) : kb h 0 x = x := if_pos (Nat.zero_le _)
theorem kb_8 {h x : Nat} (hh : h ≤ 8) : kb h 8 x = x / 2 ^ (8 - h) * 2 ^ (8 - h) := by
  unfold kb
  by_cases h8 : h = 8
  · rw [if_pos (by omega), h8]; simp
  · rw [if_neg (by omega)]; simp [Nat.mod_one]
end Go.Proofs.Ytlpgedncnefaoaa
