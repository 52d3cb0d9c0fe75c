
/- lpm: addresses by their bits. Any program. -/
import Derived.Test.YtlpgedncnefaoaaLpM
namespace Go.Proofs.Ytlpgedncnefaoaa
open Go.RowKit
theorem fst64_bit : ∀ n : Fin 65, ∀ j : Fin 64, (fst64 n.val).testBit j.val = decide (64 - n.val ≤ j.val) := by decide +kernel
theorem fst64_bit' {n j : Nat} (hn : n ≤ 64) (hj : j < 64) : (fst64 n).testBit j = decide (64 - n ≤ j) := fst64_bit ⟨n, by omega⟩ ⟨j, hj⟩
theorem div_bit (x k : Nat) : x / 2 ^ k % 2 = (x.testBit k).toNat := by
  rw [Nat.testBit_eq_decide_div_mod_eq]
  have : x / 2 ^ k % 2 < 2 := Nat.mod_lt _ (by omega)
  by_cases h : x / 2 ^ k % 2 = 1
  · simp [h]
  · have h0 : x / 2 ^ k % 2 = 0 := by omega
    simp [h0]
theorem and_fst (x n k : Nat) (hn : n ≤ 64) (hk : k < 64) : (x &&& fst64 n) / 2 ^ (63 - k) % 2 = if k < n then x / 2 ^ (63 - k) % 2 else 0 := by
  rw [div_bit, div_bit, Nat.testBit_and, fst64_bit' hn (by omega)]
  by_cases h : k < n
  · rw [if_pos h, show decide (64 - n ≤ 63 - k) = true from decide_eq_true (by omega), Bool.and_true]
  · rw [if_neg h, show decide (64 - n ≤ 63 - k) = false from decide_eq_false (by omega), Bool.and_false]
    rfl
theorem pbit_cut (a : Ad) (n i : Nat) (hn : n ≤ adBits a) (hi : i < adBits a) : pbit (cutM a n) i = if i < n then pbit a i else 0 := by
  obtain ⟨six, high, low⟩ := a
  cases six with
  | false =>
    have hi' : i < 32 := hi
    have hn' : n ≤ 32 := hn
    have h := and_fst low (32 + n) (32 + i) (by omega) (by omega)
    rw [show 63 - (32 + i) = 31 - i from by omega] at h
    show (low &&& fst64 (32 + n)) / 2 ^ (31 - i) % 2 = if i < n then low / 2 ^ (31 - i) % 2 else 0
    rw [h]
    by_cases hlt : i < n
    · rw [if_pos hlt, if_pos (by omega)]
    · rw [if_neg hlt, if_neg (by omega)]
  | true =>
    have hi' : i < 128 := hi
    have hn' : n ≤ 128 := hn
    show (if i < 64 then (high &&& fst64 (min n 64)) / 2 ^ (63 - i) % 2 else (low &&& fst64 (n - 64)) / 2 ^ (127 - i) % 2) = if i < n then (if i < 64 then high / 2 ^ (63 - i) % 2 else low / 2 ^ (127 - i) % 2) else 0
    by_cases h64 : i < 64
    · rw [if_pos h64, if_pos h64, and_fst high (min n 64) i (by omega) h64]
      by_cases hlt : i < n
      · rw [if_pos hlt, if_pos (by omega)]
      · rw [if_neg hlt, if_neg (by omega)]
    · have h := and_fst low (n - 64) (i - 64) (by omega) (by omega)
      rw [show 63 - (i - 64) = 127 - i from by omega] at h
      rw [if_neg h64, if_neg h64, h]
      by_cases hlt : i < n
      · rw [if_pos hlt, if_pos (by omega)]
      · rw [if_neg hlt, if_neg (by omega)]
theorem ext_bits (x y N : Nat) (hx : x < 2 ^ N) (hy : y < 2 ^ N) (h : ∀ i, i < N → x / 2 ^ (N - 1 - i) % 2 = y / 2 ^ (N - 1 - i) % 2) : x = y := by
  refine Nat.eq_of_testBit_eq fun j => ?_
  rcases Nat.lt_or_ge j N with hj | hj
  · have := h (N - 1 - j) (by omega)
    rw [show N - 1 - (N - 1 - j) = j from by omega, div_bit, div_bit] at this
    cases hb : x.testBit j <;> cases hc : y.testBit j <;> simp_all
  · rw [Nat.testBit_lt_two_pow (Nat.lt_of_lt_of_le hx (Nat.pow_le_pow_right (by omega) hj)), Nat.testBit_lt_two_pow (Nat.lt_of_lt_of_le hy (Nat.pow_le_pow_right (by omega) hj))]
theorem ad_ext (a b : Ad) (hs : a.six = b.six) (ha : adRight a) (hb : adRight b) (la : adLim a) (lb : adLim b) (h : ∀ i, i < adBits a → pbit a i = pbit b i) : a = b := by
  obtain ⟨six, high, low⟩ := a
  obtain ⟨six', high', low'⟩ := b
  obtain rfl : six = six' := hs
  have l1 : high ≤ 18446744073709551615 := la.1
  have l2 : low ≤ 18446744073709551615 := la.2
  have l3 : high' ≤ 18446744073709551615 := lb.1
  have l4 : low' ≤ 18446744073709551615 := lb.2
  cases six with
  | false =>
    have r1 : high = 0 ∧ low ≤ 4294967295 := by rcases ha with h | h; cases h; exact h
    have r2 : high' = 0 ∧ low' ≤ 4294967295 := by rcases hb with h | h; cases h; exact h
    obtain rfl : high = high' := by omega
    obtain rfl : low = low' := ext_bits low low' 32 (by omega) (by omega) fun i hi => h i hi
    rfl
  | true =>
    obtain rfl : high = high' := ext_bits high high' 64 (by omega) (by omega) fun i hi => by
      have := h i (by show i < 128; omega)
      simp only [pbit, if_true, if_pos hi] at this
      exact this
    obtain rfl : low = low' := ext_bits low low' 64 (by omega) (by omega) fun i hi => by
      have := h (i + 64) (by show i + 64 < 128; omega)
      simp only [pbit, if_true, if_neg (show ¬ i + 64 < 64 by omega)] at this
      rwa [show 127 - (i + 64) = 64 - 1 - i from by omega] at this
    rfl
theorem cut_six (a : Ad) (n : Nat) : (cutM a n).six = a.six := by
  obtain ⟨six, high, low⟩ := a
  cases six <;> rfl
theorem cut_bits (a : Ad) (n : Nat) : adBits (cutM a n) = adBits a := by
  unfold adBits; rw [cut_six]
theorem cut_right (a : Ad) (n : Nat) (h : adRight a) : adRight (cutM a n) := by
  obtain ⟨six, high, low⟩ := a
  cases six with
  | true => exact .inl rfl
  | false =>
    have r1 : high = 0 ∧ low ≤ 4294967295 := by rcases h with h | h; cases h; exact h
    exact .inr ⟨r1.1, Nat.le_trans Nat.and_le_left r1.2⟩
theorem cut_lim (a : Ad) (n : Nat) (h : adLim a) : adLim (cutM a n) := by
  obtain ⟨six, high, low⟩ := a
  cases six with
  | true => exact ⟨Nat.le_trans Nat.and_le_left h.1, Nat.le_trans Nat.and_le_left h.2⟩
  | false => exact ⟨h.1, Nat.le_trans Nat.and_le_left h.2⟩
theorem cut_cut (a : Ad) (n : Nat) (hn : n ≤ adBits a) (h : adRight a) (hl : adLim a) : cutM (cutM a n) n = cutM a n := by
  refine ad_ext _ _ (by rw [cut_six]) (cut_right _ _ (cut_right _ _ h)) (cut_right _ _ h) (cut_lim _ _ (cut_lim _ _ hl)) (cut_lim _ _ hl) fun i hi => ?_
  rw [cut_bits, cut_bits] at hi
  rw [pbit_cut _ _ _ (by rw [cut_bits]; exact hn) (by rw [cut_bits]; exact hi), pbit_cut _ _ _ hn hi]
  split <;> rfl
/-- A prefix that is right. -/
def pfR (a : Ad) (n : Nat) : Prop := adRight a ∧ adLim a ∧ n ≤ adBits a ∧ cutM a n = a
theorem eqA_iff (x y : Ad) : eqA x y = true ↔ x = y := by
  obtain ⟨s, h, l⟩ := x
  obtain ⟨s', h', l'⟩ := y
  simp [eqA]
  omega
theorem rgtB_iff (a : Ad) (z : Int) (m : Nat) (hl : adLim a) (hz : min (max z 0) (adBits a : Int) = (m : Int)) : rgtB a z m = true ↔ pfR a m ∧ z = (m : Int) := by
  unfold rgtB pfR
  simp only [Bool.and_eq_true, decide_eq_true_eq, eqA_iff]
  constructor
  · rintro ⟨h1, h2, h3, h4⟩
    exact ⟨⟨h1, hl, by omega, h4⟩, by omega⟩
  · rintro ⟨⟨h1, _, h3, h4⟩, h5⟩
    exact ⟨h1, by omega, by omega, h4⟩
theorem pf_cut (a : Ad) (n : Nat) (h : adRight a) (hl : adLim a) (hn : n ≤ adBits a) : pfR (cutM a n) n := ⟨cut_right a n h, cut_lim a n hl, by rw [cut_bits]; exact hn, cut_cut a n hn h hl⟩
/-- Right prefixes of one length with the same bits are the same. -/
theorem pf_ext {a b : Ad} {n : Nat} (ha : pfR a n) (hb : pfR b n) (hs : a.six = b.six) (h : ∀ i, i < n → pbit a i = pbit b i) : a = b := by
  have hbits : adBits a = adBits b := by unfold adBits; rw [hs]
  refine ad_ext a b hs ha.1 hb.1 ha.2.1 hb.2.1 fun i hi => ?_
  rcases Nat.lt_or_ge i n with hlt | hge
  · exact h i hlt
  · have h1 := pbit_cut a n i ha.2.2.1 hi
    have h2 := pbit_cut b n i hb.2.2.1 (by omega)
    rw [ha.2.2.2, if_neg (by omega)] at h1
    rw [hb.2.2.2, if_neg (by omega)] at h2
    omega
end Go.Proofs.Ytlpgedncnefaoaa
