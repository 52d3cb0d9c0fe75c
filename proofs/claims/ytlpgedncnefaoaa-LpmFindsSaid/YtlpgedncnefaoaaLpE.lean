
/- lpm: the kept bytes as a number. Conditions: none. -/
import Derived.Test.YtlpgedncnefaoaaLpD
namespace Go.Proofs.Ytlpgedncnefaoaa
open Go.RowKit
def keepL : Nat → List Nat → List Nat
  | _, [] => []
  | m, x :: l => kb (min m 8) 8 x :: keepL (m - 8) l
theorem keepL_len : ∀ (l : List Nat) (m : Nat), (keepL m l).length = l.length
  | [], _ => rfl
  | _ :: l, m => by unfold keepL; rw [List.length_cons, List.length_cons, keepL_len l]
theorem numBE_cons (x : Nat) (l : List Nat) : numBE (x :: l) = x * 256 ^ l.length + numBE l := by
  have h := numBE_append [x] l
  have h1 : numBE [x] = x := by unfold numBE; simp
  rw [h1] at h
  exact h
theorem pow8 (k : Nat) : 2 ^ (8 * k) = 256 ^ k := by rw [Nat.pow_mul]
theorem keepL_num : ∀ (l : List Nat) (m : Nat), Bytes l → m ≤ 8 * l.length → numBE (keepL m l) = numBE l / 2 ^ (8 * l.length - m) * 2 ^ (8 * l.length - m)
  | [], m, _, _ => by
    unfold keepL
    have h0 : numBE [] = 0 := rfl
    rw [h0, Nat.zero_div, Nat.zero_mul]
  | x :: l, m, hb, hm => by
    have hbl : Bytes l := fun y hy => hb y (List.mem_cons_of_mem _ hy)
    have hN : numBE l < 256 ^ l.length := numBE_lt' hbl
    rw [List.length_cons] at hm ⊢
    unfold keepL
    rw [numBE_cons, numBE_cons, keepL_len]
    by_cases h8 : 8 ≤ m
    · rw [keepL_num l (m - 8) hbl (by omega), Nat.min_eq_right h8, kb_8 (Nat.le_refl 8)]
      have et : 8 * (l.length + 1) - m = 8 * l.length - (m - 8) := by omega
      rw [et]
      obtain ⟨t, ht⟩ : ∃ t, t = 8 * l.length - (m - 8) := ⟨_, rfl⟩
      rw [← ht]
      have ep : 256 ^ l.length = 2 ^ t * 2 ^ (m - 8) := by rw [← pow8, ← Nat.pow_add]; congr 1; omega
      have e1 : x * 256 ^ l.length + numBE l = 2 ^ t * (x * 2 ^ (m - 8)) + numBE l := by rw [ep, Nat.mul_left_comm]
      rw [e1, Nat.mul_add_div (Nat.two_pow_pos t), Nat.add_mul, ep]
      simp only [Nat.sub_self, Nat.pow_zero, Nat.div_one, Nat.mul_one]
      rw [Nat.mul_comm (x * 2 ^ (m - 8)) (2 ^ t), Nat.mul_left_comm]
    · rw [keepL_num l (m - 8) hbl (by omega), show m - 8 = 0 by omega, Nat.sub_zero, pow8, Nat.div_eq_of_lt hN, Nat.zero_mul, Nat.add_zero, Nat.min_eq_left (by omega), kb_8 (by omega)]
      have ep : 2 ^ (8 * (l.length + 1) - m) = 256 ^ l.length * 2 ^ (8 - m) := by rw [← pow8, ← Nat.pow_add]; congr 1; omega
      rw [ep, ← Nat.div_div_eq_div_mul, Nat.mul_comm x, Nat.mul_add_div (Nat.pow_pos (by decide)), Nat.div_eq_of_lt hN, Nat.add_zero, Nat.mul_assoc, Nat.mul_comm (2 ^ (8 - m))]
theorem keepL_get : ∀ (l : List Nat) (m p : Nat) (h : p < (keepL m l).length), (keepL m l)[p] = kb (hpB m p) 8 (nth l p)
  | [], m, p, h => by exact absurd h (by simp [keepL])
  | x :: l, m, 0, h => by show kb (min m 8) 8 x = _; unfold hpB; simp [nth]
  | x :: l, m, p + 1, h => by
    have h' : p < (keepL (m - 8) l).length := by rw [keepL_len] at h ⊢; simpa using h
    have := keepL_get l (m - 8) p h'
    have e : hpB (m - 8) p = hpB m (p + 1) := by unfold hpB; omega
    rw [e] at this
    show (keepL (m - 8) l)[p] = _
    rw [this]
    rfl
theorem kbL_keep (l : List Nat) (m : Nat) : kbL l m l.length 0 = keepL m l := by
  apply List.ext_getElem
  · rw [kbL_len, keepL_len]
  · intro p h1 h2
    rw [kbL_get, keepL_get]
    unfold kbV
    rw [kbL_len] at h1
    rw [if_pos h1]
theorem keepL_append : ∀ (l k : List Nat) (m : Nat), keepL m (l ++ k) = keepL m l ++ keepL (m - 8 * l.length) k
  | [], k, m => by simp [keepL]
  | x :: l, k, m => by
    show kb (min m 8) 8 x :: keepL (m - 8) (l ++ k) = kb (min m 8) 8 x :: (keepL (m - 8) l ++ keepL (m - 8 * (l.length + 1)) k)
    rw [keepL_append l k (m - 8), show m - 8 - 8 * l.length = m - 8 * (l.length + 1) by omega]
theorem keepL_min : ∀ (l : List Nat) (m : Nat), keepL m l = keepL (min m (8 * l.length)) l
  | [], _ => rfl
  | x :: l, m => by
    show kb (min m 8) 8 x :: keepL (m - 8) l = kb (min (min m (8 * (l.length + 1))) 8) 8 x :: keepL (min m (8 * (l.length + 1)) - 8) l
    rw [show min (min m (8 * (l.length + 1))) 8 = min m 8 by omega, keepL_min l (m - 8), keepL_min l (min m (8 * (l.length + 1)) - 8), show min (m - 8) (8 * l.length) = min (min m (8 * (l.length + 1)) - 8) (8 * l.length) by omega]
theorem cut_same (a : Ad) (m : Nat) (hr : adRight a) (hl : adLim a) (hm : m ≤ adBits a) : cutM a m = ofL a.six (kbL (adB a) m (adN a) 0) := by
  obtain ⟨six, high, low⟩ := a
  cases six with
  | false =>
    obtain ⟨rfl, hlow⟩ : high = 0 ∧ low ≤ 4294967295 := by
      rcases hr with h | h
      · cases h
      · exact h
    have hm32 : m ≤ 32 := hm
    have hlen : (be low 4).length = 4 := be_length _ _
    have hk := kbL_keep (be low 4) m
    rw [hlen] at hk
    have hn := keepL_num (be low 4) m (be_bytes _ _) (by rw [hlen]; exact hm32)
    rw [hlen, numBE_be, Nat.mod_eq_of_lt (by omega)] at hn
    show (⟨false, 0, low &&& fst64 (32 + m)⟩ : Ad) = ⟨false, 0, numBE (kbL (be low 4) m 4 0)⟩
    rw [hk, hn, and_fst64 (by omega) (by omega), show 64 - (32 + m) = 8 * 4 - m by omega]
  | true =>
    have hh : high ≤ 18446744073709551615 := hl.1
    have hlo : low ≤ 18446744073709551615 := hl.2
    have hm128 : m ≤ 128 := hm
    have l1 : (be high 8).length = 8 := be_length _ _
    have l2 : (be low 8).length = 8 := be_length _ _
    have hk := kbL_keep (be high 8 ++ be low 8) m
    rw [List.length_append, l1, l2, keepL_append, l1, keepL_min (be high 8), l1] at hk
    have n1 := keepL_num (be high 8) (min m (8 * 8)) (be_bytes _ _) (by rw [l1]; omega)
    rw [l1, numBE_be, Nat.mod_eq_of_lt (by omega)] at n1
    have n2 := keepL_num (be low 8) (m - 8 * 8) (be_bytes _ _) (by rw [l2]; omega)
    rw [l2, numBE_be, Nat.mod_eq_of_lt (by omega)] at n2
    have k1 : (keepL (min m (8 * 8)) (be high 8)).length = 8 := by rw [keepL_len, l1]
    have k2 : (keepL (m - 8 * 8) (be low 8)).length = 8 := by rw [keepL_len, l2]
    show (⟨true, high &&& fst64 (min m 64), low &&& fst64 (m - 64)⟩ : Ad) = ⟨true, getN (kbL (be high 8 ++ be low 8) m 16 0) 0 8, getN (kbL (be high 8 ++ be low 8) m 16 0) 8 8⟩
    rw [show kbL (be high 8 ++ be low 8) m 16 0 = _ from hk]
    have g1 : getN (keepL (min m (8 * 8)) (be high 8) ++ keepL (m - 8 * 8) (be low 8)) 0 8 = numBE (keepL (min m (8 * 8)) (be high 8)) := by
      unfold getN
      rw [List.drop_zero, List.take_left' k1]
    have g2 : getN (keepL (min m (8 * 8)) (be high 8) ++ keepL (m - 8 * 8) (be low 8)) 8 8 = numBE (keepL (m - 8 * 8) (be low 8)) := by
      unfold getN
      rw [List.drop_left' k1, List.take_of_length_le (by omega)]
    rw [g1, g2, n1, n2, and_fst64 (by omega) (by omega), and_fst64 (by omega) (by omega), show 64 - min m 64 = 8 * 8 - min m (8 * 8) by omega, show 64 - (m - 64) = 8 * 8 - (m - 8 * 8) by omega]
end Go.Proofs.Ytlpgedncnefaoaa
