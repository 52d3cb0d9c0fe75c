/- spread.window and spread.Sum by contracts: what they return is a function of the bytes. Conditions: none but bounds on lengths. -/
import Derived.Test.YtaaincffbaaopaaMath
import Derived.Test.YtaaincffbaaopaaMem
import Derived.Test.YtaaincffbaaopaaTypes
import Derived.Test.YtaaincffbaaopaaProg
import Derived.Test.YtaaincffbaaopaaReader
import Derived.KernelRfl
import Derived.IntWalk
import Derived.Laws.BitsAllLaws
namespace Go.Proofs.Ytaaincffbaaopaa
open Go.RowKit

/-- The first i of the five bytes that hold a bit's window, as a number; 0 behind the end. -/
def winN (key : List Nat) (at_ : Nat) : Nat → Nat
  | 0 => 0
  | i + 1 => winN key at_ i * 256 + key.getD (at_ + i) 0
theorem winN_lt {key : List Nat} (h : Bytes key) (at_ i : Nat) : winN key at_ i < 256 ^ i := by
  induction i with
  | zero => simp [winN]
  | succ i ih =>
    have h1 : key.getD (at_ + i) 0 < 256 := by
      rw [List.getD_eq_getElem?_getD]
      rcases Nat.lt_or_ge (at_ + i) key.length with h1 | h1
      · rw [List.getElem?_eq_getElem h1]; exact h _ (List.getElem_mem _)
      · rw [List.getElem?_eq_none h1]; simp
    rw [winN, Nat.pow_succ]; omega
theorem winN_bd {key : List Nat} (h : Bytes key) (at_ i : Nat) (hi : i < 5) : (0 : Int) ≤ (winN key at_ i : Int) ∧ (winN key at_ i : Int) < 4294967296 := by
  have h1 := winN_lt h at_ i
  have h2 : 256 ^ i ≤ 256 ^ 4 := Nat.pow_le_pow_right (by omega) (by omega)
  have h3 : (256 : Nat) ^ 4 = 4294967296 := by decide
  omega

def winV (key : List Nat) (bit : Nat) : Nat := winN key (bit / 8) 5 / 2 ^ (8 - bit % 8) % 4294967296
set_option maxRecDepth 100000 in
theorem window_c (A : Option Addr) (c : Nat) (key : List Nat) (bit : Nat) (w : World) (B : Nat) (hv : BView w B A key) (hb : bit ≤ 1000000) (hn : key.length ≤ 1000000) :
    Calls Try.prog 64 #[.slice A key.length c, .int .i64 (bit : Int)] w fun e w' => e = .returned (.int .u32 (winV key bit : Nat)) ∧ w = w' := by
  go_enter Try.func64, Try.ntmps64
  go_wp2
  go_loop [5, 8] (fun v i => ∃ k : Nat, k ≤ 5 ∧ i = .int .i64 (k : Int) ∧ v = .int .u64 (winN key (bit / 8) k : Nat)) (fun _ i => 5 - (intOf i).toNat)
  case atStart => exact ⟨0, Nat.zero_le _, rfl, by simp [winN]⟩
  case round =>
    obtain ⟨k, hk, rfl, rfl⟩ := hrel
    by_cases hlt : k < 5
    · have hk5 : (k : Int) < 5 := by omega
      have hbd := winN_bd hv.bytes (bit / 8) k hlt
      have HS := Lib.hid (show winN key (bit / 8) (k + 1) = winN key (bit / 8) k * 256 + key.getD (bit / 8 + k) 0 from rfl)
      by_cases hin : bit / 8 + k < key.length
      · obtain ⟨b, o, rfl, hb', hcell⟩ := hv.at_ hin
        have hc1 := hcell _ hin
        have hn1 := nth_lt hv.bytes (bit / 8 + k)
        have HN := Lib.hid (show key.getD (bit / 8 + k) 0 = nth key (bit / 8 + k) from rfl)
        have hor := or_u64_8 (winN key (bit / 8) k) (nth key (bit / 8 + k)) (by omega) (by omega)
        clear hcell
        go_wp2
        go_round
        case rel => exact ⟨k + 1, by omega, by go_num, by rw [HS.out, HN.out]; go_num⟩
        case measure => (simp [intOf] <;> omega)
      · have HN := Lib.hid (show key.getD (bit / 8 + k) 0 = 0 by rw [List.getD_eq_getElem?_getD, List.getElem?_eq_none (by omega)]; rfl)
        go_wp2
        go_round
        case rel => exact ⟨k + 1, by omega, by go_num, by rw [HS.out, HN.out]; go_num⟩
        case measure => (simp [intOf] <;> omega)
    · obtain rfl : k = 5 := by omega
      go_wp2
      go_ret
      exact ⟨by unfold winV; rw [Int.natCast_emod, Int.natCast_ediv, Int.natCast_pow]; rfl, rfl⟩

theorem bit_and (x s : Nat) (hx : x < 256) : bits .and .u8 ((x : Int) / 2 ^ s) 1 = ((x / 2 ^ s % 2 : Nat) : Int) := by
  have h1 : x / 2 ^ s ≤ x := Nat.div_le_self _ _
  have e : (x : Int) / 2 ^ s = ((x / 2 ^ s : Nat) : Int) := by rw [Int.natCast_ediv, Int.natCast_pow]; rfl
  rw [e]
  have h := u8_and_nat (x / 2 ^ s) 1 (by omega) (by omega)
  rw [Nat.and_one_is_mod] at h
  exact h
/-- Bit i of a row is set. -/
def bitOf (b : List Nat) (i : Nat) : Nat := nth b (i / 8) / 2 ^ (7 - i % 8) % 2
/-- The sum of the first i bits. -/
def sumV (key b : List Nat) : Nat → Nat
  | 0 => 0
  | i + 1 => if bitOf b i = 1 then sumV key b i ^^^ winV key i else sumV key b i
theorem winV_lt (key : List Nat) (i : Nat) : winV key i < 4294967296 := Nat.mod_lt _ (by omega)
theorem sumV_lt (key b : List Nat) (i : Nat) : sumV key b i < 4294967296 := by
  induction i with
  | zero => simp [sumV]
  | succ i ih =>
    unfold sumV
    split
    · exact Nat.xor_lt_two_pow (n := 32) ih (winV_lt key i)
    · exact ih

set_option maxRecDepth 100000 in
theorem spread_sum_c (A A' : Option Addr) (c c' : Nat) (key b : List Nat) (w : World) (B : Nat) (hv : BView w B A key) (hv' : BView w B A' b) (hb : b.length ≤ 100000) (hn : key.length ≤ 1000000) :
    Calls Try.prog 56 #[.slice A key.length c, .slice A' b.length c'] w fun e w' => e = .returned (.int .u32 (sumV key b (8 * b.length) : Nat)) ∧ w = w' := by
  go_enter Try.func56, Try.ntmps56
  go_wp2
  go_loop [5, 10] (fun v i => ∃ k : Nat, k ≤ 8 * b.length ∧ i = .int .i64 (k : Int) ∧ v = .int .u32 (sumV key b k : Nat)) (fun _ i => 8 * b.length - (intOf i).toNat)
  case atStart => exact ⟨0, Nat.zero_le _, rfl, by simp [sumV]⟩
  case round =>
    obtain ⟨k, hk, rfl, rfl⟩ := hrel
    by_cases hlt : k < 8 * b.length
    · have hk5 : (k : Int) < 8 * (b.length : Int) := by omega
      have hin : k / 8 < b.length := by omega
      obtain ⟨b', o, rfl, hb', hcell⟩ := hv'.at_ hin
      have hc1 := hcell _ hin
      have hn1 := nth_lt hv'.bytes (k / 8)
      have hbit := bit_and (nth b (k / 8)) (7 - k % 8) hn1
      change _ = ((bitOf b k : Nat) : Int) at hbit
      have hbl : bitOf b k < 2 := Nat.mod_lt _ (by omega)
      have hxo := u32_xor_nat _ _ (sumV_lt key b k) (winV_lt key k)
      clear hcell hn1
      by_cases h1 : bitOf b k = 1
      · have HS := Lib.hid (show sumV key b (k + 1) = sumV key b k ^^^ winV key k by rw [sumV, if_pos h1])
        rw [h1] at hbit
        clear h1 hbl
        go_wp2_with fail
        refine (window_c A c key k w B hv (by omega) hn).mono ?_
        rintro e w' ⟨rfl, rfl⟩
        go_wp2
        go_round
        case rel => exact ⟨k + 1, by omega, by go_num, by rw [HS.out]⟩
        case measure => (simp [intOf] <;> omega)
      · have h0 : bitOf b k = 0 := by omega
        have HS := Lib.hid (show sumV key b (k + 1) = sumV key b k by rw [sumV, if_neg h1])
        rw [h0] at hbit
        clear h1 h0 hbl hxo
        go_wp2
        go_round
        case rel => exact ⟨k + 1, by omega, by go_num, by rw [HS.out]⟩
        case measure => (simp [intOf] <;> omega)
    · obtain rfl : k = 8 * b.length := by omega
      go_wp2
      go_ret
      exact ⟨rfl, rfl⟩

/-- The exclusive-or of two rows. -/
def xorB (a b : List Nat) : Nat → List Nat
  | 0 => []
  | n + 1 => xorB a b n ++ [nth a n ^^^ nth b n]
theorem xorB_length (a b : List Nat) (n : Nat) : (xorB a b n).length = n := by
  induction n with
  | zero => rfl
  | succ n ih => simp [xorB, ih]
theorem xorB_nth (a b : List Nat) (n k : Nat) (h : k < n) : nth (xorB a b n) k = nth a k ^^^ nth b k := by
  induction n with
  | zero => omega
  | succ n ih =>
    unfold nth at ih ⊢
    rw [xorB, List.getD_eq_getElem?_getD]
    rcases Nat.lt_or_ge k n with h1 | h1
    · rw [List.getElem?_append_left (by rw [xorB_length]; exact h1), ← List.getD_eq_getElem?_getD]
      exact ih h1
    · obtain rfl : k = n := by omega
      rw [List.getElem?_append_right (by rw [xorB_length]; omega), xorB_length]
      simp [nth]
theorem xor_bit (x y s : Nat) : (x ^^^ y) / 2 ^ s % 2 = (x / 2 ^ s % 2 + y / 2 ^ s % 2) % 2 := by
  have h : ∀ z : Nat, z / 2 ^ s % 2 = (z.testBit s).toNat := fun z => by rw [Nat.toNat_testBit]
  rw [h, h, h, Nat.testBit_xor]
  cases x.testBit s <;> cases y.testBit s <;> rfl
theorem bitOf_xor (a b : List Nat) (n i : Nat) (h : i < 8 * n) : bitOf (xorB a b n) i = (bitOf a i + bitOf b i) % 2 := by
  unfold bitOf
  rw [xorB_nth a b n (i / 8) (by omega), xor_bit]
theorem sumV_xor (key a b : List Nat) (n i : Nat) (h : i ≤ 8 * n) : sumV key (xorB a b n) i = sumV key a i ^^^ sumV key b i := by
  induction i with
  | zero => simp [sumV]
  | succ i ih =>
    have h1 := bitOf_xor a b n i (by omega)
    have ha : bitOf a i < 2 := Nat.mod_lt _ (by omega)
    have hb : bitOf b i < 2 := Nat.mod_lt _ (by omega)
    rw [sumV, sumV, sumV, h1, ih (by omega)]
    have h2 : bitOf a i = 0 ∨ bitOf a i = 1 := by omega
    have h3 : bitOf b i = 0 ∨ bitOf b i = 1 := by omega
    generalize sumV key a i = x
    generalize sumV key b i = y
    generalize winV key i = z
    rcases h2 with h2 | h2 <;> rcases h3 with h3 | h3 <;> simp only [h2, h3]
    · simp
    · simp [Nat.xor_assoc]
    · simp; ac_rfl
    · simp
      rw [show (x ^^^ z) ^^^ (y ^^^ z) = (x ^^^ y) ^^^ (z ^^^ z) by ac_rfl, Nat.xor_self, Nat.xor_zero]
end Go.Proofs.Ytaaincffbaaopaa
