
/- Proved: SiphashFolds returns true for every number and size, and changes no memory that was there. Conditions: none. -/
import Derived.Test.YtakmcbgfglnanaaSipAwake
namespace Go.Proofs.Ytakmcbgfglnanaa.SiphashFolds
open Go.RowKit

theorem and_low (n k : Nat) : n &&& (2 ^ k - 1) = n % 2 ^ k := Nat.and_two_pow_sub_one_eq_mod n k
theorem fold_bad_c (n s : Int) (w : World) (hn : 0 ≤ n ∧ n < 18446744073709551616) (h : s < 1 ∨ 63 < s) :
    Calls Try.prog 56 #[.int .u64 n, .int .i64 s] w fun e w' => e = .returned (.int .u64 n) ∧ w = w' := by
  by_cases h1 : s < 1
  · go_enter Try.func56, Try.ntmps56
    go_wp2
    go_ret
    exact ⟨rfl, rfl⟩
  · have h2 : 63 < s := by omega
    go_enter Try.func56, Try.ntmps56
    go_wp2
    go_ret
    exact ⟨rfl, rfl⟩
theorem fold_val (n k : Nat) (hn : U64 n) (h1 : 1 ≤ k) (h2 : k ≤ 63) : bits .and .u64 (n : Int) (IntKind.u64.wrap (IntKind.u64.wrap ((2 : Int) ^ k) - 1)) = ((n % 2 ^ k : Nat) : Int) := by
  have hp : 2 ^ k ≤ 2 ^ 63 := Nat.pow_le_pow_right (by omega) (by omega)
  have hp0 : 0 < 2 ^ k := Nat.pow_pos (by omega)
  have h63 : (2 : Nat) ^ 63 = 9223372036854775808 := by decide
  have hn2 := hn.out
  have e : (2 : Int) ^ k = ((2 ^ k : Nat) : Int) := by simp
  have ha := and_low n k
  rw [e]
  generalize (2 ^ k : Nat) = p at *
  rw [IntWalk.u64_in (p : Int) (by omega), IntWalk.u64_in ((p : Int) - 1) (by omega), u64_and _ _ (by omega) (by omega) (by omega) (by omega)]
  rw [show ((p : Int) - 1).toNat = p - 1 by omega, Int.toNat_natCast, ha]
theorem fold_c (n k : Nat) (w : World) (hn : U64 n) (h1 : 1 ≤ k) (h2 : k ≤ 63) :
    Calls Try.prog 56 #[.int .u64 (n : Int), .int .i64 (k : Int)] w fun e w' => e = .returned (.int .u64 ((n % 2 ^ k : Nat) : Int)) ∧ w = w' := by
  have hk1 : (1 : Int) ≤ (k : Int) ∧ (k : Int) ≤ 63 := by omega
  go_enter Try.func56, Try.ntmps56
  have HF := Lib.hid (fold_val n k hn h1 h2)
  go_wp2
  go_ret
  exact ⟨ret_int HF.out, rfl⟩

set_option maxRecDepth 100000 in
theorem walk (n s : Int) (w : World) (hn : 0 ≤ n ∧ n < 18446744073709551616) (hs : -9223372036854775808 ≤ s ∧ s ≤ 9223372036854775807) :
    Calls Try.prog 10 #[.int .u64 n, .int .i64 s] w fun e w' => e = .returned (.bool true) ∧ Below w.heap.size w w' := by
  by_cases h1 : s < 1
  · go_enter Try.func10, Try.ntmps10
    go_wp2_with fail
    refine (fold_bad_c n s w hn (.inl h1)).mono ?_
    rintro e w1 ⟨rfl, rfl⟩
    go_wp2_with fail
    refine (sip_awake_c _).mono ?_
    rintro e w4 ⟨rfl, hb4⟩
    go_wp2
    go_ret
    exact ⟨rfl, hb4⟩
  by_cases h2 : 63 < s
  · go_enter Try.func10, Try.ntmps10
    go_wp2_with fail
    refine (fold_bad_c n s w hn (.inr h2)).mono ?_
    rintro e w1 ⟨rfl, rfl⟩
    go_wp2_with fail
    refine (sip_awake_c _).mono ?_
    rintro e w4 ⟨rfl, hb4⟩
    go_wp2
    go_ret
    exact ⟨rfl, hb4⟩
  · obtain ⟨n, rfl⟩ := Int.eq_ofNat_of_zero_le hn.1
    obtain ⟨k, rfl⟩ := Int.eq_ofNat_of_zero_le (show 0 ≤ s by omega)
    have hk1 : 1 ≤ k := by omega
    have hk2 : k ≤ 63 := by omega
    have HN := Lib.hid (U64.of (n := n) (by omega))
    have hki : (1 : Int) ≤ (k : Int) ∧ (k : Int) ≤ 63 := by omega
    have hni : (0 : Int) ≤ (n : Int) ∧ (n : Int) < 18446744073709551616 := by omega
    clear hn hs h1 h2
    go_enter Try.func10, Try.ntmps10
    go_wp2_with fail
    go_loop [6, 7] (fun v6 v7 => ∃ i : Nat, i ≤ k ∧ v7 = .int .i64 (i : Int) ∧ v6 = .int .u64 ((2 ^ i : Nat) : Int)) (fun _ i => k - (intOf i).toNat)
    case atStart => exact ⟨0, Nat.zero_le _, rfl, rfl⟩
    case round =>
      obtain ⟨i, hi, rfl, rfl⟩ := hrel
      have hp : 2 ^ i ≤ 2 ^ 63 := Nat.pow_le_pow_right (by omega) (by omega)
      have hp0 : 0 < 2 ^ i := Nat.pow_pos (by omega)
      have h63 : (2 : Nat) ^ 63 = 9223372036854775808 := by decide
      by_cases hlt : i < k
      · have HS := Lib.hid (show ((2 ^ (i + 1) : Nat) : Int) = ((2 ^ i : Nat) : Int) * 2 by rw [Nat.pow_succ]; omega)
        have hp2 : 2 ^ i ≤ 2 ^ 62 := Nat.pow_le_pow_right (by omega) (by omega)
        have h62 : (2 : Nat) ^ 62 = 4611686018427387904 := by decide
        rw [h62] at hp2
        have hpi : (0 : Int) < ((2 ^ i : Nat) : Int) ∧ ((2 ^ i : Nat) : Int) ≤ 4611686018427387904 := by omega
        have hlti : (i : Int) < (k : Int) := by omega
        clear hp hp0 h63 hp2 h62
        generalize (2 ^ i : Nat) = p at hpi HS ⊢
        go_wp2
        go_round
        case rel => exact ⟨i + 1, by omega, by go_num, by rw [HS.out]⟩
        case measure => (simp [intOf] <;> omega)
      · obtain rfl : i = k := by omega
        have HFC := Lib.hid (fold_c n i w HN.out hk1 hk2)
        obtain ⟨q, HQ⟩ : ∃ q : Nat, Hid (n % 2 ^ i = q) := ⟨_, Lib.hid rfl⟩
        rw [HQ.out] at HFC
        rw [h63] at hp
        have hpi : (0 : Int) < ((2 ^ i : Nat) : Int) ∧ ((2 ^ i : Nat) : Int) ≤ 9223372036854775808 := by omega
        have hpz : (((2 ^ i : Nat) : Int) == 0) = false := by rw [beq_eq_false_iff_ne]; omega
        have HM := Lib.hid (show (n : Int) % ((2 ^ i : Nat) : Int) = (q : Int) by rw [← HQ.out, Int.natCast_emod])
        clear hp hp0 h63
        generalize (2 ^ i : Nat) = p at hpi HM hpz ⊢
        go_wp2_with fail
        rw [HM.out]
        refine HFC.out.mono ?_
        rintro e w1 ⟨rfl, rfl⟩
        go_wp2_with fail
        refine (sip_awake_c _).mono ?_
        rintro e w4 ⟨rfl, hb4⟩
        go_wp2
        go_ret
        exact ⟨rfl, hb4⟩
end Go.Proofs.Ytakmcbgfglnanaa.SiphashFolds
