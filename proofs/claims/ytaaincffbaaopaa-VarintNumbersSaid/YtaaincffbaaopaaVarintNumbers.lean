/- Proved: VarintNumbers returns true for every n, acked, expected, told and size, and changes no memory. Conditions: none. -/
import Derived.Below
import Derived.Lib.Hide
import Derived.Test.YtaaincffbaaopaaVarint
namespace Go.Proofs.Ytaaincffbaaopaa.VarintNumbers
open Go.RowKit

set_option maxHeartbeats 2000000 in
theorem walk (a0 a1 a2 a3 a4 : Int) (w : World) (w0 : 0 ≤ a0 ∧ a0 < 18446744073709551616) (w1 : 0 ≤ a1 ∧ a1 < 18446744073709551616) (w2 : 0 ≤ a2 ∧ a2 < 18446744073709551616) (w3 : 0 ≤ a3 ∧ a3 < 18446744073709551616)
    (w4 : -9223372036854775808 ≤ a4 ∧ a4 ≤ 9223372036854775807) :
    Calls Try.prog 10 #[.int .u64 a0, .int .u64 a1, .int .u64 a2, .int .u64 a3, .int .i64 a4] w fun e w' => e = .returned (.bool true) ∧ Below w.heap.size w w' := by
  obtain ⟨k, e, hke, _, hb, hr⟩ := bits_ke a0 a1 w0 w1
  have HB := Lib.hid hb
  have HR := Lib.hid hr
  clear hb hr
  by_cases hbad : expandBad a2 a3 a4
  · have HE := Lib.hid (fun w => expand_bad a2 a3 a4 w w2 w3 w4 hbad)
    rcases hke with ⟨rfl, rfl⟩ | ⟨hk1, hk2, rfl⟩
    all_goals
      rcases hbad with h | h | h | ⟨rfl, h⟩ | ⟨rfl, h⟩ | ⟨rfl, h⟩ | ⟨rfl, h⟩
      all_goals
        go_enter Try.func10, Try.ntmps10
        go_wp2_with (first
          | (go_at_call 41; refine (HB.out _).mono ?_; rintro e w' ⟨rfl, rfl⟩)
          | (go_at_call 42; refine (HR.out _).mono ?_; rintro e w' ⟨rfl, rfl⟩)
          | (go_at_call 44; refine (HE.out _).mono ?_; rintro e w' ⟨rfl, rfl⟩)
          | (go_at_call 43; refine (varint_awake_c _).mono ?_; rintro e w' ⟨rfl, rfl⟩))
        all_goals (go_ret; exact ⟨rfl, Below.refl _ _⟩)
  · have hok : ∃ W : Int, (a4 = 1 ∧ W = 256 ∧ a3 < 256) ∨ (a4 = 2 ∧ W = 65536 ∧ a3 < 65536) ∨ (a4 = 3 ∧ W = 16777216 ∧ a3 < 16777216) ∨ (a4 = 4 ∧ W = 4294967296 ∧ a3 < 4294967296) := by
      unfold expandBad at hbad
      have h4 : a4 = 1 ∨ a4 = 2 ∨ a4 = 3 ∨ a4 = 4 := by omega
      rcases h4 with h4 | h4 | h4 | h4
      · exact ⟨256, .inl ⟨h4, rfl, by omega⟩⟩
      · exact ⟨65536, .inr (.inl ⟨h4, rfl, by omega⟩)⟩
      · exact ⟨16777216, .inr (.inr (.inl ⟨h4, rfl, by omega⟩))⟩
      · exact ⟨4294967296, .inr (.inr (.inr ⟨h4, rfl, by omega⟩))⟩
    obtain ⟨W, hok⟩ := hok
    have hx : a2 ≤ 4611686018427387903 := by unfold expandBad at hbad; omega
    have HE := Lib.hid (fun w => expand_ok a2 a3 a4 W w ⟨w2.1, hx⟩ w3.1 hok)
    have HF := Lib.hid (fun w => ref_expand_c a2 a3 a4 W w ⟨w2.1, hx⟩ w3.1 hok)
    generalize expandN a2 a3 W = r at HE HF
    clear hbad
    rcases hke with ⟨rfl, rfl⟩ | ⟨hk1, hk2, rfl⟩
    all_goals
      rcases hok with ⟨rfl, rfl, h⟩ | ⟨rfl, rfl, h⟩ | ⟨rfl, rfl, h⟩ | ⟨rfl, rfl, h⟩
      all_goals
        go_enter Try.func10, Try.ntmps10
        go_wp2_with (first
          | (go_at_call 41; refine (HB.out _).mono ?_; rintro e w' ⟨rfl, rfl⟩)
          | (go_at_call 42; refine (HR.out _).mono ?_; rintro e w' ⟨rfl, rfl⟩)
          | (go_at_call 44; refine (HE.out _).mono ?_; rintro e w' ⟨rfl, rfl⟩)
          | (go_at_call 45; refine (HF.out _).mono ?_; rintro e w' ⟨rfl, rfl⟩)
          | (go_at_call 43; refine (varint_awake_c _).mono ?_; rintro e w' ⟨rfl, rfl⟩))
        all_goals (go_ret; exact ⟨rfl, Below.refl _ _⟩)
end Go.Proofs.Ytaaincffbaaopaa.VarintNumbers
