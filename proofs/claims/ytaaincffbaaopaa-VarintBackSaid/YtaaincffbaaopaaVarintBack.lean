/- Proved: VarintBack returns true for every n, acked and at, and changes no memory. Conditions: none. -/
import Derived.Below
import Derived.Lib.Hide
import Derived.Test.YtaaincffbaaopaaVarint
namespace Go.Proofs.Ytaaincffbaaopaa.VarintBack
open Go.RowKit

theorem back (n x W : Int) (hW : W = 256 ∨ W = 65536 ∨ W = 16777216 ∨ W = 4294967296) (hn : 0 ≤ n ∧ n < 2305843009213693952) (hx : 0 ≤ x ∧ x ≤ n) (hd : n - x < W / 2) : expandN x (n % W) W = n := by
  rcases hW with rfl | rfl | rfl | rfl <;> unfold expandN <;> (repeat' split) <;> omega

theorem bits_le (n a k : Int) (h : bitsN n a = k) (hk : 1 ≤ k) : a < n ∧ n - a ≤ 2147483648 ∧ ((k = 1 ∧ n - a ≤ 128) ∨ (k = 2 ∧ n - a ≤ 32768) ∨ (k = 3 ∧ n - a ≤ 8388608) ∨ (k = 4 ∧ n - a ≤ 2147483648)) := by
  unfold bitsN at h
  (repeat' split at h) <;> omega

set_option maxHeartbeats 2000000 in
theorem walk (a0 a1 a2 : Int) (w : World) (w0 : 0 ≤ a0 ∧ a0 < 18446744073709551616) (w1 : 0 ≤ a1 ∧ a1 < 18446744073709551616) (w2 : 0 ≤ a2 ∧ a2 < 18446744073709551616) :
    Calls Try.prog 9 #[.int .u64 a0, .int .u64 a1, .int .u64 a2] w fun e w' => e = .returned (.bool true) ∧ Below w.heap.size w w' := by
  obtain ⟨k, e, hke, hkn, hb, hr⟩ := bits_ke a0 a1 w0 w1
  have HB := Lib.hid hb
  have HR := Lib.hid hr
  clear hb hr
  have HN := Lib.hid hkn
  clear hkn
  rcases hke with ⟨rfl, rfl⟩ | ⟨hk1, hk2, rfl⟩
  · by_cases h61 : 2305843009213693952 ≤ a0
    all_goals
      go_enter Try.func9, Try.ntmps9
      go_wp2_with (first
        | (go_at_call 41; refine (HB.out _).mono ?_; rintro e w' ⟨rfl, rfl⟩)
        | (go_at_call 42; refine (HR.out _).mono ?_; rintro e w' ⟨rfl, rfl⟩)
        | (go_at_call 43; refine (varint_awake_c _).mono ?_; rintro e w' ⟨rfl, rfl⟩))
      all_goals (go_ret; exact ⟨rfl, Below.refl _ _⟩)
  · by_cases h61 : 2305843009213693952 ≤ a0
    · go_enter Try.func9, Try.ntmps9
      go_wp2_with (first
        | (go_at_call 41; refine (HB.out _).mono ?_; rintro e w' ⟨rfl, rfl⟩)
        | (go_at_call 42; refine (HR.out _).mono ?_; rintro e w' ⟨rfl, rfl⟩)
        | (go_at_call 43; refine (varint_awake_c _).mono ?_; rintro e w' ⟨rfl, rfl⟩))
      all_goals (go_ret; exact ⟨rfl, Below.refl _ _⟩)
    · have hle := bits_le a0 a1 k HN.out hk1
      obtain ⟨hlt, _, hcase⟩ := hle
      have hm := Int.emod_nonneg a2 (show a0 - a1 ≠ 0 by omega)
      have hm2 := Int.emod_lt_of_pos a2 (show 0 < a0 - a1 by omega)
      clear HN
      rcases hcase with ⟨rfl, hd⟩ | ⟨rfl, hd⟩ | ⟨rfl, hd⟩ | ⟨rfl, hd⟩
      · have HX := Lib.hid (back a0 (a1 + 1 + a2 % (a0 - a1)) 256 (by omega) (by omega) (by omega) (by omega))
        go_enter Try.func9, Try.ntmps9
        go_wp2_with (first
          | (go_at_call 41; refine (HB.out _).mono ?_; rintro e w' ⟨rfl, rfl⟩)
          | (go_at_call 44; refine (expand_ok _ _ _ 256 _ (by omega) (by omega) (by omega)).mono ?_; rintro e w' ⟨rfl, rfl⟩; rw [HX.out])
          | (go_at_call 43; refine (varint_awake_c _).mono ?_; rintro e w' ⟨rfl, rfl⟩))
        all_goals (go_ret; exact ⟨rfl, Below.refl _ _⟩)
      · have HX := Lib.hid (back a0 (a1 + 1 + a2 % (a0 - a1)) 65536 (by omega) (by omega) (by omega) (by omega))
        go_enter Try.func9, Try.ntmps9
        go_wp2_with (first
          | (go_at_call 41; refine (HB.out _).mono ?_; rintro e w' ⟨rfl, rfl⟩)
          | (go_at_call 44; refine (expand_ok _ _ _ 65536 _ (by omega) (by omega) (by omega)).mono ?_; rintro e w' ⟨rfl, rfl⟩; rw [HX.out])
          | (go_at_call 43; refine (varint_awake_c _).mono ?_; rintro e w' ⟨rfl, rfl⟩))
        all_goals (go_ret; exact ⟨rfl, Below.refl _ _⟩)
      · have HX := Lib.hid (back a0 (a1 + 1 + a2 % (a0 - a1)) 16777216 (by omega) (by omega) (by omega) (by omega))
        go_enter Try.func9, Try.ntmps9
        go_wp2_with (first
          | (go_at_call 41; refine (HB.out _).mono ?_; rintro e w' ⟨rfl, rfl⟩)
          | (go_at_call 44; refine (expand_ok _ _ _ 16777216 _ (by omega) (by omega) (by omega)).mono ?_; rintro e w' ⟨rfl, rfl⟩; rw [HX.out])
          | (go_at_call 43; refine (varint_awake_c _).mono ?_; rintro e w' ⟨rfl, rfl⟩))
        all_goals (go_ret; exact ⟨rfl, Below.refl _ _⟩)
      · have HX := Lib.hid (back a0 (a1 + 1 + a2 % (a0 - a1)) 4294967296 (by omega) (by omega) (by omega) (by omega))
        go_enter Try.func9, Try.ntmps9
        go_wp2_with (first
          | (go_at_call 41; refine (HB.out _).mono ?_; rintro e w' ⟨rfl, rfl⟩)
          | (go_at_call 44; refine (expand_ok _ _ _ 4294967296 _ (by omega) (by omega) (by omega)).mono ?_; rintro e w' ⟨rfl, rfl⟩; rw [HX.out])
          | (go_at_call 43; refine (varint_awake_c _).mono ?_; rintro e w' ⟨rfl, rfl⟩))
        all_goals (go_ret; exact ⟨rfl, Below.refl _ _⟩)
end Go.Proofs.Ytaaincffbaaopaa.VarintBack
