/- The cookie's four small functions by contracts (Blend, Part, Restore, Ahead), and the reference's Restore. Conditions: the arguments fit their kinds. -/
import Derived.Test.YtaaincffbaaopaaMath
import Derived.Test.YtaaincffbaaopaaProg
namespace Go.Proofs.Ytaaincffbaaopaa
open Go.RowKit

theorem blend_c (a c : Int) (w : World) (ha : 0 ≤ a ∧ a < 4294967296) (hc : 0 ≤ c ∧ c < 65536) :
    Calls Try.prog 35 #[.int .u32 a, .int .u16 c] w fun e w' => e = .returned (.int .u32 (a * 65536 % 4294967296 + c)) ∧ w = w' := by
  have hb := or_u32_16 (a * 65536 % 4294967296) c (by omega) (by omega) (by omega) (by omega) (by omega)
  go_enter Try.func35, Try.ntmps35
  go_wp2
  go_ret
  exact ⟨ret_int (by first | rfl | exact hb), rfl⟩

theorem part_c (s : Int) (w : World) (hs : 0 ≤ s ∧ s < 4294967296) :
    Calls Try.prog 36 #[.int .u32 s] w fun e w' => e = .returned (.tuple #[.int .u16 (s / 65536), .int .u16 (s % 65536)]) ∧ w = w' := by
  go_enter Try.func36, Try.ntmps36
  go_wp2
  go_ret2
  exact ⟨by simp [IntKind.wrap_u16], rfl⟩

theorem restore_c (n t : Int) (w : World) (hn : 0 ≤ n ∧ n < 4294967296) (ht : 0 ≤ t ∧ t < 65536) :
    Calls Try.prog 37 #[.int .u32 n, .int .u16 t] w fun e w' => e = .returned (.int .u32 ((n - (n - t) % 65536) % 4294967296)) ∧ w = w' := by
  go_enter Try.func37, Try.ntmps37
  go_wp2
  go_ret
  refine ⟨ret_int ?_, rfl⟩
  simp only [IntKind.wrap_u16]
  omega

theorem ahead_c (a b : Int) (w : World) (ha : 0 ≤ a ∧ a < 4294967296) (hb : 0 ≤ b ∧ b < 4294967296) :
    Calls Try.prog 38 #[.int .u32 a, .int .u32 b] w fun e w' => e = .returned (.bool (decide ((b - a) % 4294967296 < 2147483648))) ∧ w = w' := by
  go_enter Try.func38, Try.ntmps38
  go_wp2
  go_ret
  exact ⟨rfl, rfl⟩

theorem ref_restore_c (n t : Int) (w : World) (hn : 0 ≤ n ∧ n < 4294967296) (ht : 0 ≤ t ∧ t < 65536) :
    Calls Try.prog 40 #[.int .u32 n, .int .u16 t] w fun e w' => e = .returned (.int .u32 ((n - (n - t) % 65536) % 4294967296)) ∧ w = w' := by
  go_enter Try.func40, Try.ntmps40
  go_wp2
  go_ret
  exact ⟨ret_int (by omega), rfl⟩

theorem cookie_awake_c (w : World) : Calls Try.prog 39 #[] w fun e w' => e = .returned (.bool true) ∧ w = w' := by
  go_enter Try.func39, Try.ntmps39
  go_wp2
  go_ret
  exact ⟨rfl, rfl⟩
end Go.Proofs.Ytaaincffbaaopaa
