/- Proved: CookieTicks returns true for every tick, cookie, now and stamp, and changes no memory. Conditions: none. -/
import Derived.Below
import Derived.Test.YtaaincffbaaopaaCookie
namespace Go.Proofs.Ytaaincffbaaopaa.CookieTicks
open Go.RowKit

theorem walk (a0 a1 a2 a3 : Int) (w : World) (w0 : 0 ≤ a0 ∧ a0 < 4294967296) (w1 : 0 ≤ a1 ∧ a1 < 65536) (w2 : 0 ≤ a2 ∧ a2 < 4294967296) (w3 : 0 ≤ a3 ∧ a3 < 4294967296) :
    Calls Try.prog 8 #[.int .u32 a0, .int .u16 a1, .int .u32 a2, .int .u32 a3] w fun e w' => e = .returned (.bool true) ∧ Below w.heap.size w w' := by
  go_enter Try.func8, Try.ntmps8
  go_wp2_with (first
    | (go_at_call 35; refine (blend_c _ _ _ (by omega) (by omega)).mono ?_; rintro e w' ⟨rfl, rfl⟩)
    | (go_at_call 36; refine (part_c _ _ (by omega)).mono ?_; rintro e w' ⟨rfl, rfl⟩)
    | (go_at_call 37; refine (restore_c _ _ _ (by omega) (by omega)).mono ?_; rintro e w' ⟨rfl, rfl⟩)
    | (go_at_call 38; refine (ahead_c _ _ _ (by omega) (by omega)).mono ?_; rintro e w' ⟨rfl, rfl⟩)
    | (go_at_call 40; refine (ref_restore_c _ _ _ (by omega) (by omega)).mono ?_; rintro e w' ⟨rfl, rfl⟩)
    | (go_at_call 39; refine (cookie_awake_c _).mono ?_; rintro e w' ⟨rfl, rfl⟩))
  go_ret
  exact ⟨rfl, Below.refl _ _⟩
end Go.Proofs.Ytaaincffbaaopaa.CookieTicks
