/- The example of octet's law, by a contract. -/
import Derived.Test.YtaaincffbaaopaaOctet
namespace Go.Proofs.Ytaaincffbaaopaa
open Go.RowKit

set_option maxRecDepth 100000 in
theorem octet_awake_c (w : World) : Calls Try.prog 15 #[] w fun e w' => e = .returned (.bool true) ∧ Below w.heap.size w w' := by
  have hbs : Bytes [0, 0, 1, 2] := by intro x hx; simp at hx; omega
  have hbe : eqB ([] ++ be 258 4) [0, 0, 1, 2] = true := by decide
  go_enter Try.func15, Try.ntmps15
  go_wp2_with fail
  refine (put_c none 0 [] 258 4 4 w 0 BView.nil_ (Nat.zero_le _) (by simp) (U64.of (by decide)) (by omega)).mono ?_
  rintro e w1 ⟨g, rfl, hg, hA, hbel, hb⟩
  have HA := Lib.hid hbe
  clear hbe
  go_wp2_with fail
  refine (equal_c _ _ _ _ ([] ++ be 258 4) [0, 0, 1, 2] _ (w1.heap.size + 1) (BView.of_arr hb (hA.out.alloc _) (by have := hA.out.lt; omega)) (BView.of_arr hbs (Arr.new w1 5 ([0, 0, 1, 2].map u8v)) (by omega))).mono ?_
  rintro e w2 ⟨rfl, rfl⟩
  rw [HA.out]
  go_wp2
  go_ret
  exact ⟨rfl, hbel.alloc hbel.size _⟩

end Go.Proofs.Ytaaincffbaaopaa
