/- Plain arithmetic that the walks need: bit operations as sums and remainders. No program, no condition beyond each lemma's own. -/
import Derived.Laws.BitsAllLaws
import Derived.WalkKit
namespace Go.Proofs.Ytcobjneobdihkaa
open Go.RowKit

theorem ret_bool {a b : Bool} (h : a = b) : Ending.returned (.bool a) = .returned (.bool b) := by rw [h]

/-- A number that fits 64 bits; behind a name, because the walk can't bear the numeral. -/
def U64 (n : Nat) : Prop := n < 18446744073709551616
theorem U64.out {n : Nat} (h : U64 n) : n < 18446744073709551616 := h
end Go.Proofs.Ytcobjneobdihkaa
