/- ip4: Size, Fragment, Right, flags and the reference's Right, by contract. Conditions: none but bounds. -/
import Derived.Test.YtmekadkmmddocaaDoorIp4S
import Derived.Test.YtmekadkmmddocaaDoorSet
namespace Go.Proofs.YtmekadkmmddocaaDoor
open Go.RowKit

def right4P (a : Ad) : Prop := adRight a ∧ a.six = false
instance (a : Ad) : Decidable (right4P a) := by unfold right4P; exact inferInstance
def hdRight (len off : Int) (s d : Ad) (m : Nat) : Prop := m ≤ 40 ∧ m % 4 = 0 ∧ ((20 + m : Nat) : Int) ≤ len ∧ len ≤ 65535 ∧ 0 ≤ off ∧ off ≤ 8191 ∧ right4P s ∧ right4P d
instance (len off : Int) (s d : Ad) (m : Nat) : Decidable (hdRight len off s d m) := by unfold hdRight; exact inferInstance

end Go.Proofs.YtmekadkmmddocaaDoor
