/- tcp: header, Right, Bytes and the references', by contract. Conditions: none but bounds. -/
import Derived.Test.YtmekadkmmddocaaDoorTcpB
import Derived.Test.YtmekadkmmddocaaDoorJoin
namespace Go.Proofs.YtmekadkmmddocaaDoor
open Go.RowKit

def segRight (m k : Nat) : Prop := m ≤ 40 ∧ m % 4 = 0 ∧ 20 + m + k ≤ 65535
instance (m k : Nat) : Decidable (segRight m k) := by unfold segRight; exact inferInstance

end Go.Proofs.YtmekadkmmddocaaDoor
