/- The reference's Sum by a contract. Conditions: bounds on lengths. -/
import Derived.Test.YtilgolflpdpfnaaSipMain
import Derived.Deep.Cut
import Derived.Deep.DeepCutAuto
namespace Go.Proofs.Ytilgolflpdpfnaa.Old
open Go.RowKit

/-! ### both sums are one -/
end Go.Proofs.Ytilgolflpdpfnaa.Old
