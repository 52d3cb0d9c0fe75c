/- The reference's Of of siphash by a contract. Conditions: none. -/
import Derived.Test.YtilgolflpdpfnaaKeys
import Derived.Test.YtilgolflpdpfnaaVTake
namespace Go.Proofs.Ytilgolflpdpfnaa.Old
open Go.RowKit

end Go.Proofs.Ytilgolflpdpfnaa.Old
