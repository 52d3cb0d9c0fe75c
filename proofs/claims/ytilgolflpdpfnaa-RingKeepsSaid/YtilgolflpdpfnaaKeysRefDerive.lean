/- The reference's Derive of siphash by a contract. Conditions: none. -/
import Derived.Test.YtilgolflpdpfnaaKeysDerive
namespace Go.Proofs.Ytilgolflpdpfnaa.Old
open Go.RowKit

end Go.Proofs.Ytilgolflpdpfnaa.Old
