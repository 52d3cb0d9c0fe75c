/- The reference's round, and the little-endian words, by contracts. Conditions: none. -/
import Derived.Test.YtilgolflpdpfnaaSip
import Derived.Laws.ResultCell
import Derived.Test.YtilgolflpdpfnaaMeterRef
namespace Go.Proofs.Ytilgolflpdpfnaa.Old
open Go.RowKit

end Go.Proofs.Ytilgolflpdpfnaa.Old
