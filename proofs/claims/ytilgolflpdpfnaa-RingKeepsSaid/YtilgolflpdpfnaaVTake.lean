/- varint.Take, All and the reference's Take by contracts. Conditions: bounds on lengths. -/
import Derived.Test.YtilgolflpdpfnaaReader
import Derived.Test.YtilgolflpdpfnaaVarint
import Derived.Test.YtilgolflpdpfnaaAppend
namespace Go.Proofs.Ytilgolflpdpfnaa.Old
open Go.RowKit

end Go.Proofs.Ytilgolflpdpfnaa.Old
