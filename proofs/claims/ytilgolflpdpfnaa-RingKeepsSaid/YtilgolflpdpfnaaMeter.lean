/- meter.Bucket's methods by contracts: a Bucket is a block of four numbers. Conditions: none but bounds on the numbers. -/
import Derived.Test.YtilgolflpdpfnaaMath
import Derived.Test.YtilgolflpdpfnaaMem
import Derived.Test.YtilgolflpdpfnaaTypes
import Derived.Test.YtilgolflpdpfnaaRegion
import Derived.Test.YtilgolflpdpfnaaReader
import Derived.KernelRfl
import Derived.IntWalk
import Derived.StillTailTactics
namespace Go.Proofs.Ytilgolflpdpfnaa.Old
open Go.RowKit

end Go.Proofs.Ytilgolflpdpfnaa.Old
