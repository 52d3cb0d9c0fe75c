/- The chapter's example of siphash, and a key as an argument. Conditions: none. -/
import Derived.Test.YtilgolflpdpfnaaSipRefMain
import Derived.Test.YtilgolflpdpfnaaKit
namespace Go.Proofs.Ytilgolflpdpfnaa.Old
open Go.RowKit

end Go.Proofs.Ytilgolflpdpfnaa.Old
