/- Reading a law's arguments: slices of int. -/
import Derived.Test.YtilgolflpdpfnaaKit
import Derived.Test.YtilgolflpdpfnaaTy
namespace Go.Proofs.Ytilgolflpdpfnaa
open Go.ChangeShapes Go.WideShapes Go.ChangeAt Go.RowKit
end Go.Proofs.Ytilgolflpdpfnaa
