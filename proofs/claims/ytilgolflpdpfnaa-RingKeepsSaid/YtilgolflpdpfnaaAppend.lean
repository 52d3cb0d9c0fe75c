/- append to a row that one owns, saying in which block the new row lies: the old one's, or a new one. Conditions: none but the bounds of a slice. -/
import Derived.Test.YtilgolflpdpfnaaMem
import Derived.Laws.AppendOwn
namespace Go.Proofs.Ytilgolflpdpfnaa
open Go.RowKit

end Go.Proofs.Ytilgolflpdpfnaa
