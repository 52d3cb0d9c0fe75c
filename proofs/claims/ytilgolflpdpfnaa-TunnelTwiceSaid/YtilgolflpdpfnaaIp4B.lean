/- ip4: Parse with errors, by contract. Conditions: none but bounds. -/
import Derived.Test.YtilgolflpdpfnaaIp4
namespace Go.Proofs.Ytilgolflpdpfnaa
open Go.RowKit
end Go.Proofs.Ytilgolflpdpfnaa
