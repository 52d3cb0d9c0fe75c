/- ip4: Parse with errors, by contract. Conditions: none but bounds. -/
import Derived.Test.YtcobjneobdihkaaIp4
namespace Go.Proofs.Ytcobjneobdihkaa
open Go.RowKit
end Go.Proofs.Ytcobjneobdihkaa
