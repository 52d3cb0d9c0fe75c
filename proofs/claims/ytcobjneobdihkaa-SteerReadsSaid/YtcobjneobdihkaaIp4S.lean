/- ip4: the reference's Same, Of, To, by contract. Conditions: none but bounds. -/
import Derived.Test.YtcobjneobdihkaaIp4B
namespace Go.Proofs.Ytcobjneobdihkaa
open Go.RowKit

end Go.Proofs.Ytcobjneobdihkaa
