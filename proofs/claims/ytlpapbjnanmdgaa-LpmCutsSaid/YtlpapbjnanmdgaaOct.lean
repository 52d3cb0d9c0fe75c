
/- octet's Put and the reference's Bytes; bytes.Clone, by contract. Conditions: none but bounds. -/
import Derived.Test.YtlpapbjnanmdgaaNum
import Derived.Test.YtlpapbjnanmdgaaTy
namespace Go.Proofs.Ytlpapbjnanmdgaa
open Go.RowKit

end Go.Proofs.Ytlpapbjnanmdgaa
