
/- octet's Put and the reference's Bytes; bytes.Clone, by contract. Conditions: none but bounds. -/
import Derived.Test.YtlpgedncnefaoaaNum
import Derived.Test.YtlpgedncnefaoaaTy
namespace Go.Proofs.Ytlpgedncnefaoaa
open Go.RowKit

end Go.Proofs.Ytlpgedncnefaoaa
