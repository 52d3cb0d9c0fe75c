
/- ip4: the reference's Same, Of, To, by contract. Conditions: none but bounds. -/
import Derived.Test.YtpibinkekfkafaaIp4B
namespace Go.Proofs.Ytpibinkekfkafaa
open Go.RowKit

end Go.Proofs.Ytpibinkekfkafaa
