
/- tcp: the reference's Parse, by contract. Conditions: none but bounds. -/
import Derived.Test.YtchpcijmgnfkfaaTcp
namespace Go.Proofs.Ytchpcijmgnfkfaa
open Go.RowKit

end Go.Proofs.Ytchpcijmgnfkfaa
