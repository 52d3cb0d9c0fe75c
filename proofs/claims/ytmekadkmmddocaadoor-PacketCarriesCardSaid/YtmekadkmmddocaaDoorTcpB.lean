/- tcp: Same, Of, To, Stamps, the law's awake, by contract. Conditions: none but bounds. -/
import Derived.Test.YtmekadkmmddocaaDoorTcpR
namespace Go.Proofs.YtmekadkmmddocaaDoor
open Go.RowKit

end Go.Proofs.YtmekadkmmddocaaDoor
