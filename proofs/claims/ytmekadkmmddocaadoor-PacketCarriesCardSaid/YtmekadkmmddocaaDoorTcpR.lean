/- tcp: the reference's Parse, by contract. Conditions: none but bounds. -/
import Derived.Test.YtmekadkmmddocaaDoorTcp
namespace Go.Proofs.YtmekadkmmddocaaDoor
open Go.RowKit

end Go.Proofs.YtmekadkmmddocaaDoor
