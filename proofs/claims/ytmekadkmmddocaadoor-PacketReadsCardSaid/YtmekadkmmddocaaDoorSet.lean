/- octet's Set and the reference's Set, by contract. Conditions: none but bounds. -/
import Derived.Test.YtmekadkmmddocaaDoorJoin
namespace Go.Proofs.YtmekadkmmddocaaDoor
open Go.RowKit

end Go.Proofs.YtmekadkmmddocaaDoor
