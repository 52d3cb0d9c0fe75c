/- ip4: the reference's Parse, Same, Of, To, by contract. Conditions: none but bounds. -/
import Derived.Test.YtmekadkmmddocaaDoorIp4B
namespace Go.Proofs.YtmekadkmmddocaaDoor
open Go.RowKit
end Go.Proofs.YtmekadkmmddocaaDoor
