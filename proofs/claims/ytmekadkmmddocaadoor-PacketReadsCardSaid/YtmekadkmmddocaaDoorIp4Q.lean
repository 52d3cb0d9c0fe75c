/- ip4: the reference's Bytes and Packet, by contract. Conditions: none but bounds. -/
import Derived.Test.YtmekadkmmddocaaDoorIp4P
namespace Go.Proofs.YtmekadkmmddocaaDoor
open Go.RowKit
end Go.Proofs.YtmekadkmmddocaaDoor
