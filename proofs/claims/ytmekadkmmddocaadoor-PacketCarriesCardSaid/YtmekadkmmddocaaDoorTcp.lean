/- tcp: Parse and the reference's Parse, Same, the law's Of and To, by contract. Conditions: none but bounds. -/
import Derived.Test.YtmekadkmmddocaaDoorRd
namespace Go.Proofs.YtmekadkmmddocaaDoor
open Go.RowKit

def segV (sp dp seq ack fl win sum urg : Nat) (O : Option Addr) (m c : Nat) (L : Option Addr) (k d : Nat) : List Value :=
  [.int .u16 (sp : Int), .int .u16 (dp : Int), .int .u32 (seq : Int), .int .u32 (ack : Int), .int .u8 (fl : Int), .int .u16 (win : Int), .int .u16 (sum : Int), .int .u16 (urg : Int), .slice O m c, .slice L k d]

end Go.Proofs.YtmekadkmmddocaaDoor
