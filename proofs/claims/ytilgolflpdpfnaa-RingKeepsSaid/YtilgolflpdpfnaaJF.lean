/- A region of which four operations are ready. Any program. -/
import Derived.Test.YtilgolflpdpfnaaJ
namespace Go.Proofs.Ytilgolflpdpfnaa
open Go.RowKit
section
variable {P : Program} {n : Nat} {f : Nat → Value} {w : World} {Q : Exit → Act → World → Prop} {ops : Array Oper} {M0 : List Ent} {fuel : Nat} {listed : Array Bool}
end
end Go.Proofs.Ytilgolflpdpfnaa
