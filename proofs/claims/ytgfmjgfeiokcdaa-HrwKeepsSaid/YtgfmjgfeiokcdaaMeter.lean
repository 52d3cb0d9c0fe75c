
/- meter.Bucket's methods by contracts: a Bucket is a block of four numbers. Conditions: none but bounds on the numbers. -/
import Derived.Test.YtgfmjgfeiokcdaaMath
import Derived.Test.YtgfmjgfeiokcdaaMem
import Derived.Test.YtgfmjgfeiokcdaaTypes
import Derived.Test.YtgfmjgfeiokcdaaRegion
import Derived.Test.YtgfmjgfeiokcdaaReader
import Derived.KernelRfl
import Derived.IntWalk
import Derived.StillTailTactics
namespace Go.Proofs.Ytgfmjgfeiokcdaa.Old
open Go.RowKit

def refL (r s l t now : Nat) : Nat := if now ≤ t then l else min (l + r * min (now - t) 2147483648) s


theorem refL_le {r s l t now : Nat} (h : l ≤ s) : refL r s l t now ≤ s := by unfold refL; split <;> omega

end Go.Proofs.Ytgfmjgfeiokcdaa.Old
