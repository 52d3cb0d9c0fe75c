
/- Strings: a byte at an index. Conditions: none. -/
import Derived.Test.YtocnmcndcdncmaaDoorArr
namespace Go.Proofs.YtocnmcndcdncmaaDoor
open Go.RowKit
theorem x_ixG {P : Program} {a : Act} {w : World} {x y : Operand} {d : Option Tmp} {ty s : TypeId} {pos : String} {aft : Array Edge} {g : Option (Nat × Bool)} {b : ByteArray} {k : IntKind} {j : Nat} {u : UInt8} (hs : P.underlying s = some .string) (hx : a.eval x = .string b) (hy : a.eval y = .int k (j : Int)) (hb : b[j]? = some u) :
    (execOp a.eval ⟨d, .index s x y, ty, pos, aft, g⟩).run P w = .ok (.value (.int .u8 (u.toNat : Int))) w := by
  unfold execOp
  simp [hx, hy, Instr.index, asIntOf, run_underlying hs, hb]
end Go.Proofs.YtocnmcndcdncmaaDoor
