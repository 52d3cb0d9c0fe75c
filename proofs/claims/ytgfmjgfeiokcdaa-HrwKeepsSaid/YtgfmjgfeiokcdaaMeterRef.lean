
/- The reference's bucket by contracts: a struct by value. Conditions: none but bounds on the numbers. -/
import Derived.Test.YtgfmjgfeiokcdaaMeterMore
import Derived.Laws.ResultCell
import Derived.Deep.Cut
import Derived.Deep.DeepCutAuto
namespace Go.Proofs.Ytgfmjgfeiokcdaa.Old
open Go.RowKit

theorem results_cell_one {fn : Func} {p : Tmp} {ty : TypeId} (h : fn.results = #[.cell p ty]) (tmps : Array Value) (P : Program) (w : World) :
    (results fn tmps).run P w = ((asAddr (tmps.getD p undef)).run P w).andThen fun a w₁ => (loadVar ty a).run P w₁ := by
  simp only [results, h]
  simp [Sem.run_bind, Result.andThen]
def bktV (r s l t : Nat) : Value := .agg #[.int .u64 (r : Int), .int .u64 (s : Int), .int .u64 (l : Int), .int .u64 (t : Int)]

theorem arr_new2 (w : World) (o : Obj) (t : TypeId) (l : List Value) : Arr ((w.alloc o).alloc (.cells l.toArray t)) (w.heap.size + 1) t l := by
  have := Arr.new (w.alloc o) t l
  simpa using this
theorem below2 (w : World) (o o' : Obj) : Below w.heap.size w ((w.alloc o).alloc o') := ((Below.refl _ _).alloc (Nat.le_refl _) _).alloc (by simp) _

end Go.Proofs.Ytgfmjgfeiokcdaa.Old
