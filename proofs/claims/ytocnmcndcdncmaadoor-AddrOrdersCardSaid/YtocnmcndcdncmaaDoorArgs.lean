
/- Reading a law's arguments: slices of int. -/
import Derived.Test.YtocnmcndcdncmaaDoorKit
import Derived.Test.YtocnmcndcdncmaaDoorTy
namespace Go.Proofs.YtocnmcndcdncmaaDoor
open Go.ChangeShapes Go.WideShapes Go.ChangeAt Go.RowKit
def I64 (z : Int) : Prop := -9223372036854775808 ≤ z ∧ z ≤ 9223372036854775807
theorem open_i64s {H : Type} {enc : TypeId × Value → H} {P : Program} {w : World} {t e : TypeId} {v : Value} {d : DataW H} {ps : List MemPlace} {r : Reach} {b0 : Nat} (ht : P.underlying t = some (.slice e)) (he : P.underlying e = some (.int .i64)) (hc : P.cellsOf e = 1)
    (hval : Value.okWide P w r b0 t v) (hd : DataW.Trod enc P w 0 (fun _ => true) true t v d ps) (hlt : ∀ x ∈ ps, x.block < w.heap.size) :
    ∃ (A : Option Addr) (n c : Nat) (l : List Int), v = .slice A n c ∧ l.length = n ∧ (A = none → c = 0) ∧ (∀ x ∈ l, I64 x) ∧ View w w.heap.size A (l.map i64v) ∧ n ≤ c := by
  obtain ⟨A, n, c, zs, rfl, hn, hA, hnc, _, hwf, hv⟩ := open_ints_arg ht he hc hval hd hlt
  refine ⟨A, n, c, zs, rfl, hn, hA, ?_, hv, hnc⟩
  intro x hx
  have := hwf x hx
  simp [Lit.wf, IntKind.min, IntKind.max, IntKind.signed, IntKind.bits] at this
  exact ⟨by omega, by omega⟩
end Go.Proofs.YtocnmcndcdncmaaDoor
