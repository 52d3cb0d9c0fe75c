
/- Proved: LpmEmpties returns true for every list of acts and address, and changes no memory that was there. Conditions: none. -/
import Derived.Test.YtlpgedncnefaoaaLpU
namespace Go.Proofs.Ytlpgedncnefaoaa
open Go.ChangeShapes Go.WideShapes Go.ChangeAt Go.RowKit
namespace LpmEmpties
set_option maxRecDepth 100000 in
theorem walk (v0 v1 : Value) (w0 : World) {H : Type} {enc : TypeId × Value → H} {r : Reach} {b0 b1 : Nat} {d0 d1 : DataW H} {p0 p1 : List MemPlace}
    (hval0 : Value.okWide Try.prog w0 r b0 22 v0) (hd0 : DataW.Trod enc Try.prog w0 0 (fun _ => true) true 22 v0 d0 p0) (hlt0 : ∀ p ∈ p0, p.block < w0.heap.size)
    (hval1 : Value.okWide Try.prog w0 r b1 25 v1) (hd1 : DataW.Trod enc Try.prog w0 0 (fun _ => true) true 25 v1 d1 p1) (hlt1 : ∀ p ∈ p1, p.block < w0.heap.size) :
    Calls Try.prog 4 #[v0, v1] w0 fun e w' => e = .returned (.bool true) ∧ Below w0.heap.size w0 w' := by
  obtain ⟨A, n, c, l, rfl, hv, hl, hlim⟩ := open_acts hval0 hd0 hlt0
  obtain ⟨a, rfl, hs⟩ := Ad.open_a hval1 hd1 hlt1
  refine Calls.mono (empties_c A n c l a w0 hv hl hlim (ad_lim hs)) ?_
  rintro e w' ⟨rfl, hk⟩
  exact ⟨rfl, hk.below⟩
end LpmEmpties
end Go.Proofs.Ytlpgedncnefaoaa
