
/- Proved: LpmCuts returns true for every address and length, and changes no memory that was there. Conditions: none. -/
import Derived.Test.YtlpapbjnanmdgaaLpL
import Derived.Test.YtlpapbjnanmdgaaArgs
namespace Go.Proofs.Ytlpapbjnanmdgaa
open Go.ChangeShapes Go.WideShapes Go.ChangeAt Go.RowKit
namespace LpmCuts
set_option maxRecDepth 100000 in
theorem walk (v : Value) (z : Int) (w0 : World) {H : Type} {enc : TypeId × Value → H} {r : Reach} {b0 : Nat} {d : DataW H} {ps : List MemPlace} (hval : Value.okWide Try.prog w0 r b0 24 v) (hd : DataW.Trod enc Try.prog w0 0 (fun _ => true) true 24 v d ps) (hlt : ∀ p ∈ ps, p.block < w0.heap.size)
    (hz : -9223372036854775808 ≤ z ∧ z ≤ 9223372036854775807) :
    Calls Try.prog 3 #[v, .int .i64 z] w0 fun e w' => e = .returned (.bool true) ∧ Below w0.heap.size w0 w' := by
  obtain ⟨a, rfl, hs⟩ := Ad.open_a hval hd hlt
  have hl : adLim a := ⟨by have := hs; simp [Ad.ok] at this; omega, by have := hs; simp [Ad.ok] at this; omega⟩
  refine Calls.mono (lpmCuts_t a z (min (max z 0) (adBits a : Int)).toNat w0 hl (by omega)) ?_
  rintro e w' ⟨rfl, hk⟩
  exact ⟨rfl, hk.below⟩
end LpmCuts
end Go.Proofs.Ytlpapbjnanmdgaa
