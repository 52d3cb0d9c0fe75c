/- A region of which four operations are ready. Any program. -/
import Derived.Test.YtilgolflpdpfnaaJ
namespace Go.Proofs.Ytilgolflpdpfnaa
open Go.RowKit
section
variable {P : Program} {n : Nat} {f : Nat → Value} {w : World} {Q : Exit → Act → World → Prop} {ops : Array Oper} {M0 : List Ent} {fuel : Nat} {listed : Array Bool}
theorem ret4 {fn : Func} {R : Ending → World → Prop} {r s q p : ResultVar} {v u z y : Value} (hres : fn.results = #[r, s, q, p]) (h : Res P f n w r v) (k : Res P f n w s u) (l : Res P f n w q z) (m : Res P f n w p y) (hR : R (.returned (.tuple #[v, u, z, y])) w) : bodyPost P fn R .ret (act n f) w := by
  refine bodyPost_ret (v := .tuple #[v, u, z, y]) ?_ rfl hR
  unfold results
  rw [hres]
  cases h <;> cases k <;> cases l <;> cases m <;> simp_all [act_get', asAddr]
end
end Go.Proofs.Ytilgolflpdpfnaa
