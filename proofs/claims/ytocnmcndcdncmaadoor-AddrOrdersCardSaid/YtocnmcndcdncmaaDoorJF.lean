
/- A region of which four operations are ready. Any program. -/
import Derived.Test.YtocnmcndcdncmaaDoorJ
namespace Go.Proofs.YtocnmcndcdncmaaDoor
open Go.RowKit
section
variable {P : Program} {n : Nat} {f : Nat → Value} {w : World} {Q : Exit → Act → World → Prop} {ops : Array Oper} {M0 : List Ent} {fuel : Nat} {listed : Array Bool}
theorem rg_step4 (i j k l : Nat) {o o' o'' o3 : Oper} (hi : ops[i]? = some o) (hj : ops[j]? = some o') (hk : ops[k]? = some o'') (hl : ops[l]? = some o3) (hr : Region.ready .any ops listed = [i, j, k, l]) (hw : Region.wanted o (yielded ops (act n f).tmps) = true) (hw' : Region.wanted o' (yielded ops (act n f).tmps) = true) (hw'' : Region.wanted o'' (yielded ops (act n f).tmps) = true) (hw3 : Region.wanted o3 (yielded ops (act n f).tmps) = true) (hok : ∀ e ∈ M0, e.ok w)
    (h : ∀ K : Act → World → Prop, (∀ a' w', RG P ops Q M0 fuel (listed.setIfInBounds i true) a' w' → K a' w') → OW P o (act n f) w K (NoPanic Q))
    (h' : ∀ K : Act → World → Prop, (∀ a' w', RG P ops Q M0 fuel (listed.setIfInBounds j true) a' w' → K a' w') → OW P o' (act n f) w K (NoPanic Q))
    (h'' : ∀ K : Act → World → Prop, (∀ a' w', RG P ops Q M0 fuel (listed.setIfInBounds k true) a' w' → K a' w') → OW P o'' (act n f) w K (NoPanic Q))
    (h3 : ∀ K : Act → World → Prop, (∀ a' w', RG P ops Q M0 fuel (listed.setIfInBounds l true) a' w' → K a' w') → OW P o3 (act n f) w K (NoPanic Q)) : RG P ops Q M0 (fuel + 1) listed (act n f) w := by
  refine ⟨hok, wpAnyH_all hr (by simp) ?_⟩
  intro q hq
  simp only [List.mem_cons, List.not_mem_nil, or_false] at hq
  rcases hq with rfl | rfl | rfl | rfl
  · exact wpOp_mk hi hw (h _ fun a' w' hh => hh)
  · exact wpOp_mk hj hw' (h' _ fun a' w' hh => hh)
  · exact wpOp_mk hk hw'' (h'' _ fun a' w' hh => hh)
  · exact wpOp_mk hl hw3 (h3 _ fun a' w' hh => hh)
theorem ret4 {fn : Func} {R : Ending → World → Prop} {r s q p : ResultVar} {v u z y : Value} (hres : fn.results = #[r, s, q, p]) (h : Res P f n w r v) (k : Res P f n w s u) (l : Res P f n w q z) (m : Res P f n w p y) (hR : R (.returned (.tuple #[v, u, z, y])) w) : bodyPost P fn R .ret (act n f) w := by
  refine bodyPost_ret (v := .tuple #[v, u, z, y]) ?_ rfl hR
  unfold results
  rw [hres]
  cases h <;> cases k <;> cases l <;> cases m <;> simp_all [act_get', asAddr]
end
end Go.Proofs.YtocnmcndcdncmaaDoor
