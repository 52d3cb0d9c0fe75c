/- Calls of function values. Any program. -/
import Derived.Test.YtcobjneobdihkaaJ
namespace Go.Proofs.Ytcobjneobdihkaa
open Go.RowKit
section
variable {P : Program} {n d : Nat} {f : Nat → Value} {w : World} {ty : TypeId} {pos : String} {aft : Array Edge} {gd : Option (Nat × Bool)} {Q : Exit → Act → World → Prop}
theorem ow_dyn {K : Act → World → Prop} {x : Operand} {fid : FuncId} {fn : Func} {c : Code} {xs : List Operand} {ats : Array TypeId} {vs : List Value} {R : Ending → World → Prop} (hx : (act n f).eval x = .func (.func fid) #[] #[]) (hf : P.funcs[fid]? = some fn) (hb : fn.body = some c) (hn : (fn.name == "runtime.NumGoroutine") = false)
    (hv : xs.map (act n f).eval = vs) (hc : Calls P fid vs.toArray w R) (h : ∀ e w', R e w' → ∃ v, e = .returned v ∧ K (act n (upd f d v)) w') : OW P ⟨some d, .call { callee := .value x, args := xs.toArray, argTypes := ats }, ty, pos, aft, gd⟩ (act n f) w K Q := by
  refine ⟨?_⟩
  have he : (execOp (act n f).eval ⟨some d, .call { callee := .value x, args := xs.toArray, argTypes := ats }, ty, pos, aft, gd⟩).run P w = .ok (.enter fid vs.toArray) w := by
    have e2 : #[] ++ xs.toArray.map (act n f).eval ++ #[] = vs.toArray := by rw [List.map_toArray, hv]; simp
    have e1 : execOp (act n f).eval ⟨some d, .call { callee := .value x, args := xs.toArray, argTypes := ats }, ty, pos, aft, gd⟩ = callFunc fid (#[] ++ xs.toArray.map (act n f).eval ++ #[]) := by
      unfold execOp
      simp only [resolve, hx, Deferred.ofValue]
      rfl
    rw [e1, e2]
    unfold callFunc
    have hn' : ¬ fn.name = "runtime.NumGoroutine" := by simpa using hn
    simp [Sem.run_bind, program, Sem.run, hf, hn', hb]
  unfold Oper.wp
  rw [he]
  refine Calls.mono hc fun e w' hR => ?_
  obtain ⟨v, rfl, hk⟩ := h e w' hR
  show K ((act n f).put (some d) v) w'
  rw [act_put]
  exact hk
end
end Go.Proofs.Ytcobjneobdihkaa
