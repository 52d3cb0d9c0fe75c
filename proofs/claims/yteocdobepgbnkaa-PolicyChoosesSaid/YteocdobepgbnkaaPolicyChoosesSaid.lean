/- The statement PolicyChooses out of its walk: for every input the law returns true and its arguments read as before. Conditions: none. -/
import Derived.Test.YteocdobepgbnkaaKit
import Derived.Test.YteocdobepgbnkaaArgs
import Derived.Test.YteocdobepgbnkaaInit
import Derived.Test.YteocdobepgbnkaaPolicyChooses
namespace Go.Proofs.Yteocdobepgbnkaa.PolicyChooses
open Go.ChangeShapes Go.WideShapes Go.ChangeAt Go.RowKit
open Go.ChangeMaps (open_string)
set_option maxRecDepth 100000 in
theorem said : Rows.PolicyChoosesSaid :=
  law_said (s := Rows.policyChoosesSpec) "counterfoil/counterfoillaw21.PolicyChooses" 5 Try.f5 #[] (by kernel_rfl) Try.func5 (by unfold joinedFacts; rw [enter_, lifts_, make_]; kernel_rfl) (of_decide_eq_true (by kernel_rfl))
    (by unfold Func.isWrapper; first | (rw [if_pos (by decide +kernel)]; kernel_rfl) | (rw [if_neg (by decide +kernel)]; exact ⟨rfl, rfl⟩))
    (by kernel_rfl) (by kernel_rfl) (by kernel_rfl) Try.underlying4 rfl
    (fun H ds h => by rw [Try.params5] at h; match ds, h with | [_], _ => rfl)
    (fun os H enc => ChangeSpec.witness6 (enc := enc) (C := Try.checked) false ⟨#[], #[.slice none 0 0], []⟩ 8 (by kernel_rfl) (by kernel_rfl) (by kernel_rfl) (by kernel_rfl))
    (fun H enc W base args ds ps hval hA hlt hfz hsz => by
      rw [Try.params5] at hA hval
      obtain ⟨v0, vs0, d0, ds0, p0, q0, hargs, rfl, rfl, h0, r0_⟩ := trodAll_cons hA
      obtain ⟨rfl, rfl, rfl⟩ := trodAll_nil r0_
      obtain rfl : args = #[v0] := by cases args; simp_all
      exact walk v0 W (hval 0 _ v0 rfl rfl) h0 (fun x hx => hlt x (by simp [hx])))
#print axioms said
end Go.Proofs.Yteocdobepgbnkaa.PolicyChooses
