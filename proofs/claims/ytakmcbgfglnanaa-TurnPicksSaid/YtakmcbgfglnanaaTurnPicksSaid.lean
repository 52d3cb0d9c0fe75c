/- The statement TurnPicks out of its walk: for every input the law returns true and its arguments read as before. Conditions: none. -/
import Derived.Test.YtakmcbgfglnanaaKit
import Derived.Test.YtakmcbgfglnanaaTurnPicks
namespace Go.Proofs.Ytakmcbgfglnanaa.TurnPicks
open Go.ChangeShapes Go.WideShapes Go.ChangeAt Go.RowKit
open Go.ChangeMaps (open_string)
set_option maxRecDepth 100000 in
theorem said : Rows.TurnPicksSaid :=
  law_said (s := Rows.turnPicksSpec) "counterfoil/counterfoillaw18.TurnPicks" 3 Try.f3 #[] (by kernel_rfl) Try.func3 (by kernel_rfl) (of_decide_eq_true (by kernel_rfl))
    (by unfold Func.isWrapper; first | (rw [if_pos (by decide +kernel)]; kernel_rfl) | (rw [if_neg (by decide +kernel)]; exact ⟨rfl, rfl⟩))
    (by kernel_rfl) (by kernel_rfl) (by kernel_rfl) Try.underlying4 rfl
    (fun H ds h => by rw [Try.params3] at h; match ds, h with | [_], _ => rfl)
    (fun os H enc => ChangeSpec.witness6 (enc := enc) (C := Try.checked) false ⟨#[], #[.slice none 0 0], []⟩ 8 (by kernel_rfl) (by kernel_rfl) (by kernel_rfl) (by kernel_rfl))
    (fun H enc W base args ds ps hval hA hlt hfz hsz => by
      rw [Try.params3] at hA hval
      obtain ⟨v0, vs0, d0, ds0, p0, q0, hargs, rfl, rfl, h0, r0_⟩ := trodAll_cons hA
      obtain ⟨rfl, rfl, rfl⟩ := trodAll_nil r0_
      obtain rfl : args = #[v0] := by cases args; simp_all
      exact walk v0 W (hval 0 _ v0 rfl rfl) h0 (fun x hx => hlt x (by simp [hx])))
#print axioms said
end Go.Proofs.Ytakmcbgfglnanaa.TurnPicks
