/- The statement TunnelReads out of its walk: for every input the law returns true and its arguments read as before. Conditions: none. -/
import Derived.Test.YtilgolflpdpfnaaKit
import Derived.Test.YtilgolflpdpfnaaArgs
import Derived.Test.YtilgolflpdpfnaaInit
import Derived.Test.YtilgolflpdpfnaaTunnelReads
namespace Go.Proofs.Ytilgolflpdpfnaa.TunnelReads
open Go.ChangeShapes Go.WideShapes Go.ChangeAt Go.RowKit
open Go.ChangeMaps (open_string)
set_option maxRecDepth 100000 in
theorem said : Rows.TunnelReadsSaid :=
  law_said (s := Rows.tunnelReadsSpec) "counterfoil/counterfoillaw09.TunnelReads" 3 Try.f3 #[] (by kernel_rfl) Try.func3 (by unfold joinedFacts; rw [enter_, lifts_, make_]; kernel_rfl) (of_decide_eq_true (by kernel_rfl))
    (by unfold Func.isWrapper; first | (rw [if_pos (by decide +kernel)]; kernel_rfl) | (rw [if_neg (by decide +kernel)]; exact ⟨rfl, rfl⟩))
    (by kernel_rfl) (by kernel_rfl) (by kernel_rfl) Try.underlying4 rfl
    (fun H ds h => by rw [Try.params3] at h; match ds, h with | [_], _ => rfl)
    (fun os H enc => ChangeSpec.witness6 (enc := enc) (C := Try.checked) false ⟨#[], #[.slice none 0 0], []⟩ 8 (by kernel_rfl) (by kernel_rfl) (by kernel_rfl) (by kernel_rfl))
    (fun H enc W base args ds ps hval hA hlt hfz hsz => by
      rw [Try.params3] at hA hval
      obtain ⟨v0, vs0, d0, ds0, p0, q0, hargs, rfl, rfl, h0, r0_⟩ := trodAll_cons hA
      obtain ⟨rfl, rfl, rfl⟩ := trodAll_nil r0_
      obtain rfl : args = #[v0] := by cases args; simp_all
      obtain ⟨A0, n0, c0, l0, rfl, r0⟩ := open_row (k := .u8) rfl Try.underlying22 Try.underlying5 (by kernel_rfl) (hval 0 _ v0 rfl rfl) h0 (fun x hx => hlt x (by simp [hx]))
      exact walk A0 n0 c0 l0 W r0)
#print axioms said
end Go.Proofs.Ytilgolflpdpfnaa.TunnelReads
