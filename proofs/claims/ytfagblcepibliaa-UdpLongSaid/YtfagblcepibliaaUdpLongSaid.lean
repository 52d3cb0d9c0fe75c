/- The statement UdpLong out of its walk: for every input the law returns true and its arguments read as before. Conditions: none. -/
import Derived.Test.YtfagblcepibliaaKit
import Derived.Test.YtfagblcepibliaaArgs
import Derived.Test.YtfagblcepibliaaInit
import Derived.Test.YtfagblcepibliaaUdpLong
namespace Go.Proofs.Ytfagblcepibliaa.UdpLong
open Go.ChangeShapes Go.WideShapes Go.ChangeAt Go.RowKit
open Go.ChangeMaps (open_string)
set_option maxRecDepth 100000 in
theorem said : Rows.UdpLongSaid :=
  law_said (s := Rows.udpLongSpec) "counterfoil/counterfoillaw07.UdpLong" 10 Try.f10 #[] (by kernel_rfl) Try.func10 (by unfold joinedFacts; rw [enter_, lifts_, make_]; kernel_rfl) (of_decide_eq_true (by kernel_rfl))
    (by unfold Func.isWrapper; first | (rw [if_pos (by decide +kernel)]; kernel_rfl) | (rw [if_neg (by decide +kernel)]; exact ⟨rfl, rfl⟩))
    (by kernel_rfl) (by kernel_rfl) (by kernel_rfl) Try.underlying4 rfl
    (fun H ds h => by rw [Try.params10] at h; match ds, h with | [_], _ => rfl)
    (fun os H enc => ChangeSpec.witness6 (enc := enc) (C := Try.checked) false ⟨#[], #[.int .u8 0], []⟩ 8 (by kernel_rfl) (by kernel_rfl) (by kernel_rfl) (by kernel_rfl))
    (fun H enc W base args ds ps hval hA hlt hfz hsz => by
      rw [Try.params10] at hA hval
      obtain ⟨v0, vs0, d0, ds0, p0, q0, hargs, rfl, rfl, h0, r0_⟩ := trodAll_cons hA
      obtain ⟨rfl, rfl, rfl⟩ := trodAll_nil r0_
      obtain rfl : args = #[v0] := by cases args; simp_all
      obtain ⟨a0, rfl, rfl, rfl, w0⟩ := open_int Try.underlying5 (hval 0 _ v0 rfl rfl) h0
      exact walk a0 W (wf_u8 w0))
#print axioms said
end Go.Proofs.Ytfagblcepibliaa.UdpLong
