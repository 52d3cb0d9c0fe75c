/- The statement DiskKeeps out of its walk: for every input the law returns true and its arguments read as before. Conditions: none. -/
import Derived.Test.YtchpcijmgnfkfaaKit
import Derived.Test.YtchpcijmgnfkfaaArgs
import Derived.Test.YtchpcijmgnfkfaaInit
import Derived.Test.YtchpcijmgnfkfaaDiskKeeps
namespace Go.Proofs.Ytchpcijmgnfkfaa.DiskKeeps
open Go.ChangeShapes Go.WideShapes Go.ChangeAt Go.RowKit
open Go.ChangeMaps (open_string)
set_option maxRecDepth 100000 in
theorem said : Rows.DiskKeepsSaid :=
  law_said (s := Rows.diskKeepsSpec) "counterfoil/counterfoillaw24.DiskKeeps" 16 Try.f16 #[] (by kernel_rfl) Try.func16 (by unfold joinedFacts; rw [enter_, lifts_, make_]; kernel_rfl) (of_decide_eq_true (by kernel_rfl))
    (by unfold Func.isWrapper; first | (rw [if_pos (by decide +kernel)]; kernel_rfl) | (rw [if_neg (by decide +kernel)]; exact ⟨rfl, rfl⟩))
    (by kernel_rfl) (by kernel_rfl) (by kernel_rfl) Try.underlying4 rfl
    (fun H ds h => by rw [Try.params16] at h; match ds, h with | [_, _, _, _], _ => rfl)
    (fun os H enc => ChangeSpec.witness6 (enc := enc) (C := Try.checked) false ⟨#[], #[.slice none 0 0, .slice none 0 0, .int .i64 0, .int .u8 0], []⟩ 8 (by kernel_rfl) (by kernel_rfl) (by kernel_rfl) (by kernel_rfl))
    (fun H enc W base args ds ps hval hA hlt hfz hsz => by
      rw [Try.params16] at hA hval
      obtain ⟨v0, vs0, d0, ds0, p0, q0, hargs, rfl, rfl, h0, r0_⟩ := trodAll_cons hA
      obtain ⟨v1, vs1, d1, ds1, p1, q1, rfl, rfl, rfl, h1, r1_⟩ := trodAll_cons r0_
      obtain ⟨v2, vs2, d2, ds2, p2, q2, rfl, rfl, rfl, h2, r2_⟩ := trodAll_cons r1_
      obtain ⟨v3, vs3, d3, ds3, p3, q3, rfl, rfl, rfl, h3, r3_⟩ := trodAll_cons r2_
      obtain ⟨rfl, rfl, rfl⟩ := trodAll_nil r3_
      obtain rfl : args = #[v0, v1, v2, v3] := by cases args; simp_all
      obtain ⟨A0, n0, c0, l0, rfl, r0⟩ := open_row (k := .u8) rfl Try.underlying36 Try.underlying5 (by kernel_rfl) (hval 0 _ v0 rfl rfl) h0 (fun x hx => hlt x (by simp [hx]))
      obtain ⟨A1, n1, c1, l1, rfl, r1⟩ := open_row (k := .u8) rfl Try.underlying36 Try.underlying5 (by kernel_rfl) (hval 1 _ v1 rfl rfl) h1 (fun x hx => hlt x (by simp [hx]))
      obtain ⟨a2, rfl, rfl, rfl, w2⟩ := open_int Try.underlying3 (hval 2 _ v2 rfl rfl) h2
      obtain ⟨a3, rfl, rfl, rfl, w3⟩ := open_int Try.underlying5 (hval 3 _ v3 rfl rfl) h3
      exact walk A0 n0 c0 l0 A1 n1 c1 l1 a2 a3 W r0 r1 (wf_i64 w2) (wf_u8 w3))
#print axioms said
end Go.Proofs.Ytchpcijmgnfkfaa.DiskKeeps
