/- The statement HrwKeeps out of its walk: for every input the law returns true and its arguments read as before. Conditions: none. -/
import Derived.Test.YtgfmjgfeiokcdaaKit
import Derived.Test.YtgfmjgfeiokcdaaArgs
import Derived.Test.YtgfmjgfeiokcdaaKitW
import Derived.Test.YtgfmjgfeiokcdaaInit
import Derived.Test.YtgfmjgfeiokcdaaHrwKeeps
namespace Go.Proofs.Ytgfmjgfeiokcdaa.HrwKeeps
open Go.ChangeShapes Go.WideShapes Go.ChangeAt Go.RowKit
open Go.ChangeMaps (open_string)
set_option maxRecDepth 100000 in
theorem said : Rows.HrwKeepsSaid :=
  law_saidW true true (s := Rows.hrwKeepsSpec) "counterfoil/counterfoillaw16.HrwKeeps" 4 Try.f4 #[] (by kernel_rfl) Try.func4 (by unfold joinedFacts; rw [enter_, lifts_, make_]; kernel_rfl) (of_decide_eq_true (by kernel_rfl))
    (by unfold Func.isWrapper; first | (rw [if_pos (by decide +kernel)]; kernel_rfl) | (rw [if_neg (by decide +kernel)]; exact ⟨rfl, rfl⟩))
    (by kernel_rfl) (by kernel_rfl) (by kernel_rfl) Try.underlying4 rfl
    (fun H ds h => by rw [Try.params4] at h; match ds, h with | [_, _, _, _], _ => rfl)
    (fun os H enc => ChangeSpec.witness6 (enc := enc) (C := Try.checked) false ⟨#[], #[.agg #[.int .u8 0, .int .u8 0, .int .u8 0, .int .u8 0, .int .u8 0, .int .u8 0, .int .u8 0, .int .u8 0, .int .u8 0, .int .u8 0, .int .u8 0, .int .u8 0, .int .u8 0, .int .u8 0, .int .u8 0, .int .u8 0], .slice none 0 0, .int .u8 0, .slice none 0 0], []⟩ 8 (by kernel_rfl) (by kernel_rfl) (by kernel_rfl) (by kernel_rfl))
    (fun H enc W base args ds ps hval hA hlt hfz hsz => by
      rw [Try.params4] at hA hval
      obtain ⟨v0, vs0, d0, ds0, p0, q0, hargs, rfl, rfl, h0, r0_⟩ := trodAll_cons hA
      obtain ⟨v1, vs1, d1, ds1, p1, q1, rfl, rfl, rfl, h1, r1_⟩ := trodAll_cons r0_
      obtain ⟨v2, vs2, d2, ds2, p2, q2, rfl, rfl, rfl, h2, r2_⟩ := trodAll_cons r1_
      obtain ⟨v3, vs3, d3, ds3, p3, q3, rfl, rfl, rfl, h3, r3_⟩ := trodAll_cons r2_
      obtain ⟨rfl, rfl, rfl⟩ := trodAll_nil r3_
      obtain rfl : args = #[v0, v1, v2, v3] := by cases args; simp_all
      obtain ⟨a2, rfl, rfl, rfl, w2⟩ := open_int Try.underlying5 (hval 2 _ v2 rfl rfl) h2
      obtain ⟨A3, n3, c3, l3, rfl, r3⟩ := open_row (k := .u8) rfl Try.underlying24 Try.underlying5 (by kernel_rfl) (hval 3 _ v3 rfl rfl) h3 (fun x hx => hlt x (by simp [hx]))
      exact walk v0 v1 a2 A3 n3 c3 l3 W (hval 0 _ v0 rfl rfl) h0 (hval 1 _ v1 rfl rfl) h1 (fun x hx => hlt x (by simp [hx])) (wf_u8 w2) r3)
#print axioms said
end Go.Proofs.Ytgfmjgfeiokcdaa.HrwKeeps
