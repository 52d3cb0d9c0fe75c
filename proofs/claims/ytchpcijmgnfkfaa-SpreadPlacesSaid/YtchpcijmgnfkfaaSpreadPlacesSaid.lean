/- The statement SpreadPlaces out of its walk: for every input the law returns true and its arguments read as before. Conditions: none. -/
import Derived.Test.YtchpcijmgnfkfaaKit
import Derived.Test.YtchpcijmgnfkfaaArgs
import Derived.Test.YtchpcijmgnfkfaaInit
import Derived.Test.YtchpcijmgnfkfaaSpreadPlaces
namespace Go.Proofs.Ytchpcijmgnfkfaa.SpreadPlaces
open Go.ChangeShapes Go.WideShapes Go.ChangeAt Go.RowKit
open Go.ChangeMaps (open_string)
set_option maxRecDepth 100000 in
theorem said : Rows.SpreadPlacesSaid :=
  law_said (s := Rows.spreadPlacesSpec) "counterfoil/counterfoillaw41.SpreadPlaces" 6 Try.f6 #[] (by kernel_rfl) Try.func6 (by unfold joinedFacts; rw [enter_, lifts_, make_]; kernel_rfl) (of_decide_eq_true (by kernel_rfl))
    (by unfold Func.isWrapper; first | (rw [if_pos (by decide +kernel)]; kernel_rfl) | (rw [if_neg (by decide +kernel)]; exact ⟨rfl, rfl⟩))
    (by kernel_rfl) (by kernel_rfl) (by kernel_rfl) Try.underlying4 rfl
    (fun H ds h => by rw [Try.params6] at h; match ds, h with | [_, _, _, _, _], _ => rfl)
    (fun os H enc => ChangeSpec.witness6 (enc := enc) (C := Try.checked) false ⟨#[], #[.int .i64 0, .slice none 0 0, .int .u32 0, .int .i64 0, .slice none 0 0], []⟩ 8 (by kernel_rfl) (by kernel_rfl) (by kernel_rfl) (by kernel_rfl))
    (fun H enc W base args ds ps hval hA hlt hfz hsz => by
      rw [Try.params6] at hA hval
      obtain ⟨v0, vs0, d0, ds0, p0, q0, hargs, rfl, rfl, h0, r0_⟩ := trodAll_cons hA
      obtain ⟨v1, vs1, d1, ds1, p1, q1, rfl, rfl, rfl, h1, r1_⟩ := trodAll_cons r0_
      obtain ⟨v2, vs2, d2, ds2, p2, q2, rfl, rfl, rfl, h2, r2_⟩ := trodAll_cons r1_
      obtain ⟨v3, vs3, d3, ds3, p3, q3, rfl, rfl, rfl, h3, r3_⟩ := trodAll_cons r2_
      obtain ⟨v4, vs4, d4, ds4, p4, q4, rfl, rfl, rfl, h4, r4_⟩ := trodAll_cons r3_
      obtain ⟨rfl, rfl, rfl⟩ := trodAll_nil r4_
      obtain rfl : args = #[v0, v1, v2, v3, v4] := by cases args; simp_all
      obtain ⟨a0, rfl, rfl, rfl, w0⟩ := open_int Try.underlying3 (hval 0 _ v0 rfl rfl) h0
      obtain ⟨A1, n1, c1, l1, rfl, r1⟩ := open_i64s Try.underlying53 Try.underlying3 (by kernel_rfl) (hval 1 _ v1 rfl rfl) h1 (fun x hx => hlt x (by simp [hx]))
      obtain ⟨a2, rfl, rfl, rfl, w2⟩ := open_int Try.underlying39 (hval 2 _ v2 rfl rfl) h2
      obtain ⟨a3, rfl, rfl, rfl, w3⟩ := open_int Try.underlying3 (hval 3 _ v3 rfl rfl) h3
      obtain ⟨A4, n4, c4, l4, rfl, r4⟩ := open_i64s Try.underlying53 Try.underlying3 (by kernel_rfl) (hval 4 _ v4 rfl rfl) h4 (fun x hx => hlt x (by simp [hx]))
      exact walk a0 A1 n1 c1 l1 a2 a3 A4 n4 c4 l4 W (wf_i64 w0) r1 (wf_u32 w2) (wf_i64 w3) r4)
#print axioms said
end Go.Proofs.Ytchpcijmgnfkfaa.SpreadPlaces
