/- The statement HrwRanks out of its walk: for every input the law returns true and its arguments read as before. Conditions: none. -/
import Derived.Test.YtgfmjgfeiokcdaaKit
import Derived.Test.YtgfmjgfeiokcdaaArgs
import Derived.Test.YtgfmjgfeiokcdaaKitW
import Derived.Test.YtgfmjgfeiokcdaaInit
import Derived.Test.YtgfmjgfeiokcdaaHrwRanks
namespace Go.Proofs.Ytgfmjgfeiokcdaa.HrwRanks
open Go.ChangeShapes Go.WideShapes Go.ChangeAt Go.RowKit
open Go.ChangeMaps (open_string)
set_option maxRecDepth 100000 in
theorem said : Rows.HrwRanksSaid :=
  law_saidW true true (s := Rows.hrwRanksSpec) "counterfoil/counterfoillaw16.HrwRanks" 3 Try.f3 #[] (by kernel_rfl) Try.func3 (by unfold joinedFacts; rw [enter_, lifts_, make_]; kernel_rfl) (of_decide_eq_true (by kernel_rfl))
    (by unfold Func.isWrapper; first | (rw [if_pos (by decide +kernel)]; kernel_rfl) | (rw [if_neg (by decide +kernel)]; exact ⟨rfl, rfl⟩))
    (by kernel_rfl) (by kernel_rfl) (by kernel_rfl) Try.underlying4 rfl
    (fun H ds h => by rw [Try.params3] at h; match ds, h with | [_, _, _], _ => rfl)
    (fun os H enc => ChangeSpec.witness6 (enc := enc) (C := Try.checked) false ⟨#[], #[.agg #[.int .u8 0, .int .u8 0, .int .u8 0, .int .u8 0, .int .u8 0, .int .u8 0, .int .u8 0, .int .u8 0, .int .u8 0, .int .u8 0, .int .u8 0, .int .u8 0, .int .u8 0, .int .u8 0, .int .u8 0, .int .u8 0], .slice none 0 0, .slice none 0 0], []⟩ 8 (by kernel_rfl) (by kernel_rfl) (by kernel_rfl) (by kernel_rfl))
    (fun H enc W base args ds ps hval hA hlt hfz hsz => by
      rw [Try.params3] at hA hval
      obtain ⟨v0, vs0, d0, ds0, p0, q0, hargs, rfl, rfl, h0, r0_⟩ := trodAll_cons hA
      obtain ⟨v1, vs1, d1, ds1, p1, q1, rfl, rfl, rfl, h1, r1_⟩ := trodAll_cons r0_
      obtain ⟨v2, vs2, d2, ds2, p2, q2, rfl, rfl, rfl, h2, r2_⟩ := trodAll_cons r1_
      obtain ⟨rfl, rfl, rfl⟩ := trodAll_nil r2_
      obtain rfl : args = #[v0, v1, v2] := by cases args; simp_all
      obtain ⟨A2, n2, c2, l2, rfl, r2⟩ := open_row (k := .u8) rfl Try.underlying24 Try.underlying5 (by kernel_rfl) (hval 2 _ v2 rfl rfl) h2 (fun x hx => hlt x (by simp [hx]))
      exact walk v0 v1 A2 n2 c2 l2 W (hval 0 _ v0 rfl rfl) h0 (hval 1 _ v1 rfl rfl) h1 (fun x hx => hlt x (by simp [hx])) r2)
#print axioms said
end Go.Proofs.Ytgfmjgfeiokcdaa.HrwRanks
