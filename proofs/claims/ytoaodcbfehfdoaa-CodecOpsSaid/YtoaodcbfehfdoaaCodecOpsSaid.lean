/- The statement CodecOps out of its walk: for every input the law returns true and its arguments read as before. Conditions: none. -/
import Derived.Test.YtoaodcbfehfdoaaKit
import Derived.Test.YtoaodcbfehfdoaaArgs
import Derived.Test.YtoaodcbfehfdoaaInit
import Derived.Test.YtoaodcbfehfdoaaCodecOps
namespace Go.Proofs.Ytoaodcbfehfdoaa.CodecOps
open Go.ChangeShapes Go.WideShapes Go.ChangeAt Go.RowKit
open Go.ChangeMaps (open_string)
set_option maxRecDepth 100000 in
theorem said : Rows.CodecOpsSaid :=
  law_said (s := Rows.codecOpsSpec) "counterfoil/counterfoillaw23.CodecOps" 3 Try.f3 #[] (by kernel_rfl) Try.func3 (by unfold joinedFacts; rw [enter_, lifts_, make_]; kernel_rfl) (of_decide_eq_true (by kernel_rfl))
    (by unfold Func.isWrapper; first | (rw [if_pos (by decide +kernel)]; kernel_rfl) | (rw [if_neg (by decide +kernel)]; exact ⟨rfl, rfl⟩))
    (by kernel_rfl) (by kernel_rfl) (by kernel_rfl) Try.underlying4 rfl
    (fun H ds h => by rw [Try.params3] at h; match ds, h with | [_, _], _ => rfl)
    (fun os H enc => ChangeSpec.witness6 (enc := enc) (C := Try.checked) false ⟨#[], #[.agg #[.int .i64 0, .int .i64 0, .int .i64 0, .int .i64 0, .bool false, .int .u64 0, .int .u64 0, .int .u16 0, .int .u8 0, .int .i64 0, .slice none 0 0], .slice none 0 0], []⟩ 8 (by kernel_rfl) (by kernel_rfl) (by kernel_rfl) (by kernel_rfl))
    (fun H enc W base args ds ps hval hA hlt hfz hsz => by
      rw [Try.params3] at hA hval
      obtain ⟨v0, vs0, d0, ds0, p0, q0, hargs, rfl, rfl, h0, r0_⟩ := trodAll_cons hA
      obtain ⟨v1, vs1, d1, ds1, p1, q1, rfl, rfl, rfl, h1, r1_⟩ := trodAll_cons r0_
      obtain ⟨rfl, rfl, rfl⟩ := trodAll_nil r1_
      obtain rfl : args = #[v0, v1] := by cases args; simp_all
      obtain ⟨A1, n1, c1, l1, rfl, r1⟩ := open_row (k := .u8) rfl Try.underlying29 Try.underlying5 (by kernel_rfl) (hval 1 _ v1 rfl rfl) h1 (fun x hx => hlt x (by simp [hx]))
      exact walk v0 A1 n1 c1 l1 W (hval 0 _ v0 rfl rfl) h0 (fun x hx => hlt x (by simp [hx])) r1)
#print axioms said
end Go.Proofs.Ytoaodcbfehfdoaa.CodecOps
