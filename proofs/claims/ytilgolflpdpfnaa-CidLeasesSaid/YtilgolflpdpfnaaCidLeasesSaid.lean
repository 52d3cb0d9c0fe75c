/- The statement CidLeases out of its walk: for every input the law returns true and its arguments read as before. Conditions: none. -/
import Derived.Test.YtilgolflpdpfnaaKit
import Derived.Test.YtilgolflpdpfnaaArgs
import Derived.Test.YtilgolflpdpfnaaInit
import Derived.Test.YtilgolflpdpfnaaCidLeases
namespace Go.Proofs.Ytilgolflpdpfnaa.CidLeases
open Go.ChangeShapes Go.WideShapes Go.ChangeAt Go.RowKit
open Go.ChangeMaps (open_string)
set_option maxRecDepth 100000 in
theorem said : Rows.CidLeasesSaid :=
  law_said (s := Rows.cidLeasesSpec) "counterfoil/counterfoillaw13.CidLeases" 11 Try.f11 #[] (by kernel_rfl) Try.func11 (by unfold joinedFacts; rw [enter_, lifts_, make_]; kernel_rfl) (of_decide_eq_true (by kernel_rfl))
    (by unfold Func.isWrapper; first | (rw [if_pos (by decide +kernel)]; kernel_rfl) | (rw [if_neg (by decide +kernel)]; exact ⟨rfl, rfl⟩))
    (by kernel_rfl) (by kernel_rfl) (by kernel_rfl) Try.underlying4 rfl
    (fun H ds h => by rw [Try.params11] at h; match ds, h with | [_, _, _, _], _ => rfl)
    (fun os H enc => ChangeSpec.witness6 (enc := enc) (C := Try.checked) false ⟨#[], #[.agg #[.int .u8 0, .int .u8 0, .int .u8 0, .int .u8 0, .int .u8 0, .int .u8 0, .int .u8 0, .int .u8 0, .int .u8 0, .int .u8 0, .int .u8 0, .int .u8 0, .int .u8 0, .int .u8 0, .int .u8 0, .int .u8 0, .int .u64 0], .agg #[.int .u64 0, .int .u64 0], .agg #[.int .i64 0, .int .i64 0], .int .u64 0], []⟩ 8 (by kernel_rfl) (by kernel_rfl) (by kernel_rfl) (by kernel_rfl))
    (fun H enc W base args ds ps hval hA hlt hfz hsz => by
      rw [Try.params11] at hA hval
      obtain ⟨v0, vs0, d0, ds0, p0, q0, hargs, rfl, rfl, h0, r0_⟩ := trodAll_cons hA
      obtain ⟨v1, vs1, d1, ds1, p1, q1, rfl, rfl, rfl, h1, r1_⟩ := trodAll_cons r0_
      obtain ⟨v2, vs2, d2, ds2, p2, q2, rfl, rfl, rfl, h2, r2_⟩ := trodAll_cons r1_
      obtain ⟨v3, vs3, d3, ds3, p3, q3, rfl, rfl, rfl, h3, r3_⟩ := trodAll_cons r2_
      obtain ⟨rfl, rfl, rfl⟩ := trodAll_nil r3_
      obtain rfl : args = #[v0, v1, v2, v3] := by cases args; simp_all
      obtain ⟨a3, rfl, rfl, rfl, w3⟩ := open_int Try.underlying24 (hval 3 _ v3 rfl rfl) h3
      exact walk v0 v1 v2 a3 W (hval 0 _ v0 rfl rfl) h0 (fun x hx => hlt x (by simp [hx])) (hval 1 _ v1 rfl rfl) h1 (fun x hx => hlt x (by simp [hx])) (hval 2 _ v2 rfl rfl) h2 (fun x hx => hlt x (by simp [hx])) (wf_u64 w3))
#print axioms said
end Go.Proofs.Ytilgolflpdpfnaa.CidLeases
