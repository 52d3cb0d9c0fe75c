
/- Reading a law's arguments: slices of candidates. -/
import Derived.Test.YteocdobepgbnkaaArgs
import Derived.Test.YteocdobepgbnkaaSmooth
namespace Go.Proofs.Yteocdobepgbnkaa
open Go.ChangeShapes Go.WideShapes Go.ChangeAt Go.RowKit
def Cn.ok (p : Cn) : Prop := I64 p.slot ∧ I64 p.backend ∧ I64 p.weight ∧ (0 ≤ p.load ∧ p.load ≤ 4294967295)
set_option maxRecDepth 100000 in
theorem open_cns {H : Type} {enc : TypeId × Value → H} {r : Reach} {b0 : Nat} {v : Value} {d : DataW H} {ps : List MemPlace} {w : World}
    (hval : Value.okWide Try.prog w r b0 30 v) (hd : DataW.Trod enc Try.prog w 0 (fun _ => true) true 30 v d ps) (hlt : ∀ x ∈ ps, x.block < w.heap.size) :
    ∃ (A : Option Addr) (c : Nat) (l : List Cn), v = .slice A l.length c ∧ (A = none → c = 0) ∧ l.length ≤ c ∧ c ≤ maxLen ∧ View w w.heap.size A (flat cnV l) ∧ ∀ p ∈ l, p.ok := by
  have hC : Try.prog.cellsOf 40 = 4 := by kernel_rfl
  obtain ⟨A, n, c, es, rfl, hn, hA, hnc, hcm, hv, hes⟩ := open_elems Try.underlying30 (by rw [hC]; omega) hval hd hlt
  obtain ⟨l, rfl, hl⟩ := list_decode cnV Cn.ok es (by
    intro cs hcs
    obtain ⟨hl, m, x, ht, _⟩ := hes cs hcs
    rw [hC] at hl
    have hf := struct_fields Try.underlying40 (by kernel_rfl) ht hl
    obtain ⟨v0, y0, k0, h0, t0, _⟩ := hf 0 _ rfl
    obtain ⟨v1, y1, k1, h1, t1, _⟩ := hf 1 _ rfl
    obtain ⟨v2, y2, k2, h2, t2, _⟩ := hf 2 _ rfl
    obtain ⟨v3, y3, k3, h3, t3, _⟩ := hf 3 _ rfl
    obtain ⟨z0, e0, _, z0w⟩ := DataW.trod_int Try.underlying3 t0
    obtain ⟨z1, e1, _, z1w⟩ := DataW.trod_int Try.underlying3 t1
    obtain ⟨z2, e2, _, z2w⟩ := DataW.trod_int Try.underlying3 t2
    obtain ⟨z3, e3, _, z3w⟩ := DataW.trod_int Try.underlying31 t3
    injection e0 with e0; injection e1 with e1; injection e2 with e2; injection e3 with e3
    subst e0; subst e1; subst e2; subst e3
    simp [Lit.wf, IntKind.min, IntKind.max, IntKind.signed, IntKind.bits] at z0w z1w z2w z3w
    refine ⟨⟨z0, z1, z2, z3⟩, ?_, (by unfold Cn.ok I64; simp only; omega)⟩
    match cs, hl with
    | [c0, c1, c2, c3], _ => simp at h0 h1 h2 h3; rw [h0, h1, h2, h3]; rfl)
  refine ⟨A, c, l, by simp at hn; rw [hn], hA, by simp at hn; omega, hcm, hv, hl⟩
end Go.Proofs.Yteocdobepgbnkaa
