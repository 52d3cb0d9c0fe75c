
/- Reading a law's arguments: slices of slices of candidates. -/
import Derived.Test.YteocdobepgbnkaaSmoothArgs
namespace Go.Proofs.Yteocdobepgbnkaa
open Go.ChangeShapes Go.WideShapes Go.ChangeAt Go.RowKit

section
variable {H : Type} {enc : TypeId × Value → H} {P : Program} {w : World}
/-- The same of a slice that lies in a cell. -/
theorem open_elems_t {t e : TypeId} {fuel : Nat} {cs : List Value} {x : DataW H × List MemPlace} (ht : P.underlying t = some (.slice e)) (hc0 : 0 < P.cellsOf e)
    (hf : DataW.trod enc P w 0 (fun _ => true) true fuel t cs = some x) (hlt : ∀ p ∈ x.2, p.block < w.heap.size) :
    ∃ (A : Option Addr) (n c : Nat) (es : List (List Value)), cs = [.slice A n c] ∧ es.length = n ∧ (A = none → c = 0) ∧ n ≤ c ∧ c ≤ maxLen ∧ View w w.heap.size A es.flatten ∧
      ∀ cs ∈ es, cs.length = P.cellsOf e ∧ ∃ m x, DataW.trod enc P w 0 (fun _ => true) true m e cs = some x ∧ ∀ p ∈ x.2, p.block < w.heap.size := by
  rcases Go.Deep.open_slice ht hf with ⟨hcs, _⟩ | ⟨a, len, cap, m, k, D, Pl, hcs, _, hl, hm, hmm, hx, hi⟩
  · exact ⟨none, 0, 0, [], hcs, rfl, fun _ => rfl, Nat.le_refl _, by simp [maxLen], View.nil_, by simp⟩
  · have hmc : m = cap := by simpa using hmm
    subst hmc
    have hch : ∃ f : Nat → List Value, ∀ i, i < m → w.cells? 0 (a.add (i * P.cellsOf e)) (P.cellsOf e) = some (f i) ∧ DataW.trod enc P w 0 (fun _ => true) true k e (f i) = some (D i, Pl i) := by
      refine ⟨fun i => if h : i < m then (hi i h).choose else [], fun i him => ?_⟩
      simp only [him, dif_pos]
      exact (hi i him).choose_spec
    obtain ⟨f, hfi⟩ := hch
    have hps : x.2 = MemPlace.row a (m * P.cellsOf e) ++ (List.range m).flatMap Pl := by rw [hx]
    refine ⟨some a, len, m, (List.range len).map f, hcs, by simp, (by intro h; cases h), hl, hm, ?_, ?_⟩
    · intro hne
      have hn : 0 < len := by
        rcases len with _ | n
        · simp at hne
        · omega
      have hblk : a.block < w.heap.size := by
        have hpos : 0 < m * P.cellsOf e := Nat.mul_pos (by omega) hc0
        have := hlt (MemPlace.cell a.block a.off) (by rw [hps]; exact List.mem_append_left _ (row_mem a _ hpos))
        simpa [MemPlace.block] using this
      obtain ⟨_, hlen0, hat0⟩ := World.cells?_some (hfi 0 (by omega)).1
      have hspot : a.spot = none := by
        have h0 := hat0 0 hc0
        rw [List.getElem?_eq_getElem (by omega)] at h0
        exact World.cell?_spot (by simpa [Addr.add] using h0)
      obtain ⟨b, o, sp⟩ := a
      simp only at hspot
      subst hspot
      have hadd : ∀ j, (⟨b, o, none⟩ : Addr).add j = ⟨b, o + j, none⟩ := fun j => by
        unfold Addr.add
        split
        · next h0 => subst h0; rfl
        · rfl
      refine ⟨b, o, rfl, hblk, ?_⟩
      have key : ∀ n', n' ≤ m → ∀ j u, (((List.range n').map f).flatten)[j]? = some u → w.cell? ⟨b, o + j, none⟩ = some u := by
        intro n'
        induction n' with
        | zero => intro _ j u hu; simp at hu
        | succ n' ih =>
          intro hn' j u hu
          have hflen : (((List.range n').map f).flatten).length = n' * P.cellsOf e := by
            rw [List.length_flatten, List.map_map]
            have : (List.range n').map (List.length ∘ f) = (List.range n').map (fun _ => P.cellsOf e) := List.map_congr_left fun i hi' => (World.cells?_some (hfi i (by have := List.mem_range.1 hi'; omega)).1).2.1
            rw [this]
            simp [List.map_const', List.sum_replicate_nat]
          rw [List.range_succ, List.map_append, List.flatten_append] at hu
          by_cases hj : j < n' * P.cellsOf e
          · rw [List.getElem?_append_left (by rw [hflen]; exact hj)] at hu
            exact ih (by omega) j u hu
          · rw [List.getElem?_append_right (by rw [hflen]; omega), hflen] at hu
            obtain ⟨_, hl2, hat⟩ := World.cells?_some (hfi n' (by omega)).1
            have hjl : j - n' * P.cellsOf e < P.cellsOf e := by
              rcases Nat.lt_or_ge (j - n' * P.cellsOf e) (P.cellsOf e) with h1 | h1
              · exact h1
              · rw [List.getElem?_eq_none (by simp [hl2]; omega)] at hu; cases hu
            have h2 := hat (j - n' * P.cellsOf e) hjl
            rw [hadd] at h2
            have h3 : (⟨b, o + n' * P.cellsOf e, none⟩ : Addr).add (j - n' * P.cellsOf e) = ⟨b, o + j, none⟩ := by
              unfold Addr.add
              split
              · next h0 => congr 1; omega
              · simp only [Addr.mk.injEq, and_true, true_and]; omega
            rw [h3] at h2
            rw [h2, ← hu]
            simp
      exact key len hl
    · intro cs hcs
      obtain ⟨i, hir, rfl⟩ := List.mem_map.1 hcs
      have hin := List.mem_range.1 hir
      have h1 := hfi i (by omega)
      refine ⟨(World.cells?_some h1.1).2.1, k, _, h1.2, fun p hp => hlt p ?_⟩
      rw [hps]
      exact List.mem_append_right _ (List.mem_flatMap.2 ⟨i, List.mem_range.2 (by omega), hp⟩)

end

theorem flatten_single {α β : Type} (f : α → β) (l : List α) : (l.map fun r => [f r]).flatten = l.map f := by
  induction l with
  | nil => rfl
  | cons a l ih => simp [ih]


/-- A slice's header, its candidates. -/
def candRow (r : Option Addr × List Cn × Nat) : Value := .slice r.1 r.2.1.length r.2.2
def CandRow (w : World) (r : Option Addr × List Cn × Nat) : Prop := r.2.1.length ≤ r.2.2 ∧ r.2.2 ≤ maxLen ∧ View w w.heap.size r.1 (flat cnV r.2.1)

theorem cands_t {H : Type} {enc : TypeId × Value → H} {w : World} {fuel : Nat} {cs : List Value} {x : DataW H × List MemPlace}
    (hf : DataW.trod enc Try.prog w 0 (fun _ => true) true fuel 30 cs = some x) (hlt : ∀ p ∈ x.2, p.block < w.heap.size) : ∃ r, cs = [candRow r] ∧ CandRow w r := by
  have hC : Try.prog.cellsOf 40 = 4 := by kernel_rfl
  obtain ⟨A, n, c, es, rfl, hn, hA, hnc, hcm, hv, hes⟩ := open_elems_t Try.underlying30 (by rw [hC]; omega) hf hlt
  obtain ⟨l, rfl, hl⟩ := list_decode cnV Cn.ok es (by
    intro cs hcs
    obtain ⟨hl, m, x, ht, _⟩ := hes cs hcs
    rw [hC] at hl
    have hf := struct_fields Try.underlying40 (by kernel_rfl) ht hl
    obtain ⟨v0, y0, k0, h0, t0, _⟩ := hf 0 _ rfl
    obtain ⟨v1, y1, k1, h1, t1, _⟩ := hf 1 _ rfl
    obtain ⟨v2, y2, k2, h2, t2, _⟩ := hf 2 _ rfl
    obtain ⟨v3, y3, k3, h3, t3, _⟩ := hf 3 _ rfl
    obtain ⟨z0, e0, _, z0w⟩ := DataW.trod_int Try.underlying3 t0
    obtain ⟨z1, e1, _, z1w⟩ := DataW.trod_int Try.underlying3 t1
    obtain ⟨z2, e2, _, z2w⟩ := DataW.trod_int Try.underlying3 t2
    obtain ⟨z3, e3, _, z3w⟩ := DataW.trod_int Try.underlying31 t3
    injection e0 with e0; injection e1 with e1; injection e2 with e2; injection e3 with e3
    subst e0; subst e1; subst e2; subst e3
    simp [Lit.wf, IntKind.min, IntKind.max, IntKind.signed, IntKind.bits] at z0w z1w z2w z3w
    refine ⟨⟨z0, z1, z2, z3⟩, ?_, (by unfold Cn.ok I64; simp only; omega)⟩
    match cs, hl with
    | [c0, c1, c2, c3], _ => simp at h0 h1 h2 h3; rw [h0, h1, h2, h3]; rfl)
  refine ⟨(A, l, c), by simp at hn; rw [← hn]; rfl, by simp at hn; simp; omega, hcm, hv⟩

set_option maxRecDepth 100000 in
/-- Rows of candidates as an argument. -/
theorem open_candss {H : Type} {enc : TypeId × Value → H} {r : Reach} {b0 : Nat} {v : Value} {d : DataW H} {ps : List MemPlace} {w : World}
    (hval : Value.okWide Try.prog w r b0 22 v) (hd : DataW.Trod enc Try.prog w 0 (fun _ => true) true 22 v d ps) (hlt : ∀ x ∈ ps, x.block < w.heap.size) :
    ∃ (A : Option Addr) (c : Nat) (l : List (Option Addr × List Cn × Nat)), v = .slice A l.length c ∧ l.length ≤ c ∧ c ≤ maxLen ∧ View w w.heap.size A (l.map candRow) ∧ ∀ p ∈ l, CandRow w p := by
  have hC : Try.prog.cellsOf 30 = 1 := by kernel_rfl
  obtain ⟨A, n, c, es, rfl, hn, hA, hnc, hcm, hv, hes⟩ := open_elems Try.underlying22 (by rw [hC]; omega) hval hd hlt
  obtain ⟨l, rfl, hl⟩ := list_decode (fun r => [candRow r]) (CandRow w) es (by
    intro cs hcs
    obtain ⟨hl, m, x, ht, hb⟩ := hes cs hcs
    exact cands_t ht hb)
  refine ⟨A, c, l, by simp at hn; rw [hn], by simp at hn; omega, hcm, ?_, hl⟩
  have e := flatten_single candRow l
  rw [e] at hv
  exact hv


end Go.Proofs.Yteocdobepgbnkaa
