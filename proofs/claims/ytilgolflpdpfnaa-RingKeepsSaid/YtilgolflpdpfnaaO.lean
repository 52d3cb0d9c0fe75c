/- Reading a law's arguments: structs, slices, by cells. Any program. -/
import Derived.Test.YtilgolflpdpfnaaKit
import Derived.Test.YtilgolflpdpfnaaJ
namespace Go.Proofs.Ytilgolflpdpfnaa
open Go.ChangeShapes Go.WideShapes Go.ChangeAt Go.RowKit

/-- A slice: where it lies, what it holds, its capacity. -/
structure Sl (α : Type) where
  a : Option Addr
  l : List α
  c : Nat
instance {α : Type} : Inhabited (Sl α) := ⟨⟨none, [], 0⟩⟩
def okB (w : World) (s : Sl Nat) : Prop := s.l.length ≤ s.c ∧ s.c ≤ maxLen ∧ Bytes s.l ∧ View w w.heap.size s.a (s.l.map u8v)
theorem okB.bytes {w : World} {s : Sl Nat} (h : okB w s) : Bytes s.l := h.2.2.1
theorem okB.view {w : World} {s : Sl Nat} (h : okB w s) : View w w.heap.size s.a (s.l.map u8v) := h.2.2.2

theorem split_drop (cs : List Value) (o n : Nat) {l : List Value} (h : (cs.drop o).take n = l) : cs.drop o = l ++ cs.drop (o + n) := by
  rw [← h, ← List.drop_drop, List.take_append_drop]
section
variable {H : Type} {enc : TypeId × Value → H} {P : Program} {w : World} {t e : TypeId} {fuel : Nat} {cs : List Value} {x : DataW H × List MemPlace}
theorem field_t {fs : Array Field} (he : P.underlying t = some (.struct fs)) (h : DataW.trod enc P w 0 (fun _ => true) true fuel t cs = some x) (hlt : ∀ p ∈ x.2, p.block < w.heap.size) (j : Nat) (f : Field) (hj : fs[j]? = some f) :
    ∃ y k, DataW.trod enc P w 0 (fun _ => true) true k f.type ((cs.drop f.offset).take (P.cellsOf f.type)) = some y ∧ ∀ p ∈ y.2, p.block < w.heap.size := by
  obtain ⟨ys, n', hn', hy, hlen, hyl, hf⟩ := DataW.trod_struct he h
  have hjl : j < fs.size := (Array.getElem?_eq_some_iff.1 hj).1
  have h1 := hf j f hj
  have hys : ys[j]? = some (ys[j]'(by omega)) := List.getElem?_eq_getElem (by omega)
  refine ⟨ys[j]'(by omega), n', h1.trans hys, fun p hp => hlt p ?_⟩
  rw [hy]
  exact List.mem_flatMap.2 ⟨_, List.getElem_mem _, hp⟩
theorem t_u64 (ht : P.underlying t = some (.int .u64)) (h : DataW.trod enc P w 0 (fun _ => true) true fuel t cs = some x) (_ : ∀ p ∈ x.2, p.block < w.heap.size) : ∃ n : Nat, cs = [.int .u64 (n : Int)] ∧ n < 18446744073709551616 := by
  obtain ⟨z, e, _, hw⟩ := DataW.trod_int ht h
  have := wf_u64 hw
  obtain ⟨n, rfl⟩ := Int.eq_ofNat_of_zero_le this.1
  exact ⟨n, e, by omega⟩
end
end Go.Proofs.Ytilgolflpdpfnaa
