
/- Reading a law's arguments: structs, slices, by cells. Any program. -/
import Derived.Test.YtocnmcndcdncmaaDoorKit
import Derived.Test.YtocnmcndcdncmaaDoorJ
namespace Go.Proofs.YtocnmcndcdncmaaDoor
open Go.ChangeShapes Go.WideShapes Go.ChangeAt Go.RowKit

/-- A slice: where it lies, what it holds, its capacity. -/
structure Sl (α : Type) where
  a : Option Addr
  l : List α
  c : Nat
instance {α : Type} : Inhabited (Sl α) := ⟨⟨none, [], 0⟩⟩
def okB (w : World) (s : Sl Nat) : Prop := s.l.length ≤ s.c ∧ s.c ≤ maxLen ∧ Bytes s.l ∧ View w w.heap.size s.a (s.l.map u8v)
def okS {α : Type} (w : World) (V : α → List Value) (ok : α → Prop) (s : Sl α) : Prop := s.l.length ≤ s.c ∧ s.c ≤ maxLen ∧ View w w.heap.size s.a (flat V s.l) ∧ ∀ r ∈ s.l, ok r
theorem okB.len {w : World} {s : Sl Nat} (h : okB w s) : s.l.length ≤ s.c := h.1
theorem okB.bytes {w : World} {s : Sl Nat} (h : okB w s) : Bytes s.l := h.2.2.1
theorem okB.view {w : World} {s : Sl Nat} (h : okB w s) : View w w.heap.size s.a (s.l.map u8v) := h.2.2.2

theorem split_drop (cs : List Value) (o n : Nat) {l : List Value} (h : (cs.drop o).take n = l) : cs.drop o = l ++ cs.drop (o + n) := by
  rw [← h, ← List.drop_drop, List.take_append_drop]
section
variable {H : Type} {enc : TypeId × Value → H} {P : Program} {w : World} {t e : TypeId} {fuel : Nat} {cs : List Value} {x : DataW H × List MemPlace}
theorem field_t {fs : Array Field} (he : P.underlying t = some (.struct fs)) (h : DataW.trod enc P w 0 (fun _ => true) true fuel t cs = some x) (hlt : ∀ p ∈ x.2, p.block < w.heap.size) (j : Nat) (f : Field) (hj : fs[j]? = some f) :
    ∃ y k, DataW.trod enc P w 0 (fun _ => true) true k f.type ((cs.drop f.offset).take (P.cellsOf f.type)) = some y ∧ ∀ p ∈ y.2, p.block < w.heap.size := by
  obtain ⟨ys, n', hn', hy, hlen, hyl, hf⟩ := DataW.trod_struct he h
  have hjl : j < fs.size := (Array.getElem?_eq_some_iff.1 hj).1
  have h1 := hf j f hj
  have hys : ys[j]? = some (ys[j]'(by omega)) := List.getElem?_eq_getElem (by omega)
  refine ⟨ys[j]'(by omega), n', h1.trans hys, fun p hp => hlt p ?_⟩
  rw [hy]
  exact List.mem_flatMap.2 ⟨_, List.getElem_mem _, hp⟩
theorem t_bool (ht : P.underlying t = some .bool) (h : DataW.trod enc P w 0 (fun _ => true) true fuel t cs = some x) (_ : ∀ p ∈ x.2, p.block < w.heap.size) : ∃ b : Bool, cs = [.bool b] ∧ True := by
  obtain ⟨b, e, _⟩ := DataW.trod_bool ht h; exact ⟨b, e, trivial⟩
theorem t_str (ht : P.underlying t = some .string) (h : DataW.trod enc P w 0 (fun _ => true) true fuel t cs = some x) (_ : ∀ p ∈ x.2, p.block < w.heap.size) : ∃ s : ByteArray, cs = [.string s] ∧ s.size ≤ maxLen := by
  obtain ⟨s, e, _, h⟩ := DataW.trod_string ht h; exact ⟨s, e, h⟩
theorem t_i64 (ht : P.underlying t = some (.int .i64)) (h : DataW.trod enc P w 0 (fun _ => true) true fuel t cs = some x) (_ : ∀ p ∈ x.2, p.block < w.heap.size) : ∃ z : Int, cs = [.int .i64 z] ∧ (-9223372036854775808 ≤ z ∧ z ≤ 9223372036854775807) := by
  obtain ⟨z, e, _, hw⟩ := DataW.trod_int ht h
  exact ⟨z, e, wf_i64 hw⟩
theorem t_u8 (ht : P.underlying t = some (.int .u8)) (h : DataW.trod enc P w 0 (fun _ => true) true fuel t cs = some x) (_ : ∀ p ∈ x.2, p.block < w.heap.size) : ∃ n : Nat, cs = [.int .u8 (n : Int)] ∧ n < 256 := by
  obtain ⟨z, e, _, hw⟩ := DataW.trod_int ht h
  have := wf_u8 hw
  obtain ⟨n, rfl⟩ := Int.eq_ofNat_of_zero_le this.1
  exact ⟨n, e, by omega⟩
theorem t_u16 (ht : P.underlying t = some (.int .u16)) (h : DataW.trod enc P w 0 (fun _ => true) true fuel t cs = some x) (_ : ∀ p ∈ x.2, p.block < w.heap.size) : ∃ n : Nat, cs = [.int .u16 (n : Int)] ∧ n < 65536 := by
  obtain ⟨z, e, _, hw⟩ := DataW.trod_int ht h
  have := wf_u16 hw
  obtain ⟨n, rfl⟩ := Int.eq_ofNat_of_zero_le this.1
  exact ⟨n, e, by omega⟩
theorem t_u32 (ht : P.underlying t = some (.int .u32)) (h : DataW.trod enc P w 0 (fun _ => true) true fuel t cs = some x) (_ : ∀ p ∈ x.2, p.block < w.heap.size) : ∃ n : Nat, cs = [.int .u32 (n : Int)] ∧ n < 4294967296 := by
  obtain ⟨z, e, _, hw⟩ := DataW.trod_int ht h
  have := wf_u32 hw
  obtain ⟨n, rfl⟩ := Int.eq_ofNat_of_zero_le this.1
  exact ⟨n, e, by omega⟩
theorem t_u64 (ht : P.underlying t = some (.int .u64)) (h : DataW.trod enc P w 0 (fun _ => true) true fuel t cs = some x) (_ : ∀ p ∈ x.2, p.block < w.heap.size) : ∃ n : Nat, cs = [.int .u64 (n : Int)] ∧ n < 18446744073709551616 := by
  obtain ⟨z, e, _, hw⟩ := DataW.trod_int ht h
  have := wf_u64 hw
  obtain ⟨n, rfl⟩ := Int.eq_ofNat_of_zero_le this.1
  exact ⟨n, e, by omega⟩
/-- The elements of a slice that lies in a cell. -/
theorem elems_t {sz : Nat} (ht : P.underlying t = some (.slice e)) (hsz : P.cellsOf e = sz) (hc0 : 0 < sz)
    (hf : DataW.trod enc P w 0 (fun _ => true) true fuel t cs = some x) (hlt : ∀ p ∈ x.2, p.block < w.heap.size) :
    ∃ (A : Option Addr) (n c : Nat) (es : List (List Value)), cs = [.slice A n c] ∧ es.length = n ∧ n ≤ c ∧ c ≤ maxLen ∧ View w w.heap.size A es.flatten ∧
      ∀ cs ∈ es, ∃ m x, DataW.trod enc P w 0 (fun _ => true) true m e cs = some x ∧ ∀ p ∈ x.2, p.block < w.heap.size := by
  subst hsz
  rcases Go.Deep.open_slice ht hf with ⟨hcs, _⟩ | ⟨a, len, cap, m, k, D, Pl, hcs, _, hl, hm, hmm, hx, hi⟩
  · exact ⟨none, 0, 0, [], hcs, rfl, Nat.le_refl _, by simp [maxLen], View.nil_, by simp⟩
  · have hmc : m = cap := by simpa using hmm
    subst hmc
    have hch : ∃ f : Nat → List Value, ∀ i, i < m → w.cells? 0 (a.add (i * P.cellsOf e)) (P.cellsOf e) = some (f i) ∧ DataW.trod enc P w 0 (fun _ => true) true k e (f i) = some (D i, Pl i) := by
      refine ⟨fun i => if h : i < m then (hi i h).choose else [], fun i him => ?_⟩
      simp only [him, dif_pos]
      exact (hi i him).choose_spec
    obtain ⟨f, hfi⟩ := hch
    have hps : x.2 = MemPlace.row a (m * P.cellsOf e) ++ (List.range m).flatMap Pl := by rw [hx]
    refine ⟨some a, len, m, (List.range len).map f, hcs, by simp, hl, hm, ?_, ?_⟩
    · intro hne
      have hn : 0 < len := by
        rcases len with _ | n
        · simp at hne
        · omega
      have hblk : a.block < w.heap.size := by
        have hpos : 0 < m * P.cellsOf e := Nat.mul_pos (by omega) hc0
        have := hlt (MemPlace.cell a.block a.off) (by rw [hps]; exact List.mem_append_left _ (row_mem a _ hpos))
        simpa [MemPlace.block] using this
      obtain ⟨_, hlen0, hat0⟩ := World.cells?_some (hfi 0 (by omega)).1
      have hspot : a.spot = none := by
        have h0 := hat0 0 hc0
        rw [List.getElem?_eq_getElem (by omega)] at h0
        exact World.cell?_spot (by simpa [Addr.add] using h0)
      obtain ⟨b, o, sp⟩ := a
      simp only at hspot
      subst hspot
      have hadd : ∀ j, (⟨b, o, none⟩ : Addr).add j = ⟨b, o + j, none⟩ := add_mk b o
      refine ⟨b, o, rfl, hblk, ?_⟩
      have key : ∀ n', n' ≤ m → ∀ j u, (((List.range n').map f).flatten)[j]? = some u → w.cell? ⟨b, o + j, none⟩ = some u := by
        intro n'
        induction n' with
        | zero => intro _ j u hu; simp at hu
        | succ n' ih =>
          intro hn' j u hu
          have hflen : (((List.range n').map f).flatten).length = n' * P.cellsOf e := by
            rw [List.length_flatten, List.map_map]
            have : (List.range n').map (List.length ∘ f) = (List.range n').map (fun _ => P.cellsOf e) := List.map_congr_left fun i hi' => (World.cells?_some (hfi i (by have := List.mem_range.1 hi'; omega)).1).2.1
            rw [this]
            simp [List.map_const', List.sum_replicate_nat]
          rw [List.range_succ, List.map_append, List.flatten_append] at hu
          by_cases hj : j < n' * P.cellsOf e
          · rw [List.getElem?_append_left (by rw [hflen]; exact hj)] at hu
            exact ih (by omega) j u hu
          · rw [List.getElem?_append_right (by rw [hflen]; omega), hflen] at hu
            obtain ⟨_, hl2, hat⟩ := World.cells?_some (hfi n' (by omega)).1
            have hjl : j - n' * P.cellsOf e < P.cellsOf e := by
              rcases Nat.lt_or_ge (j - n' * P.cellsOf e) (P.cellsOf e) with h1 | h1
              · exact h1
              · rw [List.getElem?_eq_none (by simp [hl2]; omega)] at hu; cases hu
            have h2 := hat (j - n' * P.cellsOf e) hjl
            rw [hadd, add_mk] at h2
            rw [show o + j = o + n' * P.cellsOf e + (j - n' * P.cellsOf e) by omega, h2, ← hu]
            simp
      exact key len hl
    · intro cs hcs
      obtain ⟨i, hir, rfl⟩ := List.mem_map.1 hcs
      have hin := List.mem_range.1 hir
      have h1 := hfi i (by omega)
      refine ⟨k, _, h1.2, fun p hp => hlt p ?_⟩
      rw [hps]
      exact List.mem_append_right _ (List.mem_flatMap.2 ⟨i, List.mem_range.2 (by omega), hp⟩)
theorem t_sl {α : Type} {V : α → List Value} {ok : α → Prop} (ht : P.underlying t = some (.slice e)) (sz : Nat) (hsz : P.cellsOf e = sz) (hc0 : 0 < sz)
    (hopen : ∀ {fuel : Nat} {cs : List Value} {x : DataW H × List MemPlace}, DataW.trod enc P w 0 (fun _ => true) true fuel e cs = some x → (∀ p ∈ x.2, p.block < w.heap.size) → ∃ s : α, cs = V s ∧ ok s)
    (hf : DataW.trod enc P w 0 (fun _ => true) true fuel t cs = some x) (hlt : ∀ p ∈ x.2, p.block < w.heap.size) : ∃ s : Sl α, cs = [.slice s.a s.l.length s.c] ∧ okS w V ok s := by
  obtain ⟨A, n, c, es, rfl, hn, hnc, hcm, hv, hes⟩ := elems_t ht hsz hc0 hf hlt
  obtain ⟨l, rfl, hl⟩ := list_decode V ok es fun cs hcs => by
    obtain ⟨m, x, h1, h2⟩ := hes cs hcs
    exact hopen h1 h2
  have hn' : l.length = n := by simpa using hn
  exact ⟨⟨A, l, c⟩, by rw [hn'], by rw [← hn'] at hnc; exact hnc, hcm, hv, hl⟩
theorem t_bytes (ht : P.underlying t = some (.slice e)) (he : P.underlying e = some (.int .u8)) (hc : P.cellsOf e = 1)
    (hf : DataW.trod enc P w 0 (fun _ => true) true fuel t cs = some x) (hlt : ∀ p ∈ x.2, p.block < w.heap.size) : ∃ s : Sl Nat, cs = [.slice s.a s.l.length s.c] ∧ okB w s := by
  obtain ⟨s, e1, h1, h2, h3, h4⟩ := t_sl (V := fun n : Nat => [u8v n]) (ok := fun n => n < 256) ht 1 hc (by omega) (fun h1 h2 => by obtain ⟨n, e, h⟩ := t_u8 he h1 h2; exact ⟨n, e, h⟩) hf hlt
  refine ⟨s, e1, h1, h2, h4, ?_⟩
  have e2 : flat (fun n : Nat => [u8v n]) s.l = s.l.map u8v := by
    unfold flat
    generalize s.l = l
    induction l with
    | nil => rfl
    | cons a l ih => simp [ih]
  rwa [e2] at h3
/-- An argument, by its cells. -/
theorem arg_sl {α : Type} {V : α → List Value} {ok : α → Prop} {r : Reach} {b0 : Nat} {v : Value} {d : DataW H} {ps : List MemPlace} (ht : P.underlying t = some (.slice e)) (sz : Nat) (hsz : P.cellsOf e = sz) (hc0 : 0 < sz)
    (hopen : ∀ {fuel : Nat} {cs : List Value} {x : DataW H × List MemPlace}, DataW.trod enc P w 0 (fun _ => true) true fuel e cs = some x → (∀ p ∈ x.2, p.block < w.heap.size) → ∃ s : α, cs = V s ∧ ok s)
    (hval : Value.okWide P w r b0 t v) (hd : DataW.Trod enc P w 0 (fun _ => true) true t v d ps) (hlt : ∀ x ∈ ps, x.block < w.heap.size) : ∃ s : Sl α, v = .slice s.a s.l.length s.c ∧ okS w V ok s := by
  obtain ⟨A, n, c, rfl⟩ := okWide_slice ht hval
  obtain ⟨fuel, hf⟩ := hd
  obtain ⟨s, e, h⟩ := t_sl (V := V) (ok := ok) ht sz hsz hc0 hopen hf hlt
  exact ⟨s, by simpa [Value.cells] using e, h⟩
end
end Go.Proofs.YtocnmcndcdncmaaDoor
