/- Words for memory: a slice that reads as a list ('View'), a block that is known whole ('Arr'), bytes as natural numbers, and the operations make, copy, append and the conversion of bytes to a string in these words. Any program. -/
import Derived.WalkKit
import Derived.Laws.CopyOwn
import Derived.Deep.RegionLaw
import Derived.Laws.BytesArg
import Derived.Deep.Draws
import Derived.Lib.Hide
import Derived.OwnWalk
import Derived.SizedLaws
import Derived.ProofKit
import Derived.Laws.AppendOwnNone
namespace Go.Proofs.Ytcobjneobdihkaa
open Go.RowKit

/-- The slice at A holds the cells xs, below block B. -/
def View (w : World) (B : Nat) (A : Option Addr) (xs : List Value) : Prop :=
  xs ≠ [] → ∃ b o, A = some ⟨b, o, none⟩ ∧ b < B ∧ ∀ j u, xs[j]? = some u → w.cell? ⟨b, o + j, none⟩ = some u

/-- Block g is just the cells l, none frozen. -/
def Arr (w : World) (g : Nat) (t : TypeId) (l : List Value) : Prop := w.heap[g]? = some (.cells l.toArray t (0, 0))

section
variable {w w' : World} {B B' : Nat} {A : Option Addr} {xs : List Value}
theorem View.nil_ : View w B A [] := fun h => absurd rfl h
theorem View.keep (h : View w B A xs) (hk : ∀ p : Addr, p.block < B → w'.cell? p = w.cell? p) : View w' B A xs := fun hn => by
  obtain ⟨b, o, e, hb, hc⟩ := h hn
  exact ⟨b, o, e, hb, fun j u hu => (hk _ hb).trans (hc j u hu)⟩
theorem View.more (h : View w B A xs) (hB : B ≤ B') : View w B' A xs := fun hn => by
  obtain ⟨b, o, e, hb, hc⟩ := h hn
  exact ⟨b, o, e, by omega, hc⟩
theorem View.below (h : View w B A xs) (hb : Below B w w') : View w' B A xs := h.keep fun _ hp => hb.cell hp
theorem View.drew (h : View w B A xs) : View w.drew B A xs := h
theorem View.alloc (h : View w B A xs) (hB : B ≤ w.heap.size) (o : Obj) : View (w.alloc o) B A xs := h.keep fun p hp => World.cell?_alloc_lt w o p (by omega)
theorem View.setCell (h : View w B A xs) {p : Addr} (hB : B ≤ p.block) (u : Value) : View (w.setCell p u) B A xs :=
  h.keep fun q hq => World.cell?_setCell_other w p q u (fun e => by subst e; omega)
/-- 's[k:]' at a capacity 'c': the model keeps the address where nothing is left. -/
theorem View.cut (h : View w B A xs) {k c : Nat} (hc : xs.length ≤ c) : View w B (if c = k then A else A.map (·.add k)) (xs.drop k) := by
  intro hn
  have hl : k < xs.length := by
    rcases Nat.lt_or_ge k xs.length with h1 | h1
    · exact h1
    · exact absurd (List.drop_eq_nil_of_le h1) hn
  obtain ⟨b, o, rfl, hb, hcell⟩ := h (by rintro rfl; simp at hl)
  rw [if_neg (by omega)]
  refine ⟨b, o + k, ?_, hb, fun j u hu => ?_⟩
  · simp only [Option.map_some, Addr.add]
    split
    · next h0 => subst h0; simp
    · rfl
  · rw [Nat.add_assoc]
    exact hcell _ u (by rw [← hu, List.getElem?_drop])
theorem View.take (h : View w B A xs) (k : Nat) : View w B A (xs.take k) := by
  intro hn
  obtain ⟨b, o, rfl, hb, hcell⟩ := h (by rintro rfl; simp at hn)
  refine ⟨b, o, rfl, hb, fun j u hu => hcell j u ?_⟩
  rw [List.getElem?_take] at hu
  split at hu
  · exact hu
  · cases hu

theorem Arr.lt {g t l} (h : Arr w g t l) : g < w.heap.size := by
  rcases Nat.lt_or_ge g w.heap.size with hlt | hge
  · exact hlt
  · unfold Arr at h; rw [Array.getElem?_eq_none hge] at h; cases h
theorem Arr.cell {g t l} (h : Arr w g t l) (i : Nat) : w.cell? ⟨g, i, none⟩ = l[i]? := by
  unfold Arr at h
  simp [World.cell?, h]
theorem Arr.frozen {g t l} (h : Arr w g t l) (i : Nat) : w.frozen? ⟨g, i, none⟩ = false := by
  unfold Arr at h
  simp [World.frozen?, h]
theorem Arr.drew {g t l} (h : Arr w g t l) : Arr w.drew g t l := h
theorem Arr.alloc {g t l} (h : Arr w g t l) (o : Obj) : Arr (w.alloc o) g t l := (Below.heap_alloc w o g h.lt).trans h
theorem Arr.set_ {g t l} (h : Arr w g t l) (i : Nat) (u : Value) : Arr (w.setCell ⟨g, i, none⟩ u) g t (l.set i u) := by
  unfold Arr at h ⊢
  simp [World.setCell, Array.getElem?_modify, h]
theorem Arr.below {g t l} (h : Arr w g t l) (hb : Below B w w') (hg : g < B) : Arr w' g t l := (hb.block g hg).trans h
theorem Arr.new (w : World) (t : TypeId) (l : List Value) : Arr (w.alloc (.cells l.toArray t)) w.heap.size t l := by
  unfold Arr
  show (w.heap.push _)[_]? = _
  simp
theorem Arr.view {g t l} (h : Arr w g t l) (hB : g < B) : View w B (some ⟨g, 0, none⟩) l := fun _ => ⟨g, 0, rfl, hB, fun j u hu => by rw [Nat.zero_add, h.cell]; exact hu⟩
end

/-! ### bytes -/
/-- A byte's cell. -/
def u8v (n : Nat) : Value := .int .u8 (n : Int)
/-- Every number is a byte. -/
def Bytes (l : List Nat) : Prop := ∀ x ∈ l, x < 256
def nth (l : List Nat) (j : Nat) : Nat := l.getD j 0

theorem nth_lt {l : List Nat} (h : Bytes l) (j : Nat) : nth l j < 256 := by
  unfold nth
  rw [List.getD_eq_getElem?_getD]
  cases e : l[j]? with
  | none => simp
  | some x => exact h x (List.mem_of_getElem? e)
theorem nth_get {l : List Nat} {j : Nat} (h : j < l.length) : l[j]? = some (nth l j) := by
  unfold nth; rw [List.getD_eq_getElem?_getD, List.getElem?_eq_getElem h]; rfl
theorem Bytes.take {l : List Nat} (h : Bytes l) (k : Nat) : Bytes (l.take k) := fun x hx => h x (List.mem_of_mem_take hx)
theorem Bytes.drop {l : List Nat} (h : Bytes l) (k : Nat) : Bytes (l.drop k) := fun x hx => h x (List.mem_of_mem_drop hx)
theorem Bytes.append {l m : List Nat} (h : Bytes l) (h' : Bytes m) : Bytes (l ++ m) := fun x hx => by
  rcases List.mem_append.1 hx with hx | hx
  · exact h x hx
  · exact h' x hx
theorem Bytes.set_ {l : List Nat} (h : Bytes l) (i x : Nat) (hx : x < 256) : Bytes (l.set i x) := fun y hy => by
  rcases List.mem_or_eq_of_mem_set hy with h1 | h1
  · exact h y h1
  · omega
theorem Bytes.nil : Bytes [] := fun _ h => by cases h
theorem Bytes.replicate (n : Nat) : Bytes (List.replicate n 0) := fun x hx => by rw [List.eq_of_mem_replicate hx]; omega
theorem Bytes.cons {a : Nat} {l : List Nat} (h : a < 256) (h' : Bytes l) : Bytes (a :: l) := fun x hx => by
  rcases List.mem_cons.1 hx with hx | hx
  · omega
  · exact h' x hx

/-- A slice of bytes reads as the list l. -/
def BView (w : World) (B : Nat) (A : Option Addr) (l : List Nat) : Prop := Bytes l ∧ View w B A (l.map u8v)
section
variable {w w' : World} {B B' : Nat} {A : Option Addr} {l : List Nat}
theorem BView.bytes (h : BView w B A l) : Bytes l := h.1
theorem BView.view (h : BView w B A l) : View w B A (l.map u8v) := h.2
theorem BView.nil_ : BView w B A [] := ⟨Bytes.nil, View.nil_⟩
theorem BView.below (h : BView w B A l) (hb : Below B w w') : BView w' B A l := ⟨h.1, h.2.below hb⟩
theorem BView.more (h : BView w B A l) (hB : B ≤ B') : BView w B' A l := ⟨h.1, h.2.more hB⟩
theorem BView.setCell (h : BView w B A l) {p : Addr} (hB : B ≤ p.block) (u : Value) : BView (w.setCell p u) B A l := ⟨h.1, h.2.setCell hB u⟩
/-- Seen in a world, it is seen in every later one. -/
theorem BView.step (h : BView w w.heap.size A l) (hb : Below w.heap.size w w') : BView w' w'.heap.size A l := (h.below hb).more hb.size
theorem BView.at_ (h : BView w B A l) {k : Nat} (hk : k < l.length) :
    ∃ b o, A = some ⟨b, o, none⟩ ∧ b < B ∧ ∀ j, j < l.length → w.cell? ⟨b, o + j, none⟩ = some (.int .u8 (nth l j : Nat)) := by
  obtain ⟨b, o, e, hb, hc⟩ := h.2 (by intro e; rw [List.map_eq_nil_iff] at e; subst e; simp at hk)
  exact ⟨b, o, e, hb, fun j hj => hc j _ (by rw [List.getElem?_map, nth_get hj]; rfl)⟩
theorem BView.cut (h : BView w B A l) {k c : Nat} (hc : l.length ≤ c) : BView w B (if c = k then A else A.map (·.add k)) (l.drop k) :=
  ⟨h.1.drop k, by rw [List.map_drop]; exact h.2.cut (by simpa using hc)⟩
theorem BView.take (h : BView w B A l) (k : Nat) : BView w B A (l.take k) := ⟨h.1.take k, by rw [List.map_take]; exact h.2.take k⟩
end

/-! ### operations -/
theorem u8v_one (l : List Nat) : ∀ v ∈ l.map u8v, v.oneCell' = true := by
  intro v hv
  obtain ⟨n, _, rfl⟩ := List.mem_map.1 hv
  rfl

/-! ### strings out of bytes -/
/-! ### a slice of the call's own that is appended to -/
def Own (w : World) (base : Nat) (t : TypeId) (A : Option Addr) (n c : Nat) (l : List Value) : Prop := w.ownsRow base t 1 (.slice A n c) n l
theorem Own.nil_ (w : World) (base : Nat) (t : TypeId) : Own w base t none 0 0 [] := World.ownsRow_nil w base t 1
theorem Own.lit (w : World) (t : TypeId) (cs : Array Value) (n : Nat) (hm : n ≤ maxLen) (hs : cs.size = n) : Own (w.alloc (.cells cs t)) w.heap.size t (some ⟨w.heap.size, 0, none⟩) n n cs.toList :=
  World.ownsRow_lit w cs n (Nat.le_refl _) hm (by omega)
theorem Own.alloc {w : World} {base : Nat} {t : TypeId} {A : Option Addr} {n c : Nat} {l : List Value} (h : Own w base t A n c l) (o : Obj) : Own (w.alloc o) base t A n c l := World.ownsRow.alloc h o
theorem Own.below {w w' : World} {base B : Nat} {t : TypeId} {A : Option Addr} {n c : Nat} {l : List Value} (h : Own w base t A n c l) (hb : Below B w w') (hA : ∀ g, A = some ⟨g, 0, none⟩ → g < B) : Own w' base t A n c l := by
  refine ⟨h.1, ?_⟩
  rcases h.2 with h0 | ⟨g, cap, cur, hv, r1, r2, r3⟩
  · exact .inl h0
  · refine .inr ⟨g, cap, cur, hv, r1, ?_, r3⟩
    rw [hb.block g (hA g (by injection hv))]; exact r2
theorem Own.length {w : World} {base : Nat} {t : TypeId} {A : Option Addr} {n c : Nat} {l : List Value} (h : Own w base t A n c l) : l.length = n := by have := h.1; omega
theorem Own.view {w : World} {base : Nat} {t : TypeId} {A : Option Addr} {n c : Nat} {l : List Value} (h : Own w base t A n c l) : View w w.heap.size A l := by
  intro hn
  have hl := h.length
  have hpos : 0 < n := by
    rcases l with _ | ⟨x, l⟩
    · exact absurd rfl hn
    · simp at hl; omega
  have hw := h
  obtain ⟨_, ⟨_, h0⟩ | ⟨g, cap, cur, hv, _, hh, _⟩⟩ := h
  · omega
  · injection hv with hv1
    subst hv1
    have hg : g < w.heap.size := by
      rcases Nat.lt_or_ge g w.heap.size with hlt | hge
      · exact hlt
      · rw [Array.getElem?_eq_none hge] at hh; cases hh
    refine ⟨g, 0, rfl, hg, fun j u hu => ?_⟩
    have := World.ownsRow.cells hw (g := g) rfl j u hu
    rw [Nat.zero_add]
    unfold Addr.add at this
    split at this
    · next h0 => subst h0; exact this
    · simpa using this
end Go.Proofs.Ytcobjneobdihkaa
