import Derived.WalkKit
import Derived.Laws.CopyOwn
import Derived.Deep.RegionLaw
import Derived.Laws.BytesArg
import Derived.Deep.Draws
import Derived.Lib.Hide
import Derived.OwnWalk
import Derived.SizedLaws
import Derived.ProofKit
import Derived.Laws.AppendOwnNone
import Derived.Laws.BitsAllLaws
import Derived.Test.YtcobjneobdihkaaRows
import Derived.OpenShut
import Derived.ShutString
import Derived.Deep.Slices
import Derived.Deep.Fields
import Derived.Lib.SmallJoins
import Derived.Laws.AppendOwn
import Derived.OrdersHeld
import Derived.Below
import Derived.Deep.RegionHeld3
import Derived.Deep.QuietTactic
import Derived.BigQuiet
import Derived.IntWalk
import Derived.Deep.MidRow
import Derived.Great.BuildSlice
import Derived.Test.YtcobjneobdihkaaProg
import Derived.Laws.StructEq
/- Words for memory: a slice that reads as a list ('View'), a block that is known whole ('Arr'), bytes as natural numbers, and the operations make, copy, append and the conversion of bytes to a string in these words. Any program. -/
namespace Go.Proofs.Ytcobjneobdihkaa
open Go.RowKit

/-- The slice at A holds the cells xs, below block B. -/
def View (w : World) (B : Nat) (A : Option Addr) (xs : List Value) : Prop :=
  xs ≠ [] → ∃ b o, A = some ⟨b, o, none⟩ ∧ b < B ∧ ∀ j u, xs[j]? = some u → w.cell? ⟨b, o + j, none⟩ = some u

/-- Block g is just the cells l, none frozen. -/
def Arr (w : World) (g : Nat) (t : TypeId) (l : List Value) : Prop := w.heap[g]? = some (.cells l.toArray t (0, 0))

section
variable {w w' : World} {B B' : Nat} {A : Option Addr} {xs : List Value}
theorem View.nil_ : View w B A [] := fun h => absurd rfl h
theorem View.keep (h : View w B A xs) (hk : ∀ p : Addr, p.block < B → w'.cell? p = w.cell? p) : View w' B A xs := fun hn => by
  obtain ⟨b, o, e, hb, hc⟩ := h hn
  exact ⟨b, o, e, hb, fun j u hu => (hk _ hb).trans (hc j u hu)⟩
theorem View.more (h : View w B A xs) (hB : B ≤ B') : View w B' A xs := fun hn => by
  obtain ⟨b, o, e, hb, hc⟩ := h hn
  exact ⟨b, o, e, by omega, hc⟩
theorem View.below (h : View w B A xs) (hb : Below B w w') : View w' B A xs := h.keep fun _ hp => hb.cell hp
theorem View.drew (h : View w B A xs) : View w.drew B A xs := h
theorem View.alloc (h : View w B A xs) (hB : B ≤ w.heap.size) (o : Obj) : View (w.alloc o) B A xs := h.keep fun p hp => World.cell?_alloc_lt w o p (by omega)
theorem View.setCell (h : View w B A xs) {p : Addr} (hB : B ≤ p.block) (u : Value) : View (w.setCell p u) B A xs :=
  h.keep fun q hq => World.cell?_setCell_other w p q u (fun e => by subst e; omega)
/-- 's[k:]' at a capacity 'c': the model keeps the address where nothing is left. -/
theorem View.cut (h : View w B A xs) {k c : Nat} (hc : xs.length ≤ c) : View w B (if c = k then A else A.map (·.add k)) (xs.drop k) := by
  intro hn
  have hl : k < xs.length := by
    rcases Nat.lt_or_ge k xs.length with h1 | h1
    · exact h1
    · exact absurd (List.drop_eq_nil_of_le h1) hn
  obtain ⟨b, o, rfl, hb, hcell⟩ := h (by rintro rfl; simp at hl)
  rw [if_neg (by omega)]
  refine ⟨b, o + k, ?_, hb, fun j u hu => ?_⟩
  · simp only [Option.map_some, Addr.add]
    split
    · next h0 => subst h0; simp
    · rfl
  · rw [Nat.add_assoc]
    exact hcell _ u (by rw [← hu, List.getElem?_drop])
theorem View.take (h : View w B A xs) (k : Nat) : View w B A (xs.take k) := by
  intro hn
  obtain ⟨b, o, rfl, hb, hcell⟩ := h (by rintro rfl; simp at hn)
  refine ⟨b, o, rfl, hb, fun j u hu => hcell j u ?_⟩
  rw [List.getElem?_take] at hu
  split at hu
  · exact hu
  · cases hu

theorem Arr.lt {g t l} (h : Arr w g t l) : g < w.heap.size := by
  rcases Nat.lt_or_ge g w.heap.size with hlt | hge
  · exact hlt
  · unfold Arr at h; rw [Array.getElem?_eq_none hge] at h; cases h
theorem Arr.cell {g t l} (h : Arr w g t l) (i : Nat) : w.cell? ⟨g, i, none⟩ = l[i]? := by
  unfold Arr at h
  simp [World.cell?, h]
theorem Arr.frozen {g t l} (h : Arr w g t l) (i : Nat) : w.frozen? ⟨g, i, none⟩ = false := by
  unfold Arr at h
  simp [World.frozen?, h]
theorem Arr.drew {g t l} (h : Arr w g t l) : Arr w.drew g t l := h
theorem Arr.alloc {g t l} (h : Arr w g t l) (o : Obj) : Arr (w.alloc o) g t l := (Below.heap_alloc w o g h.lt).trans h
theorem Arr.set_ {g t l} (h : Arr w g t l) (i : Nat) (u : Value) : Arr (w.setCell ⟨g, i, none⟩ u) g t (l.set i u) := by
  unfold Arr at h ⊢
  simp [World.setCell, Array.getElem?_modify, h]
theorem Arr.below {g t l} (h : Arr w g t l) (hb : Below B w w') (hg : g < B) : Arr w' g t l := (hb.block g hg).trans h
theorem Arr.new (w : World) (t : TypeId) (l : List Value) : Arr (w.alloc (.cells l.toArray t)) w.heap.size t l := by
  unfold Arr
  show (w.heap.push _)[_]? = _
  simp
theorem Arr.view {g t l} (h : Arr w g t l) (hB : g < B) : View w B (some ⟨g, 0, none⟩) l := fun _ => ⟨g, 0, rfl, hB, fun j u hu => by rw [Nat.zero_add, h.cell]; exact hu⟩
end

/-! ### bytes -/
/-- A byte's cell. -/
def u8v (n : Nat) : Value := .int .u8 (n : Int)
/-- Every number is a byte. -/
def Bytes (l : List Nat) : Prop := ∀ x ∈ l, x < 256
def nth (l : List Nat) (j : Nat) : Nat := l.getD j 0

theorem nth_lt {l : List Nat} (h : Bytes l) (j : Nat) : nth l j < 256 := by
  unfold nth
  rw [List.getD_eq_getElem?_getD]
  cases e : l[j]? with
  | none => simp
  | some x => exact h x (List.mem_of_getElem? e)
theorem nth_get {l : List Nat} {j : Nat} (h : j < l.length) : l[j]? = some (nth l j) := by
  unfold nth; rw [List.getD_eq_getElem?_getD, List.getElem?_eq_getElem h]; rfl
theorem Bytes.take {l : List Nat} (h : Bytes l) (k : Nat) : Bytes (l.take k) := fun x hx => h x (List.mem_of_mem_take hx)
theorem Bytes.drop {l : List Nat} (h : Bytes l) (k : Nat) : Bytes (l.drop k) := fun x hx => h x (List.mem_of_mem_drop hx)
theorem Bytes.append {l m : List Nat} (h : Bytes l) (h' : Bytes m) : Bytes (l ++ m) := fun x hx => by
  rcases List.mem_append.1 hx with hx | hx
  · exact h x hx
  · exact h' x hx
theorem Bytes.set_ {l : List Nat} (h : Bytes l) (i x : Nat) (hx : x < 256) : Bytes (l.set i x) := fun y hy => by
  rcases List.mem_or_eq_of_mem_set hy with h1 | h1
  · exact h y h1
  · omega
theorem Bytes.nil : Bytes [] := fun _ h => by cases h
theorem Bytes.replicate (n : Nat) : Bytes (List.replicate n 0) := fun x hx => by rw [List.eq_of_mem_replicate hx]; omega
theorem Bytes.cons {a : Nat} {l : List Nat} (h : a < 256) (h' : Bytes l) : Bytes (a :: l) := fun x hx => by
  rcases List.mem_cons.1 hx with hx | hx
  · omega
  · exact h' x hx

/-- A slice of bytes reads as the list l. -/
def BView (w : World) (B : Nat) (A : Option Addr) (l : List Nat) : Prop := Bytes l ∧ View w B A (l.map u8v)
section
variable {w w' : World} {B B' : Nat} {A : Option Addr} {l : List Nat}
theorem BView.bytes (h : BView w B A l) : Bytes l := h.1
theorem BView.view (h : BView w B A l) : View w B A (l.map u8v) := h.2
theorem BView.nil_ : BView w B A [] := ⟨Bytes.nil, View.nil_⟩
theorem BView.below (h : BView w B A l) (hb : Below B w w') : BView w' B A l := ⟨h.1, h.2.below hb⟩
theorem BView.more (h : BView w B A l) (hB : B ≤ B') : BView w B' A l := ⟨h.1, h.2.more hB⟩
theorem BView.setCell (h : BView w B A l) {p : Addr} (hB : B ≤ p.block) (u : Value) : BView (w.setCell p u) B A l := ⟨h.1, h.2.setCell hB u⟩
/-- Seen in a world, it is seen in every later one. -/
theorem BView.step (h : BView w w.heap.size A l) (hb : Below w.heap.size w w') : BView w' w'.heap.size A l := (h.below hb).more hb.size
theorem BView.at_ (h : BView w B A l) {k : Nat} (hk : k < l.length) :
    ∃ b o, A = some ⟨b, o, none⟩ ∧ b < B ∧ ∀ j, j < l.length → w.cell? ⟨b, o + j, none⟩ = some (.int .u8 (nth l j : Nat)) := by
  obtain ⟨b, o, e, hb, hc⟩ := h.2 (by intro e; rw [List.map_eq_nil_iff] at e; subst e; simp at hk)
  exact ⟨b, o, e, hb, fun j hj => hc j _ (by rw [List.getElem?_map, nth_get hj]; rfl)⟩
theorem BView.cut (h : BView w B A l) {k c : Nat} (hc : l.length ≤ c) : BView w B (if c = k then A else A.map (·.add k)) (l.drop k) :=
  ⟨h.1.drop k, by rw [List.map_drop]; exact h.2.cut (by simpa using hc)⟩
theorem BView.take (h : BView w B A l) (k : Nat) : BView w B A (l.take k) := ⟨h.1.take k, by rw [List.map_take]; exact h.2.take k⟩
end

/-! ### operations -/
theorem u8v_one (l : List Nat) : ∀ v ∈ l.map u8v, v.oneCell' = true := by
  intro v hv
  obtain ⟨n, _, rfl⟩ := List.mem_map.1 hv
  rfl

/-! ### strings out of bytes -/
/-! ### a slice of the call's own that is appended to -/
def Own (w : World) (base : Nat) (t : TypeId) (A : Option Addr) (n c : Nat) (l : List Value) : Prop := w.ownsRow base t 1 (.slice A n c) n l
theorem Own.nil_ (w : World) (base : Nat) (t : TypeId) : Own w base t none 0 0 [] := World.ownsRow_nil w base t 1
theorem Own.lit (w : World) (t : TypeId) (cs : Array Value) (n : Nat) (hm : n ≤ maxLen) (hs : cs.size = n) : Own (w.alloc (.cells cs t)) w.heap.size t (some ⟨w.heap.size, 0, none⟩) n n cs.toList :=
  World.ownsRow_lit w cs n (Nat.le_refl _) hm (by omega)
theorem Own.alloc {w : World} {base : Nat} {t : TypeId} {A : Option Addr} {n c : Nat} {l : List Value} (h : Own w base t A n c l) (o : Obj) : Own (w.alloc o) base t A n c l := World.ownsRow.alloc h o
theorem Own.below {w w' : World} {base B : Nat} {t : TypeId} {A : Option Addr} {n c : Nat} {l : List Value} (h : Own w base t A n c l) (hb : Below B w w') (hA : ∀ g, A = some ⟨g, 0, none⟩ → g < B) : Own w' base t A n c l := by
  refine ⟨h.1, ?_⟩
  rcases h.2 with h0 | ⟨g, cap, cur, hv, r1, r2, r3⟩
  · exact .inl h0
  · refine .inr ⟨g, cap, cur, hv, r1, ?_, r3⟩
    rw [hb.block g (hA g (by injection hv))]; exact r2
theorem Own.length {w : World} {base : Nat} {t : TypeId} {A : Option Addr} {n c : Nat} {l : List Value} (h : Own w base t A n c l) : l.length = n := by have := h.1; omega
theorem Own.view {w : World} {base : Nat} {t : TypeId} {A : Option Addr} {n c : Nat} {l : List Value} (h : Own w base t A n c l) : View w w.heap.size A l := by
  intro hn
  have hl := h.length
  have hpos : 0 < n := by
    rcases l with _ | ⟨x, l⟩
    · exact absurd rfl hn
    · simp at hl; omega
  have hw := h
  obtain ⟨_, ⟨_, h0⟩ | ⟨g, cap, cur, hv, _, hh, _⟩⟩ := h
  · omega
  · injection hv with hv1
    subst hv1
    have hg : g < w.heap.size := by
      rcases Nat.lt_or_ge g w.heap.size with hlt | hge
      · exact hlt
      · rw [Array.getElem?_eq_none hge] at hh; cases hh
    refine ⟨g, 0, rfl, hg, fun j u hu => ?_⟩
    have := World.ownsRow.cells hw (g := g) rfl j u hu
    rw [Nat.zero_add]
    unfold Addr.add at this
    split at this
    · next h0 => subst h0; exact this
    · simpa using this
end Go.Proofs.Ytcobjneobdihkaa
/- Plain arithmetic that the walks need: bit operations as sums and remainders. No program, no condition beyond each lemma's own. -/
namespace Go.Proofs.Ytcobjneobdihkaa
open Go.RowKit

theorem ret_bool {a b : Bool} (h : a = b) : Ending.returned (.bool a) = .returned (.bool b) := by rw [h]

/-- A number that fits 64 bits; behind a name, because the walk can't bear the numeral. -/
def U64 (n : Nat) : Prop := n < 18446744073709551616
theorem U64.out {n : Nat} (h : U64 n) : n < 18446744073709551616 := h
theorem wf_u16 {n : Int} (h : (Lit.int .u16 n).wf = true) : 0 ≤ n ∧ n < 65536 := by simp [Lit.wf, IntKind.min, IntKind.max, IntKind.signed, IntKind.bits] at h; omega
end Go.Proofs.Ytcobjneobdihkaa
/- A generic last step: a law whose call returns true and leaves all old memory as it was meets its row. Conditions: none of its own. -/
namespace Go.Proofs.Ytcobjneobdihkaa
open Go.ChangeShapes Go.WideShapes Go.ChangeAt Go.RowKit

theorem own_ : ownKnob Try.prog.godebug = none := by kernel_rfl
theorem laidOut_ : laidOutB Try.prog = true := by kernel_rfl

section
variable {H : Type} {enc : TypeId × Value → H} {P : Program}

theorem trodAll_below (hl : laidOutB P = true) {W W' : World} (hb : Below W.heap.size W W') :
    ∀ (ts : List TypeId) (vs : List Value) (ds : List (DataW H)) (ps : List MemPlace), ts.all (fun t => P.readableRec t && decide (t < P.types.size)) = true →
      DataW.TrodAll enc P W 0 (fun _ => true) true ts vs ds ps → (∀ x ∈ ps, x.block < W.heap.size) →
      DataW.TrodAll enc P W' 0 (fun b => decide (b < W.heap.size)) true ts vs ds ps := by
  intro ts
  induction ts with
  | nil =>
    intro vs ds ps _ h _
    cases vs <;> cases ds <;> simp_all [DataW.TrodAll]
  | cons t ts ih =>
    intro vs ds ps hp h hlt
    obtain ⟨v, vs', d, ds', p, q, rfl, rfl, rfl, h0, hr⟩ := trodAll_cons h
    simp only [List.all_cons, Bool.and_eq_true, decide_eq_true_eq] at hp
    exact trodAll_cons_mk (Below.trod hl hp.1.1 hp.1.2 h0 hb (fun x hx => hlt x (by simp [hx])))
      (ih _ _ _ hp.2 hr (fun x hx => hlt x (by simp [hx])))

theorem trodAll_length {W : World} {base : Nat} {spare : Nat → Bool} {held : Bool} :
    ∀ (ts : List TypeId) (vs : List Value) (ds : List (DataW H)) (ps : List MemPlace), DataW.TrodAll enc P W base spare held ts vs ds ps → vs.length = ts.length ∧ ds.length = ts.length := by
  intro ts
  induction ts with
  | nil => intro vs ds ps h; cases vs <;> cases ds <;> simp_all [DataW.TrodAll]
  | cons t ts ih =>
    intro vs ds ps h
    obtain ⟨v, vs', d, ds', p, q, rfl, rfl, rfl, h0, hr⟩ := trodAll_cons h
    have := ih _ _ _ hr
    simp [this]

theorem lift_law {C : Checked} {os : Os} {f : FuncId} {fn : Func} {s : ChangeSpec} {tb : TypeId}
    (own : ownKnob C.prog.godebug = none) (started : os.Started) (noInit : C.prog.inits.idxOf? f = none) (hfn : C.prog.funcs[f]? = some fn)
    (witness : ∃ (w : World) (tape : Tape) (i : Input), w.os = os ∧ (w.forCall tape i).Shaped C.prog ∧ i.vars = [] ∧ Input.okWide C.prog (w.forCall tape i) .any w.heap.size f i ∧
      s.pre6 enc C.prog fn [] false (w.forCall tape i).memory i.args ∧ ({} : Assume).holds C.prog (lone (Frame.enter C.prog f i.args .normal) [] (w.forCall tape i)))
    (hl : laidOutB C.prog = true) (hp : fn.params.toList.all (fun t => C.prog.readableRec t && decide (t < C.prog.types.size)) = true)
    (hr : fn.resultTypes = #[tb]) (hb : C.prog.underlying tb = some .bool) (hv : s.vars = [])
    (hs : ∀ ds : List (DataW H), ds.length = fn.params.toList.length → s.fn H ds = { results := [.lit (.bool true)], args := ds })
    (walk : ∀ (W : World) (base : Nat) (args : Array Value) (ds : List (DataW H)) (ps : List MemPlace),
      (∀ (j : Nat) t v, fn.params[j]? = some t → args[j]? = some v → Value.okWide C.prog W .any base t v) →
      DataW.TrodAll enc C.prog W 0 (fun _ => true) true fn.params.toList args.toList ds ps →
      (∀ x ∈ ps, x.block < W.heap.size) → W.noneFrozen ps →
      (DataW.weightsEach C.prog fn.params.toList ds).all (· ≤ reachBytes) = true →
      Calls C.prog f args W fun e W' => e = .returned (.bool true) ∧ Below W.heap.size W W') :
    ReturnsInHanded {} C os f .any (s.pre6 enc C.prog fn [] false) (s.post enc C.prog fn false true false false) := by
  refine returnsInHanded_of_change_sized (C := C) own started noInit hfn witness ?_
  intro W base args ds gs before hval hW _ hsz _
  have hW' := hW
  obtain ⟨p, q, hA, hV, rfl, hfz, hnd⟩ := hW
  rw [hv] at hV
  obtain ⟨rfl, rfl⟩ := trodVars_none hV
  simp only [List.append_nil] at hW' hfz
  have hlt : ∀ x ∈ p, x.block < W.heap.size := fun x hx => by simpa using hW'.lt x hx
  have hsz' : (DataW.weightsEach C.prog fn.params.toList ds).all (· ≤ reachBytes) = true := by
    have hvt : s.plain.varTypes C.prog = [] := by
      simp [DataSpec.varTypes, ChangeSpec.plain, hv]
    rw [hvt] at hsz
    simpa using hsz
  have hlen := (trodAll_length _ _ _ _ hA).2
  refine (walk W base args ds p hval hA hlt hfz hsz').mono fun e W' ⟨he, hbel⟩ => ?_
  subst he
  refine ⟨_, rfl, ds, [], p, [], p, [], hW', ?_, ?_, ?_, hbel.frame _, fun h => by cases h⟩
  · simp only [List.append_nil]
    rw [hs ds hlen, hr]
    exact trodAll_cons_mk (shut_bool hb true) trodAll_mk0
  · simp only [List.append_nil]
    rw [hs ds hlen]
    exact trodAll_below hl hbel _ _ _ _ hp hA hlt
  · simp only [List.append_nil]
    rw [hs ds hlen, hv]
    exact rfl
end

section
variable {H : Type} {enc : TypeId × Value → H} {P : Program} {w : World}
theorem row_mem (a : Addr) (n : Nat) (h : 0 < n) : MemPlace.cell a.block a.off ∈ MemPlace.row a n := by
  unfold MemPlace.row
  rw [List.mem_map]
  exact ⟨0, by simp [h], by simp⟩

/-- An argument that is a slice of integers of kind k. -/
theorem open_ints_arg {t e : TypeId} {k : IntKind} {v : Value} {d : DataW H} {ps : List MemPlace} {r : Reach} {b0 : Nat} (ht : P.underlying t = some (.slice e)) (he : P.underlying e = some (.int k)) (hc : P.cellsOf e = 1)
    (hval : Value.okWide P w r b0 t v) (hd : DataW.Trod enc P w 0 (fun _ => true) true t v d ps) (hlt : ∀ x ∈ ps, x.block < w.heap.size) :
    ∃ (A : Option Addr) (n c : Nat) (zs : List Int), v = .slice A n c ∧ zs.length = n ∧ (A = none → c = 0) ∧ n ≤ c ∧ c ≤ maxLen ∧ (∀ z ∈ zs, (Lit.int k z).wf = true) ∧ View w w.heap.size A (zs.map (.int k)) := by
  obtain ⟨A, n, c, rfl⟩ := okWide_slice ht hval
  obtain ⟨fuel, hf⟩ := hd
  rcases open_ints ht he hc hf with ⟨hcs, _⟩ | ⟨a, len, cap, zs, hcs, _, hl, hm, hz, hx, hcell, hwz⟩
  · simp [Value.cells] at hcs
    obtain ⟨rfl, rfl, rfl⟩ := hcs
    exact ⟨none, 0, 0, [], rfl, rfl, fun _ => rfl, Nat.le_refl _, by simp [maxLen], by simp, View.nil_⟩
  · simp [Value.cells] at hcs
    obtain ⟨rfl, rfl, rfl⟩ := hcs
    have hzl : zs.length = c := by simpa using hz
    refine ⟨some a, n, c, zs.take n, rfl, by simp; omega, (by intro h; cases h), hl, hm, fun z hzm => hwz z (List.mem_of_mem_take hzm), ?_⟩
    intro hne
    have hpos : 0 < zs.length := by
      rcases zs with _ | ⟨z, zs⟩
      · simp at hne
      · simp
    have hps : ps = MemPlace.row a zs.length := by injection hx
    have hblk : a.block < w.heap.size := by
      have := hlt (MemPlace.cell a.block a.off) (by rw [hps]; exact row_mem a _ hpos)
      simpa [MemPlace.block] using this
    have hspot : a.spot = none := World.cell?_spot (by simpa [Addr.add] using hcell 0 hpos)
    obtain ⟨b, o, sp⟩ := a
    simp only at hspot
    subst hspot
    refine ⟨b, o, rfl, hblk, fun j u hu => ?_⟩
    rw [List.getElem?_map, List.getElem?_take] at hu
    split at hu
    · next hj =>
      have h1 := hcell j (by omega)
      have h2 : (⟨b, o, none⟩ : Addr).add j = ⟨b, o + j, none⟩ := by unfold Addr.add; split <;> simp_all
      rw [h2] at h1
      rw [h1, ← hu, List.getD_eq_getElem?_getD, List.getElem?_eq_getElem (by omega)]
      rfl
    · cases hu

theorem open_row {t e : TypeId} {k : IntKind} (hk : k = .u8) {v : Value} {d : DataW H} {ps : List MemPlace} {r : Reach} {b0 : Nat} (ht : P.underlying t = some (.slice e)) (he : P.underlying e = some (.int k)) (hc : P.cellsOf e = 1)
    (hval : Value.okWide P w r b0 t v) (hd : DataW.Trod enc P w 0 (fun _ => true) true t v d ps) (hlt : ∀ x ∈ ps, x.block < w.heap.size) :
    ∃ (A : Option Addr) (n c : Nat) (l : List Nat), v = .slice A n c ∧ (l.length = n ∧ (A = none → c = 0) ∧ BView w w.heap.size A l ∧ n ≤ c) := by
  subst hk
  obtain ⟨A, n, c, zs, rfl, hn, hA, hnc, _, hwf, hv⟩ := open_ints_arg ht he hc hval hd hlt
  refine ⟨A, n, c, zs.map Int.toNat, rfl, by simpa using hn, hA, ⟨?_, ?_⟩, hnc⟩
  · intro x hx
    obtain ⟨z, hz, rfl⟩ := List.mem_map.1 hx
    have := hwf z hz
    simp [Lit.wf, IntKind.min, IntKind.max, IntKind.signed, IntKind.bits] at this
    omega
  · have e : (zs.map Int.toNat).map u8v = zs.map (.int .u8) := by
      rw [List.map_map]
      refine List.map_congr_left fun z hz => ?_
      have := hwf z hz
      simp [Lit.wf, IntKind.min, IntKind.max, IntKind.signed, IntKind.bits] at this
      simp [u8v, Int.toNat_of_nonneg this.1]
    rw [e]
    exact hv
end

section
variable {H : Type} {enc : TypeId × Value → H} {P : Program} {w : World}
end

section
variable {H : Type} {enc : TypeId × Value → H} {P : Program} {w : World}
end

end Go.Proofs.Ytcobjneobdihkaa
/- append to a row that one owns, saying in which block the new row lies: the old one's, or a new one. Conditions: none but the bounds of a slice. -/
namespace Go.Proofs.Ytcobjneobdihkaa
open Go.RowKit

theorem own_slice {w : World} {base : Nat} {e : TypeId} {size : Nat} {v : Value} {n : Nat} {xs : List Value} (h : w.ownsRow base e size v n xs) (hn : 0 < n) : ∃ g c, v = .slice (some ⟨g, 0, none⟩) n c := by
  rcases h.2 with ⟨_, h0⟩ | ⟨g, c, _, rfl, _⟩
  · omega
  · exact ⟨g, c, rfl⟩

theorem owp_append_at {P : Program} {w : World} {o : Oper} {a : Act} {K : Act → World → Prop} {Q : Exit → Act → World → Prop} (s x : Operand) (t : TypeId)
    (ho : o.op = .call { callee := .builtin .append, args := #[s, x], argTypes := #[t, t] })
    (base : Nat) (e : TypeId) (i : TypeInfo) (z : Value) (size bytes : Nat) (ht : P.underlying t = some (.slice e)) (hi : P.info? e = some i) (hz : i.zero = some z)
    (hsize : i.size = size) (hby : i.bytes = bytes) (hzs : z.cells.size = size) (hsz : 0 < size)
    (A : Option Addr) (n c : Nat) (xs : List Value) (hs : a.eval s = .slice A n c) (hown : w.ownsRow base e size (.slice A n c) n xs)
    (ad : Addr) (m c1 : Nat) (news : List Value) (hx : a.eval x = .slice (some ad) m c1) (hl : news.length = m * size) (hnews : ∀ j u, news[j]? = some u → w.cell? (ad.add j) = some u) (h1 : ∀ u ∈ news, u.oneCell' = true)
    (hm : 0 < m) (h63 : n + m ≤ maxLen) (hbytes : (n + m) * bytes ≤ 140737488355328) (hbase : base ≤ w.heap.size)
    (h : ∀ g' c' w', Hid (w'.ownsRow base e size (.slice (some ⟨g', 0, none⟩) (n + m) c') (n + m) (xs ++ news)) → w.grownBy w' (A.map (·.block)) → (A = some ⟨g', 0, none⟩ ∨ w.heap.size ≤ g') → g' < w'.heap.size → K (a.put o.dst (.slice (some ⟨g', 0, none⟩) (n + m) c')) w') : o.wp P a w K Q := by
  obtain ⟨v', w', hr, h2, h3, h4⟩ := run_append_own (P := P) w base t o.type e i z size bytes ht hi hz hsize hby hzs hsz _ n xs hown ad m c1 news hl hnews h1 h63 hbytes hbase
  obtain ⟨g', c', rfl⟩ := own_slice h2 (by omega)
  have hpl : A = some ⟨g', 0, none⟩ ∨ w.heap.size ≤ g' := by
    subst hsize
    subst hby
    rcases hown.2 with ⟨e0, rfl⟩ | ⟨g, cap, cur, e0, hbg, hg, hnc, hcm, hcs, htake⟩
    · injection e0 with e1 e2 e3
      subst e1; subst e3
      have hxs : xs = [] := List.eq_nil_of_length_eq_zero (by simpa using hown.1)
      subst hxs
      have hr2 := run_append_nil (P := P) w t o.type e i z ht hi hz ad m c1 news hl hnews (by omega) (by simp only [maxLen] at h63; omega) (by have hb := hbytes; simp only [Nat.zero_add] at hb; omega)
      rw [hr2] at hr
      injection hr with hr _
      injection hr with hr
      injection hr with hr
      injection hr with hr
      exact .inr (by omega)
    · injection e0 with e1 e2 e3
      subst e1; subst e3
      by_cases hroom : n + m ≤ c
      · have hfit : n * i.size + news.length ≤ cur.size := by rw [hl, hcs, ← Nat.add_mul]; exact Nat.mul_le_mul_right _ hroom
        have hr2 := run_append_room (P := P) w t o.type e i ht hi g n c cur hg ad m c1 news hl hnews h1 hroom hfit
        rw [hr2] at hr
        injection hr with hr _
        injection hr with hr
        exact .inl hr
      · have holds : ∀ j u, xs[j]? = some u → w.cell? ((⟨g, 0, none⟩ : Addr).add j) = some u := hown.cells (g := g) rfl
        have hr2 := run_append_grow (P := P) w t o.type e i z ht hi hz ⟨g, 0, none⟩ n c xs hown.1 holds ad m c1 news hl hnews (by omega) (by simp only [maxLen] at h63; omega) (growslice_fits (by omega) hbytes)
        rw [hr2] at hr
        injection hr with hr _
        injection hr with hr
        injection hr with hr
        injection hr with hr
        exact .inr (by omega)
  unfold Oper.wp execOp
  simp only [ho, resolve, invoke, builtin, Sem.run_bind, Sem.run_pure, Result.andThen_ok, List.map_toArray, List.map_cons, List.map_nil, hs, hx, hr]
  refine h g' c' w' h2 ?_ hpl (World.ownsRow.lt h2 g' rfl).2
  cases A with
  | none => exact h3
  | some ad => exact h3

end Go.Proofs.Ytcobjneobdihkaa
/- A statement that draws its order, walked in ONE order: what reads memory may be taken as soon as it can come up, because all that follows only adds memory ('Below'). Any program. -/
namespace Go.Proofs.Ytcobjneobdihkaa
open Go.RowKit

section
variable {P : Program} {ops : Array Oper} {Q : Exit → Act → World → Prop} {fuel : Nat} {listed : Array Bool} {a : Act} {w : World}

end
end Go.Proofs.Ytcobjneobdihkaa
/- An engine for walks: frames as functions, one lemma an operation, memory as one list of entries. Any program. -/
namespace Go.Proofs.Ytcobjneobdihkaa
open Go.RowKit

theorem nrm : (∀ (p : Prop) [Decidable p], (decide p = true) = p) ∧ (∀ (p : Prop) [Decidable p], (decide p = false) = ¬ p) ∧ (∀ b : Bool, ((!b) = true) = (b = false)) ∧ (∀ b : Bool, ((!b) = false) = (b = true)) ∧ (∀ a b : Int, (¬ a < b) = (b ≤ a)) ∧ (∀ a b : Int, (¬ a ≤ b) = (b < a)) ∧ (∀ a b : Nat, (¬ a < b) = (b ≤ a)) ∧ (∀ a b : Nat, (¬ a ≤ b) = (b < a)) ∧
    (∀ a b : Nat, ((a : Int) < (b : Int)) = (a < b)) ∧ (∀ a b : Nat, ((a : Int) ≤ (b : Int)) = (a ≤ b)) ∧ (∀ a b : Nat, ((a : Int) = (b : Int)) = (a = b)) ∧ (∀ a : Bool, (a == true) = a) :=
  ⟨fun p _ => decide_eq_true_eq, fun p _ => by simp, fun b => by simp, fun b => by simp, fun a b => by simp, fun a b => by simp, fun a b => by simp, fun a b => by simp, fun a b => by simp, fun a b => by simp, fun a b => by simp; omega, fun a => by simp⟩
/-! ### frames -/
def upd (f : Nat → Value) (d : Nat) (v : Value) : Nat → Value := fun t => cond (Nat.beq t d) v (f t)
def act (n : Nat) (f : Nat → Value) : Act := ⟨((List.range n).map f).toArray, []⟩
def mix (W : List Nat) (g f : Nat → Value) : Nat → Value := fun t => cond (W.elem t) (g t) (f t)
def argf (l : List Value) : Nat → Value := fun t => l.getD t undef

theorem act_get (n : Nat) (f : Nat → Value) (t : Nat) (h : t < n) : (act n f).tmps.getD t undef = f t := by
  unfold act
  simp [Array.getD, h]
theorem tm {n : Nat} {f : Nat → Value} {t : Nat} (h : Nat.blt t n = true) : (act n f).eval (.tmp t) = f t := by
  have : t < n := by simpa [Nat.blt_eq] using h
  exact act_get n f t this
theorem ev_c {a : Act} {v : Value} : a.eval (.const v) = v := rfl
theorem ev_cN {a : Act} {k : IntKind} (m : Nat) : a.eval (.const (.int k (m : Int))) = .int k (m : Int) := rfl
theorem act_put (n : Nat) (f : Nat → Value) (d : Nat) (v : Value) : (act n f).put (some d) v = act n (upd f d v) := by
  unfold act Act.put
  simp only [Act.mk.injEq, and_true]
  apply Array.ext
  · simp
  · intro i h1 h2
    simp at h1
    simp [Array.getElem_setIfInBounds, upd]
    by_cases h : d = i
    · subst h; simp [Nat.beq_refl]
    · have : Nat.beq i d = false := by
        cases hb : Nat.beq i d with
        | false => rfl
        | true => exact absurd (Nat.eq_of_beq_eq_true hb).symm h
      simp [h, this]
theorem act_enter (args : List Value) (m : Nat) : (⟨args.toArray ++ Array.replicate (m - args.toArray.size) undef, []⟩ : Act) = act (max m args.length) (argf args) := by
  unfold act
  simp only [Act.mk.injEq, and_true]
  apply Array.ext
  · simp; omega
  · intro i h1 h2
    simp at h1
    simp only [List.getElem_toArray, List.getElem_map, List.getElem_range, argf, List.getD_eq_getElem?_getD]
    by_cases h : i < args.length
    · rw [Array.getElem_append_left (by simpa using h), List.getElem?_eq_getElem h]; simp
    · rw [Array.getElem_append_right (by simpa using h), List.getElem?_eq_none (by omega)]; simp

theorem upd_self (f : Nat → Value) (d : Nat) (v : Value) (h : f d = v) : upd f d v = f := by
  funext t
  unfold upd
  cases hb : Nat.beq t d with
  | false => rfl
  | true => rw [Nat.eq_of_beq_eq_true hb, h]; rfl
/-- A slot's value, written out. -/
theorem fr_know {P : Program} {c : Code} {Q : Exit → Act → World → Prop} {n : Nat} {f : Nat → Value} {w : World} {d : Nat} {v : Value} (h : f d = v) (k : c.wp P Q (act n (upd f d v)) w) : c.wp P Q (act n f) w := by
  rw [upd_self f d v h] at k; exact k

/-- The frames agree but for these slots. -/
def Agree (W : List Nat) (f' f : Nat → Value) : Prop := ∀ t, W.elem t = false → f' t = f t
theorem agree_refl {W f} : Agree W f f := fun _ _ => rfl
theorem agree_self {W g f} : Agree W (mix W g f) f := fun t h => by unfold mix; rw [h]; rfl
theorem agree_upd {W f' f d v} (h : W.elem d = true) (k : Agree W f' f) : Agree W (upd f' d v) f := fun t ht => by
  unfold upd
  cases hb : Nat.beq t d with
  | false => exact k t ht
  | true => rw [Nat.eq_of_beq_eq_true hb, h] at ht; cases ht
theorem agree_mix {W V g f' f} (h : V.all (W.elem ·) = true) (k : Agree W f' f) : Agree W (mix V g f') f := fun t ht => by
  unfold mix
  cases hb : V.elem t with
  | false => exact k t ht
  | true =>
    have := List.all_eq_true.1 h t (List.mem_of_elem_eq_true hb)
    rw [this] at ht; cases ht
theorem agree_eq {W f' f} (h : Agree W f' f) : f' = mix W f' f := by
  funext t
  unfold mix
  cases hb : W.elem t with
  | false => exact h t hb
  | true => rfl

/-! ### entering, loops, ways -/
theorem ent {P : Program} {f : FuncId} {fn : Func} {c : Code} {args : List Value} {w : World} {R : Ending → World → Prop} {n : Nat} (hf : P.funcs[f]? = some fn) (hb : fn.body = some c) (hn : max fn.ntmps args.length = n)
    (h : c.wp P (bodyPost P fn R) (act n (argf args)) w) : Calls P f args.toArray w R := by
  refine calls_of_wp hf hb ?_
  rw [act_enter, hn]
  exact h

theorem least_of {p : Nat → Prop} : ∀ n, p n → ∃ m, p m ∧ m ≤ n ∧ ∀ k, p k → m ≤ k := by
  intro n
  induction n using Nat.strongRecOn with
  | _ n ih =>
    intro h
    by_cases hx : ∃ k, k < n ∧ p k
    · obtain ⟨k, hk, hp⟩ := hx
      obtain ⟨m, h1, h2, h3⟩ := ih k hk hp
      exact ⟨m, h1, by omega, h3⟩
    · refine ⟨n, h, Nat.le_refl _, fun k hk => ?_⟩
      rcases Nat.lt_or_ge k n with h1 | h1
      · exact absurd ⟨k, h1, hk⟩ hx
      · exact h1
open Classical in
noncomputable def leastN (p : Nat → Prop) : Nat := if h : ∃ m, p m ∧ ∀ k, p k → m ≤ k then h.choose else 0
theorem leastN_spec {p : Nat → Prop} {n : Nat} (h : p n) : p (leastN p) ∧ leastN p ≤ n := by
  obtain ⟨m, h1, _, h3⟩ := least_of n h
  have hx : ∃ m, p m ∧ ∀ k, p k → m ≤ k := ⟨m, h1, h3⟩
  unfold leastN
  rw [dif_pos hx]
  exact ⟨hx.choose_spec.1, hx.choose_spec.2 n h⟩

theorem lp {P : Program} {c : Code} {Q : Exit → Act → World → Prop} {n : Nat} {f : Nat → Value} {w : World} (W : List Nat) (I : Nat → (Nat → Value) → World → Prop) (h0 : ∃ m, I m f w)
    (round : ∀ m g w, I m (mix W g f) w → c.wp P (Exit.then (fun a' w' => ∃ m' f', a' = act n f' ∧ m' < m ∧ Agree W f' f ∧ I m' f' w') Q) (act n (mix W g f)) w) : (Code.loop c).wp P Q (act n f) w := by
  obtain ⟨m0, h0⟩ := h0
  have h0' : ∃ m g, act n f = act n (mix W g f) ∧ I m (mix W g f) w := ⟨m0, f, by rw [← agree_eq (W := W) (f' := f) agree_refl], by rw [← agree_eq (W := W) (f' := f) agree_refl]; exact h0⟩
  refine wp_loop (fun a w => ∃ m g, a = act n (mix W g f) ∧ I m (mix W g f) w) (fun a w => leastN fun m => ∃ g, a = act n (mix W g f) ∧ I m (mix W g f) w) h0' ?_
  rintro a w ⟨m, g, hm⟩
  obtain ⟨⟨g1, e1, h1⟩, _⟩ := leastN_spec (p := fun m => ∃ g, a = act n (mix W g f) ∧ I m (mix W g f) w) (n := m) ⟨g, hm⟩
  have hr := round _ g1 w h1
  rw [← e1] at hr
  refine wp_mono hr ?_
  intro e a' w' hq
  cases e with
  | normal =>
    obtain ⟨m', f', rfl, hlt, hag, hI⟩ := hq
    rw [agree_eq hag] at hI ⊢
    refine ⟨⟨m', f', rfl, hI⟩, ?_⟩
    have := (leastN_spec (p := fun m => ∃ g, act n (mix W f' f) = act n (mix W g f) ∧ I m (mix W g f) w') (n := m') ⟨f', rfl, hI⟩).2
    exact Nat.lt_of_le_of_lt this hlt
  | _ => exact hq

theorem then_n {next : Act → World → Prop} {Q : Exit → Act → World → Prop} {a : Act} {w : World} (h : next a w) : Exit.then next Q .normal a w := h
theorem then_x {next : Act → World → Prop} {Q : Exit → Act → World → Prop} {a : Act} {w : World} {id : Nat} (h : Q (.exit id) a w) : Exit.then next Q (.exit id) a w := h
theorem then_r {next : Act → World → Prop} {Q : Exit → Act → World → Prop} {a : Act} {w : World} (h : Q .ret a w) : Exit.then next Q .ret a w := h
theorem inb_n {id : Nat} {Q : Exit → Act → World → Prop} {a : Act} {w : World} (h : Q .normal a w) : Exit.inBlock id Q .normal a w := h
theorem inb_r {id : Nat} {Q : Exit → Act → World → Prop} {a : Act} {w : World} (h : Q .ret a w) : Exit.inBlock id Q .ret a w := h
theorem inb_x {id : Nat} {Q : Exit → Act → World → Prop} {a : Act} {w : World} (h : Q .normal a w) : Exit.inBlock id Q (.exit id) a w := by simp only [Exit.inBlock, if_true]; exact h
theorem cnd {P : Program} {Q : Exit → Act → World → Prop} {a : Act} {w : World} {c : Operand} {x y : Code} {t : Bool} (hc : a.eval c = .bool t) (ht : t = true → x.wp P Q a w) (hf : t = false → y.wp P Q a w) : (Code.cond c x y).wp P Q a w :=
  wp_cond_split hc ht hf

theorem cnds {P : Program} {Q : Exit → Act → World → Prop} {a : Act} {w : World} {c : Operand} {x y : Code} {t : Bool} (hc : a.eval c = .bool t) (hf : t = false → y.wp P Q a w) (ht : t = true → x.wp P Q a w) : (Code.cond c x y).wp P Q a w :=
  wp_cond_split hc ht hf
theorem cnd_t {P : Program} {Q : Exit → Act → World → Prop} {a : Act} {w : World} {c : Operand} {x y : Code} {t : Bool} (hc : a.eval c = .bool t) (ht : t = true) (h : x.wp P Q a w) : (Code.cond c x y).wp P Q a w := by subst ht; exact wp_cond_true hc h
theorem cnd_f {P : Program} {Q : Exit → Act → World → Prop} {a : Act} {w : World} {c : Operand} {x y : Code} {t : Bool} (hc : a.eval c = .bool t) (ht : t = false) (h : y.wp P Q a w) : (Code.cond c x y).wp P Q a w := by subst ht; exact wp_cond_false hc h
/-! ### values -/
section
variable {P : Program} {a : Act} {w : World} {x y : Operand} {d : Option Tmp} {t t' ty : TypeId} {pos : String} {aft : Array Edge} {g : Option (Nat × Bool)} {k : IntKind} {m n r : Int} {i j : Nat} {v u : Value}

theorem x_move (hx : a.eval x = v) : (execOp a.eval ⟨d, .move x, ty, pos, aft, g⟩).run P w = .ok (.value v) w := by subst hx; rfl
theorem x_assign (hx : a.eval x = v) : (execOp a.eval ⟨d, .assign x, ty, pos, aft, g⟩).run P w = .ok (.value v) w := by subst hx; rfl
theorem x_pick {c : Operand} {b : Bool} (hc : a.eval c = .bool b) (hx : a.eval x = v) (hy : a.eval y = u) : (execOp a.eval ⟨d, .pick c x y, ty, pos, aft, g⟩).run P w = .ok (.value (if b then v else u)) w := by
  subst hx; subst hy; unfold execOp; simp only [hc, asBool, Sem.run_bind, Sem.run_pure, Result.andThen_ok]
theorem x_bin {op : BinOp} (hop : (op matches .eql | .neq) = false) (hs : (op matches .shl | .shr) = false) (hx : a.eval x = .int k m) (hy : a.eval y = .int k n) (hv : ∀ w, (match op with
    | .add | .sub | .mul => Op.intArith op k m n
    | .quo | .rem => Op.intDiv op k m n
    | .and | .or | .xor | .andNot => Op.intBits op k m n
    | _ => Op.intCmp op m n : Sem Value).run P w = .ok v w) : (execOp a.eval ⟨d, .binOp op t x y t', ty, pos, aft, g⟩).run P w = .ok (.value v) w := by
  have h := hv w
  unfold execOp
  cases op <;> simp_all [eqGuard, binOp, Sem.run_bind, Sem.run_pure, Result.andThen_ok]
theorem x_add (hx : a.eval x = .int k m) (hy : a.eval y = .int k n) : (execOp a.eval ⟨d, .binOp .add t x y t', ty, pos, aft, g⟩).run P w = .ok (.value (.int k (k.wrap (m + n)))) w := x_bin rfl rfl hx hy fun _ => rfl
theorem x_sub (hx : a.eval x = .int k m) (hy : a.eval y = .int k n) : (execOp a.eval ⟨d, .binOp .sub t x y t', ty, pos, aft, g⟩).run P w = .ok (.value (.int k (k.wrap (m - n)))) w := x_bin rfl rfl hx hy fun _ => rfl
theorem x_mul (hx : a.eval x = .int k m) (hy : a.eval y = .int k n) : (execOp a.eval ⟨d, .binOp .mul t x y t', ty, pos, aft, g⟩).run P w = .ok (.value (.int k (k.wrap (m * n)))) w := x_bin rfl rfl hx hy fun _ => rfl
theorem x_lss (hx : a.eval x = .int k m) (hy : a.eval y = .int k n) : (execOp a.eval ⟨d, .binOp .lss t x y t', ty, pos, aft, g⟩).run P w = .ok (.value (.bool (decide (m < n)))) w := x_bin rfl rfl hx hy fun _ => rfl
theorem x_leq (hx : a.eval x = .int k m) (hy : a.eval y = .int k n) : (execOp a.eval ⟨d, .binOp .leq t x y t', ty, pos, aft, g⟩).run P w = .ok (.value (.bool (decide (m ≤ n)))) w := x_bin rfl rfl hx hy fun _ => rfl
theorem x_gtr (hx : a.eval x = .int k m) (hy : a.eval y = .int k n) : (execOp a.eval ⟨d, .binOp .gtr t x y t', ty, pos, aft, g⟩).run P w = .ok (.value (.bool (decide (n < m)))) w := x_bin rfl rfl hx hy fun _ => rfl
theorem x_geq (hx : a.eval x = .int k m) (hy : a.eval y = .int k n) : (execOp a.eval ⟨d, .binOp .geq t x y t', ty, pos, aft, g⟩).run P w = .ok (.value (.bool (decide (n ≤ m)))) w := x_bin rfl rfl hx hy fun _ => rfl
theorem x_eql (hx : a.eval x = .int k m) (hy : a.eval y = .int k n) : (execOp a.eval ⟨d, .binOp .eql t x y t', ty, pos, aft, g⟩).run P w = .ok (.value (.bool (decide (m = n)))) w := by
  unfold execOp
  simp only [hx, hy, eqGuard, binOp, Op.intCmp, Sem.run_bind, Sem.run_pure, Result.andThen_ok]
  simp [Op.intCmp]
  rfl
theorem x_neq (hx : a.eval x = .int k m) (hy : a.eval y = .int k n) : (execOp a.eval ⟨d, .binOp .neq t x y t', ty, pos, aft, g⟩).run P w = .ok (.value (.bool (!decide (m = n)))) w := by
  unfold execOp
  simp only [hx, hy, eqGuard, binOp, Op.intCmp, Sem.run_bind, Sem.run_pure, Result.andThen_ok]
  simp [Op.intCmp]
  rfl
end
end Go.Proofs.Ytcobjneobdihkaa
/- The engine's second part: numbers that are natural, addresses, lengths, loads. Any program. -/
namespace Go.Proofs.Ytcobjneobdihkaa
open Go.RowKit

/-! ### ranges of kinds -/
def fitsN (k : IntKind) (m : Nat) : Prop := k.wrap (m : Int) = (m : Int)
theorem fit_i64 {m : Nat} (h : m ≤ 9223372036854775807) : fitsN .i64 m := IntWalk.i64_in _ (by omega)
theorem fit_u64 {m : Nat} (h : m ≤ 18446744073709551615) : fitsN .u64 m := IntWalk.u64_in _ (by omega)
theorem fit_u32 {m : Nat} (h : m ≤ 4294967295) : fitsN .u32 m := IntWalk.u32_in _ (by omega)
theorem fit_u16 {m : Nat} (h : m ≤ 65535) : fitsN .u16 m := IntWalk.u16_in _ (by omega)
theorem fit_u8 {m : Nat} (h : m ≤ 255) : fitsN .u8 m := IntWalk.u8_in _ (by omega)
/-- How many numbers a kind holds that are not below 0. -/
def IntKind.cap (k : IntKind) : Nat := if k.signed then 2 ^ (k.bits - 1) else 2 ^ k.bits
theorem fits_iff (k : IntKind) (m : Nat) : fitsN k m ↔ m < IntKind.cap k := by
  unfold fitsN IntKind.cap
  cases k <;> simp [IntKind.wrap, IntKind.signed, IntKind.bits] <;> (try split) <;> omega
theorem fits_le {k : IntKind} {m m' : Nat} (h : fitsN k m) (hm : m' ≤ m) : fitsN k m' := by
  rw [fits_iff] at *; omega
theorem cap_le (k : IntKind) : IntKind.cap k ≤ 2 ^ k.bits := by cases k <;> decide
theorem cap_pow (k : IntKind) : ∃ b, IntKind.cap k = 2 ^ b ∧ b ≤ k.bits := by
  cases k <;> first | exact ⟨7, rfl, by decide⟩ | exact ⟨8, rfl, by decide⟩ | exact ⟨15, rfl, by decide⟩ | exact ⟨16, rfl, by decide⟩ | exact ⟨31, rfl, by decide⟩ | exact ⟨32, rfl, by decide⟩ | exact ⟨63, rfl, by decide⟩ | exact ⟨64, rfl, by decide⟩
theorem wrap_u {k : IntKind} (hk : k.signed = false) (z : Int) : k.wrap z = z % (2 ^ k.bits : Int) := by
  unfold IntKind.wrap
  rw [hk]
  simp
theorem wrap_uN {k : IntKind} (hk : k.signed = false) (m : Nat) : k.wrap (m : Int) = ((m % 2 ^ k.bits : Nat) : Int) := by
  rw [wrap_u hk]
  push_cast
  rfl

section
variable {P : Program} {a : Act} {w : World} {x y : Operand} {d : Option Tmp} {t t' ty : TypeId} {pos : String} {aft : Array Edge} {g : Option (Nat × Bool)} {k k' : IntKind} {z z' r : Int} {m n i j : Nat} {v u : Value}

theorem x_addI (hx : a.eval x = .int k z) (hy : a.eval y = .int k z') (hr : k.wrap (z + z') = z + z') : (execOp a.eval ⟨d, .binOp .add t x y t', ty, pos, aft, g⟩).run P w = .ok (.value (.int k (z + z'))) w := by have := x_add (P := P) (w := w) (d := d) (t := t) (t' := t') (ty := ty) (pos := pos) (aft := aft) (g := g) hx hy; rwa [hr] at this
theorem x_subI (hx : a.eval x = .int k z) (hy : a.eval y = .int k z') (hr : k.wrap (z - z') = z - z') : (execOp a.eval ⟨d, .binOp .sub t x y t', ty, pos, aft, g⟩).run P w = .ok (.value (.int k (z - z'))) w := by have := x_sub (P := P) (w := w) (d := d) (t := t) (t' := t') (ty := ty) (pos := pos) (aft := aft) (g := g) hx hy; rwa [hr] at this
theorem x_mulI (hx : a.eval x = .int k z) (hy : a.eval y = .int k z') (hr : k.wrap (z * z') = z * z') : (execOp a.eval ⟨d, .binOp .mul t x y t', ty, pos, aft, g⟩).run P w = .ok (.value (.int k (z * z'))) w := by have := x_mul (P := P) (w := w) (d := d) (t := t) (t' := t') (ty := ty) (pos := pos) (aft := aft) (g := g) hx hy; rwa [hr] at this
theorem x_addN (hx : a.eval x = .int k (m : Int)) (hy : a.eval y = .int k (n : Int)) (hr : fitsN k (m + n)) : (execOp a.eval ⟨d, .binOp .add t x y t', ty, pos, aft, g⟩).run P w = .ok (.value (.int k ((m + n : Nat) : Int))) w := by
  have := x_addI (P := P) (w := w) (d := d) (t := t) (t' := t') (ty := ty) (pos := pos) (aft := aft) (g := g) hx hy (by rw [← Int.natCast_add]; exact hr)
  rwa [← Int.natCast_add] at this
theorem x_addU (hx : a.eval x = .int k (m : Int)) (hy : a.eval y = .int k (n : Int)) (hk : k.signed = false) : (execOp a.eval ⟨d, .binOp .add t x y t', ty, pos, aft, g⟩).run P w = .ok (.value (.int k (((m + n) % 2 ^ k.bits : Nat) : Int))) w := by
  have := x_add (P := P) (w := w) (d := d) (t := t) (t' := t') (ty := ty) (pos := pos) (aft := aft) (g := g) hx hy
  rwa [← Int.natCast_add, wrap_uN hk] at this
theorem x_subN (hx : a.eval x = .int k (m : Int)) (hy : a.eval y = .int k (n : Int)) (hm : fitsN k m) (hr : n ≤ m) : (execOp a.eval ⟨d, .binOp .sub t x y t', ty, pos, aft, g⟩).run P w = .ok (.value (.int k ((m - n : Nat) : Int))) w := by
  have e : (m : Int) - (n : Int) = ((m - n : Nat) : Int) := by omega
  have := x_subI (P := P) (w := w) (d := d) (t := t) (t' := t') (ty := ty) (pos := pos) (aft := aft) (g := g) hx hy (by rw [e]; exact fits_le hm (by omega))
  rwa [e] at this
theorem x_subU (hx : a.eval x = .int k (m : Int)) (hy : a.eval y = .int k (n : Int)) (hk : k.signed = false) (hn : fitsN k n) : (execOp a.eval ⟨d, .binOp .sub t x y t', ty, pos, aft, g⟩).run P w = .ok (.value (.int k (((m + (2 ^ k.bits - n)) % 2 ^ k.bits : Nat) : Int))) w := by
  have h := x_sub (P := P) (w := w) (d := d) (t := t) (t' := t') (ty := ty) (pos := pos) (aft := aft) (g := g) hx hy
  have hn' := (fits_iff k n).1 hn
  have hc := cap_le k
  have e : k.wrap ((m : Int) - (n : Int)) = (((m + (2 ^ k.bits - n)) % 2 ^ k.bits : Nat) : Int) := by
    rw [wrap_u hk, Int.natCast_emod, Int.natCast_add, Int.natCast_sub (by omega)]
    rw [show ((m : Int) + (((2 ^ k.bits : Nat) : Int) - n)) = ((m : Int) - n) + ((2 ^ k.bits : Nat) : Int) by omega, Int.add_emod_right]
    push_cast
    rfl
  rwa [e] at h
theorem x_mulN (hx : a.eval x = .int k (m : Int)) (hy : a.eval y = .int k (n : Int)) (hr : fitsN k (m * n)) : (execOp a.eval ⟨d, .binOp .mul t x y t', ty, pos, aft, g⟩).run P w = .ok (.value (.int k ((m * n : Nat) : Int))) w := by
  have := x_mulI (P := P) (w := w) (d := d) (t := t) (t' := t') (ty := ty) (pos := pos) (aft := aft) (g := g) hx hy (by rw [← Int.natCast_mul]; exact hr)
  rwa [← Int.natCast_mul] at this
theorem x_mulU (hx : a.eval x = .int k (m : Int)) (hy : a.eval y = .int k (n : Int)) (hk : k.signed = false) : (execOp a.eval ⟨d, .binOp .mul t x y t', ty, pos, aft, g⟩).run P w = .ok (.value (.int k (((m * n) % 2 ^ k.bits : Nat) : Int))) w := by
  have := x_mul (P := P) (w := w) (d := d) (t := t) (t' := t') (ty := ty) (pos := pos) (aft := aft) (g := g) hx hy
  rwa [← Int.natCast_mul, wrap_uN hk] at this
theorem x_quo (hx : a.eval x = .int k z) (hy : a.eval y = .int k z') (h0 : z' ≠ 0) : (execOp a.eval ⟨d, .binOp .quo t x y t', ty, pos, aft, g⟩).run P w = .ok (.value (.int k (k.wrap (z.tdiv z')))) w :=
  x_bin rfl rfl hx hy fun _ => by simp [Op.intDiv, h0]
theorem x_rem (hx : a.eval x = .int k z) (hy : a.eval y = .int k z') (h0 : z' ≠ 0) : (execOp a.eval ⟨d, .binOp .rem t x y t', ty, pos, aft, g⟩).run P w = .ok (.value (.int k (z.tmod z'))) w :=
  x_bin rfl rfl hx hy fun _ => by simp [Op.intDiv, h0]
theorem x_quoN (hx : a.eval x = .int k (m : Int)) (hy : a.eval y = .int k (n : Int)) (h0 : 0 < n) (hm : fitsN k m) : (execOp a.eval ⟨d, .binOp .quo t x y t', ty, pos, aft, g⟩).run P w = .ok (.value (.int k ((m / n : Nat) : Int))) w := by
  have := x_quo (P := P) (w := w) (d := d) (t := t) (t' := t') (ty := ty) (pos := pos) (aft := aft) (g := g) hx hy (by omega)
  rw [Int.tdiv_eq_ediv_of_nonneg (by omega), ← Int.natCast_ediv] at this
  rwa [show k.wrap ((m / n : Nat) : Int) = ((m / n : Nat) : Int) from fits_le hm (Nat.div_le_self _ _)] at this
theorem x_remN (hx : a.eval x = .int k (m : Int)) (hy : a.eval y = .int k (n : Int)) (h0 : 0 < n) : (execOp a.eval ⟨d, .binOp .rem t x y t', ty, pos, aft, g⟩).run P w = .ok (.value (.int k ((m % n : Nat) : Int))) w := by
  have := x_rem (P := P) (w := w) (d := d) (t := t) (t' := t') (ty := ty) (pos := pos) (aft := aft) (g := g) hx hy (by omega)
  rwa [Int.tmod_eq_emod_of_nonneg (by omega), ← Int.natCast_emod] at this
theorem ofInt_nat {k : IntKind} {m : Nat} (hm : fitsN k m) : (BitVec.ofInt k.bits (m : Int)).toNat = m := by
  have h := (fits_iff k m).1 hm
  have hc := cap_le k
  rw [BitVec.toNat_ofInt, ← Int.natCast_emod, Int.toNat_natCast]
  exact Nat.mod_eq_of_lt (by omega)
theorem x_andN (hx : a.eval x = .int k (m : Int)) (hy : a.eval y = .int k (n : Int)) (hm : fitsN k m) (hn : fitsN k n) : (execOp a.eval ⟨d, .binOp .and t x y t', ty, pos, aft, g⟩).run P w = .ok (.value (.int k ((m &&& n : Nat) : Int))) w :=
  x_bin rfl rfl hx hy fun _ => by
    simp only [Op.intBits, BitVec.toNat_and, ofInt_nat hm, ofInt_nat hn]
    rw [show k.wrap ((m &&& n : Nat) : Int) = ((m &&& n : Nat) : Int) from fits_le hm Nat.and_le_left]
    rfl
theorem x_orN (hx : a.eval x = .int k (m : Int)) (hy : a.eval y = .int k (n : Int)) (hm : fitsN k m) (hn : fitsN k n) : (execOp a.eval ⟨d, .binOp .or t x y t', ty, pos, aft, g⟩).run P w = .ok (.value (.int k ((m ||| n : Nat) : Int))) w :=
  x_bin rfl rfl hx hy fun _ => by
    simp only [Op.intBits, BitVec.toNat_or, ofInt_nat hm, ofInt_nat hn]
    have hr : fitsN k (m ||| n) := by
      obtain ⟨b, hb, _⟩ := cap_pow k
      have hm' := (fits_iff k m).1 hm
      have hn' := (fits_iff k n).1 hn
      rw [hb] at hm' hn'
      rw [fits_iff, hb]
      exact Nat.or_lt_two_pow hm' hn'
    rw [show k.wrap ((m ||| n : Nat) : Int) = ((m ||| n : Nat) : Int) from hr]
    rfl
theorem x_shrN (hx : a.eval x = .int k (m : Int)) (hy : a.eval y = .int k' (n : Int)) (hm : fitsN k m) : (execOp a.eval ⟨d, .binOp .shr t x y t', ty, pos, aft, g⟩).run P w = .ok (.value (.int k ((m / 2 ^ n : Nat) : Int))) w := by
  have e : (m : Int).fdiv (2 ^ min n k.bits) = ((m / 2 ^ n : Nat) : Int) := by
    rw [show (2 ^ min n k.bits : Int) = ((2 ^ min n k.bits : Nat) : Int) by push_cast; rfl, Int.fdiv_eq_ediv_of_nonneg _ (Int.natCast_nonneg _), ← Int.natCast_ediv]
    congr 1
    by_cases h : n ≤ k.bits
    · rw [Nat.min_eq_left h]
    · have h1 := (fits_iff k m).1 hm
      have h2 := cap_le k
      have h3 : 2 ^ k.bits ≤ 2 ^ n := Nat.pow_le_pow_right (by omega) (by omega)
      rw [Nat.min_eq_right (by omega), Nat.div_eq_of_lt (by omega), Nat.div_eq_of_lt (by omega)]
  unfold execOp
  simp only [hx, hy, eqGuard, binOp, Op.shift, Sem.run_bind, Sem.run_pure, Result.andThen_ok]
  have h0 : ¬ ((n : Int) < 0) := by omega
  simp [h0, e]
theorem x_shl (hx : a.eval x = .int k z) (hy : a.eval y = .int k' (n : Int)) (hn : n ≤ k.bits) : (execOp a.eval ⟨d, .binOp .shl t x y t', ty, pos, aft, g⟩).run P w = .ok (.value (.int k (k.wrap (z * 2 ^ n)))) w := by
  unfold execOp
  simp only [hx, hy, eqGuard, binOp, Op.shift, Sem.run_bind, Sem.run_pure, Result.andThen_ok]
  have h0 : ¬ ((n : Int) < 0) := by omega
  have h1 : min n k.bits = n := Nat.min_eq_left hn
  simp [h0, h1]
theorem x_shlN (hx : a.eval x = .int k (m : Int)) (hy : a.eval y = .int k' (n : Int)) (hn : n ≤ k.bits) (hr : fitsN k (m * 2 ^ n)) : (execOp a.eval ⟨d, .binOp .shl t x y t', ty, pos, aft, g⟩).run P w = .ok (.value (.int k ((m * 2 ^ n : Nat) : Int))) w := by
  have := x_shl (P := P) (w := w) (d := d) (t := t) (t' := t') (ty := ty) (pos := pos) (aft := aft) (g := g) hx hy hn
  rw [show (m : Int) * 2 ^ n = ((m * 2 ^ n : Nat) : Int) by push_cast; rfl] at this
  rwa [show k.wrap ((m * 2 ^ n : Nat) : Int) = ((m * 2 ^ n : Nat) : Int) from hr] at this
theorem x_shlU (hx : a.eval x = .int k (m : Int)) (hy : a.eval y = .int k' (n : Int)) (hk : k.signed = false) : (execOp a.eval ⟨d, .binOp .shl t x y t', ty, pos, aft, g⟩).run P w = .ok (.value (.int k (((m * 2 ^ n) % 2 ^ k.bits : Nat) : Int))) w := by
  have e : k.wrap ((m : Int) * 2 ^ min n k.bits) = (((m * 2 ^ n) % 2 ^ k.bits : Nat) : Int) := by
    rw [show (m : Int) * 2 ^ min n k.bits = ((m * 2 ^ min n k.bits : Nat) : Int) by push_cast; rfl, wrap_uN hk]
    congr 1
    by_cases h : n ≤ k.bits
    · rw [Nat.min_eq_left h]
    · rw [Nat.min_eq_right (by omega)]
      obtain ⟨q, rfl⟩ : ∃ q, n = k.bits + q := ⟨n - k.bits, by omega⟩
      rw [Nat.pow_add, Nat.mul_mod_left, ← Nat.mul_assoc, Nat.mul_right_comm, Nat.mul_mod_left]
  unfold execOp
  simp only [hx, hy, eqGuard, binOp, Op.shift, Sem.run_bind, Sem.run_pure, Result.andThen_ok]
  have h0 : ¬ ((n : Int) < 0) := by omega
  simp [h0, e]
theorem x_not {b : Bool} (hx : a.eval x = .bool b) : (execOp a.eval ⟨d, .unOp .not t x, ty, pos, aft, g⟩).run P w = .ok (.value (.bool !b)) w := by
  unfold execOp; simp only [hx, Op.unary, Sem.run_bind, Sem.run_pure, Result.andThen_ok]
theorem x_conv {src dst : TypeId} {ds : TypeDesc} (hs : P.underlying src = some ds) (hd : P.underlying dst = some (.int k)) (hx : a.eval x = .int k' z) : (execOp a.eval ⟨d, .convert src dst x, ty, pos, aft, g⟩).run P w = .ok (.value (.int k (k.wrap z))) w := by
  unfold execOp
  simp only [hx, convert, Sem.run_bind, Sem.run_pure, Result.andThen_ok, run_underlying hs, run_underlying hd]
  rfl
theorem x_convN {src dst : TypeId} {ds : TypeDesc} (hs : P.underlying src = some ds) (hd : P.underlying dst = some (.int k)) (hx : a.eval x = .int k' (m : Int)) (hr : fitsN k m) : (execOp a.eval ⟨d, .convert src dst x, ty, pos, aft, g⟩).run P w = .ok (.value (.int k (m : Int))) w := by
  have := x_conv (w := w) (d := d) (ty := ty) (pos := pos) (aft := aft) (g := g) hs hd hx
  rwa [show k.wrap (m : Int) = (m : Int) from hr] at this
theorem x_convU {src dst : TypeId} {ds : TypeDesc} (hs : P.underlying src = some ds) (hd : P.underlying dst = some (.int k)) (hx : a.eval x = .int k' (m : Int)) (hk : k.signed = false) : (execOp a.eval ⟨d, .convert src dst x, ty, pos, aft, g⟩).run P w = .ok (.value (.int k ((m % 2 ^ k.bits : Nat) : Int))) w := by
  have := x_conv (w := w) (d := d) (ty := ty) (pos := pos) (aft := aft) (g := g) hs hd hx
  rwa [wrap_uN hk] at this

/-! ### addresses -/
theorem add_mk (b o n : Nat) : (⟨b, o, none⟩ : Addr).add n = ⟨b, o + n, none⟩ := by
  unfold Addr.add
  split
  · next h => subst h; rfl
  · rfl
theorem x_nil {A : Option Addr} {ad : Addr} (hx : a.eval x = .pointer (some ad)) : (execOp a.eval ⟨d, .nilCheck x, ty, pos, aft, g⟩).run P w = .ok (.value (.pointer (some ad))) w := by
  unfold execOp; simp only [hx]; rfl
theorem x_fa {s : TypeId} {fs : Array Field} {f : Nat} {fd : Field} {sz : Nat} {b o : Nat} (off : Nat) (hs : P.underlying s = some (.struct fs)) (hf : fs[f]? = some fd) (ho : fd.offset = off) (hz : (P.info? fd.type).map (·.size) = some (sz + 1)) (hx : a.eval x = .pointer (some ⟨b, o, none⟩)) :
    (execOp a.eval ⟨d, .fieldAddr s x f, ty, pos, aft, g⟩).run P w = .ok (.value (.pointer (some ⟨b, o + off, none⟩))) w := by
  subst ho
  obtain ⟨ti, hi, hti⟩ : ∃ ti, P.info? fd.type = some ti ∧ ti.size = sz + 1 := by
    cases h : P.info? fd.type with
    | none => rw [h] at hz; cases hz
    | some ti => rw [h] at hz; exact ⟨ti, rfl, by simpa using hz⟩
  unfold execOp
  simp only [hx, Instr.fieldAt, Instr.sureAddr, Sem.run_bind, Sem.run_pure, Result.andThen_ok, run_underlying hs, hf, fieldPlace, sizeOf, typeInfo]
  simp [hi, hti, add_mk]
theorem x_ixs {s e : TypeId} {sz : Nat} {b o n c : Nat} (hs : P.underlying s = some (.slice e)) (hz : (P.info? e).map (·.size) = some sz) (hx : a.eval x = .slice (some ⟨b, o, none⟩) n c) (hy : a.eval y = .int k (j : Int)) (hj : j < n) :
    (execOp a.eval ⟨d, .indexAddr s x y, ty, pos, aft, g⟩).run P w = .ok (.value (.pointer (some ⟨b, o + j * sz, none⟩))) w := by
  obtain ⟨ti, hi, hti⟩ : ∃ ti, P.info? e = some ti ∧ ti.size = sz := by
    cases h : P.info? e with
    | none => rw [h] at hz; cases hz
    | some ti => rw [h] at hz; exact ⟨ti, rfl, by simpa using hz⟩
  unfold execOp
  simp only [hx, hy, Instr.indexAt, asIntOf, Sem.run_bind, Sem.run_pure, Result.andThen_ok, run_underlying hs, sizeOf, typeInfo]
  simp [hi, hti, add_mk, hj]
theorem x_ixs1 {s e : TypeId} {b o n c : Nat} (hs : P.underlying s = some (.slice e)) (hz : (P.info? e).map (·.size) = some 1) (hx : a.eval x = .slice (some ⟨b, o, none⟩) n c) (hy : a.eval y = .int k (j : Int)) (hj : j < n) :
    (execOp a.eval ⟨d, .indexAddr s x y, ty, pos, aft, g⟩).run P w = .ok (.value (.pointer (some ⟨b, o + j, none⟩))) w := by
  have := x_ixs (w := w) (d := d) (ty := ty) (pos := pos) (aft := aft) (g := g) hs hz hx hy hj
  rwa [Nat.mul_one] at this
theorem x_extract {vs : Array Value} {ix : Nat} (hx : a.eval x = .tuple vs) (hv : vs[ix]? = some v) : (execOp a.eval ⟨d, .extract x ix, ty, pos, aft, g⟩).run P w = .ok (.value v) w := by
  unfold execOp; simp only [hx, Instr.extract, hv, Sem.run_bind, Sem.run_pure, Result.andThen_ok]
theorem x_len {s e : TypeId} {A : Option Addr} {n c : Nat} (hs : P.underlying s = some (.slice e)) (hx : a.eval x = .slice A n c) : (execOp a.eval ⟨d, .call { callee := .builtin .len, args := #[x], argTypes := #[s] }, ty, pos, aft, g⟩).run P w = .ok (.value (.int .i64 (n : Int))) w := by
  unfold execOp
  simp [resolve, invoke, builtin, Builtin.len_, hx, run_underlying hs, goInt]
theorem x_max {s s' : TypeId} (hx : a.eval x = .int k (m : Int)) (hy : a.eval y = .int k (n : Int)) : (execOp a.eval ⟨d, .call { callee := .builtin .max, args := #[x, y], argTypes := #[s, s'] }, ty, pos, aft, g⟩).run P w = .ok (.value (.int k ((max m n : Nat) : Int))) w := by
  unfold execOp
  simp [resolve, invoke, builtin, Builtin.max_, Builtin.max2, hx, hy, List.foldlM]
  split <;> omega
theorem x_min {s s' : TypeId} (hx : a.eval x = .int k (m : Int)) (hy : a.eval y = .int k (n : Int)) : (execOp a.eval ⟨d, .call { callee := .builtin .min, args := #[x, y], argTypes := #[s, s'] }, ty, pos, aft, g⟩).run P w = .ok (.value (.int k ((min m n : Nat) : Int))) w := by
  unfold execOp
  simp [resolve, invoke, builtin, Builtin.min_, Builtin.min2, hx, hy, List.foldlM]
  split <;> omega

/-! ### loads -/
theorem x_load {ty' : TypeId} {ds : TypeDesc} {b o : Nat} (hu : P.underlying ty' = some ds) (hd : ds.isRow = false) (hx : a.eval x = .pointer (some ⟨b, o, none⟩)) (hc : w.cell? ⟨b, o, none⟩ = some v) :
    (execOp a.eval ⟨d, .load ty' x, ty, pos, aft, g⟩).run P w = .ok (.value v) w := by
  unfold execOp
  simp only [hx, Instr.loadAt, Instr.sureAddr, Sem.run_bind, Sem.run_pure, Result.andThen_ok, loadVar, isAgg, run_underlying hu]
  have hr : (load ⟨b, o, none⟩).run P w = .ok v w := by simp [load, Sem.run, hc]
  cases ds <;> simp_all [TypeDesc.isRow]
theorem x_loadA {ty' : TypeId} {ds : TypeDesc} {b o : Nat} {cs : List Value} (hu : P.underlying ty' = some ds) (hd : ds.isRow = true) (hz : (P.info? ty').map (·.size) = some cs.length) (hx : a.eval x = .pointer (some ⟨b, o, none⟩)) (hc : w.rangeAt b o cs) :
    (execOp a.eval ⟨d, .load ty' x, ty, pos, aft, g⟩).run P w = .ok (.value (.agg cs.toArray)) w := by
  unfold execOp
  simp only [hx, Instr.loadAt, Instr.sureAddr, Sem.run_bind, Sem.run_pure, Result.andThen_ok, run_loadVar_mid (P := P) w b o ty' cs ds hc hu hd hz]
end
end Go.Proofs.Ytcobjneobdihkaa
/- The engine's third part: memory as one list of entries; what an operation makes of it. Any program. -/
namespace Go.Proofs.Ytcobjneobdihkaa
open Go.RowKit

/-- All blocks but those of F are as they were. -/
structure Kp (F : List Nat) (w w' : World) : Prop where
  os : w'.os = w.os
  tape : w'.tape = w.tape
  output : w'.output = w.output
  size : w.heap.size ≤ w'.heap.size
  block : ∀ k, k < w.heap.size → k ∉ F → w'.heap[k]? = w.heap[k]?
theorem Kp.refl (F : List Nat) (w : World) : Kp F w w := ⟨rfl, rfl, rfl, Nat.le_refl _, fun _ _ _ => rfl⟩
theorem Kp.trans {F : List Nat} {a b c : World} (h : Kp F a b) (k : Kp F b c) : Kp F a c :=
  ⟨k.os.trans h.os, k.tape.trans h.tape, k.output.trans h.output, Nat.le_trans h.size k.size, fun i hi hn => (k.block i (Nat.lt_of_lt_of_le hi h.size) hn).trans (h.block i hi hn)⟩
theorem Kp.mono {F G : List Nat} {a b : World} (h : Kp F a b) (hs : ∀ g ∈ F, g ∈ G ∨ a.heap.size ≤ g) : Kp G a b :=
  ⟨h.os, h.tape, h.output, h.size, fun i hi hn => h.block i hi fun hf => by rcases hs i hf with h1 | h1; exact hn h1; omega⟩
theorem Kp.of_below {w w' : World} (h : Below w.heap.size w w') : Kp [] w w' := ⟨h.os, h.tape, h.output, h.size, fun k hk _ => h.block k hk⟩
theorem Kp.below {w w' : World} (h : Kp [] w w') : Below w.heap.size w w' := ⟨h.os, h.tape, h.output, h.size, fun k hk => h.block k hk (by simp)⟩
theorem Kp.of_grown {w w' : World} {row : Option Nat} (h : w.grownBy w' row) : Kp row.toList w w' :=
  ⟨h.os, h.tape, h.output, h.size, fun k hk hn => h.block k hk (fun e => hn (by rw [← e]; simp))⟩
theorem Kp.alloc (w : World) (o : Obj) : Kp [] w (w.alloc o) := Kp.of_below ((Below.refl _ _).alloc (Nat.le_refl _) o)
theorem Kp.setCell (w : World) (a : Addr) (v : Value) : Kp [a.block] w (w.setCell a v) :=
  ⟨rfl, rfl, rfl, by simp [World.setCell], fun k _ hn => Below.heap_setCell _ _ _ _ (by simpa using hn)⟩
theorem Kp.setRow (w : World) (g : Nat) (cs : Array Value) : Kp [g] w (w.setRow g cs) :=
  ⟨rfl, rfl, rfl, by simp, fun k _ hn => setRow_other w g k cs (by simpa using hn)⟩

inductive Ent where
  | blk (g : Nat) (t : TypeId) (l : List Value)
  | row (v : Value) (e : TypeId) (size n : Nat) (xs : List Value)
  | vw (A : Option Addr) (xs : List Value)
  | obj (g : Nat) (o : Obj)
instance : Inhabited Ent := ⟨.vw none []⟩
def Ent.ro : Ent → Bool | .vw _ _ => true | _ => false
def Ent.blk? : Ent → Option Nat
  | .blk g _ _ => some g
  | .row v _ _ _ _ => v.ownBlock
  | .vw A xs => match xs with | [] => none | _ => A.map (·.block)
  | .obj g _ => some g
def Ent.ok (w : World) : Ent → Prop
  | .blk g t l => Arr w g t l
  | .row v e size n xs => w.ownsRow 0 e size v n xs
  | .vw A xs => View w w.heap.size A xs
  | .obj g o => w.heap[g]? = some o
def Ent.apart (a b : Ent) : Prop := (a.ro && b.ro) = true ∨ a.blk? = none ∨ b.blk? = none ∨ a.blk? ≠ b.blk?
theorem Ent.apart_symm {a b : Ent} (h : a.apart b) : b.apart a := by
  rcases h with h | h | h | h
  · exact .inl (by rw [Bool.and_comm]; exact h)
  · exact .inr (.inr (.inl h))
  · exact .inr (.inl h)
  · exact .inr (.inr (.inr fun e => h e.symm))
theorem Ent.ok_lt {w : World} {e : Ent} (h : e.ok w) {g : Nat} (hg : e.blk? = some g) : g < w.heap.size := by
  cases e with
  | blk b t l => injection hg with hg; subst hg; exact Arr.lt h
  | row v e size n xs => exact (World.ownsRow.lt h g hg).2
  | vw A xs =>
    cases xs with
    | nil => cases hg
    | cons x xs =>
      obtain ⟨b, o, rfl, hb, _⟩ := h (by simp)
      injection hg with hg
      subst hg
      exact hb
  | obj b o => injection hg with hg; subst hg; exact (Array.getElem?_eq_some_iff.1 h).1
theorem Ent.ok_keep {w w' : World} {e : Ent} (h : e.ok w) (hs : w.heap.size ≤ w'.heap.size) (hb : ∀ g, e.blk? = some g → w'.heap[g]? = w.heap[g]?) : e.ok w' := by
  cases e with
  | blk b t l => exact (hb b rfl).trans h
  | row v e size n xs =>
    refine ⟨h.1, ?_⟩
    rcases h.2 with h0 | ⟨g, cap, cur, rfl, h1, h2, h3⟩
    · exact .inl h0
    · exact .inr ⟨g, cap, cur, rfl, h1, (hb g rfl).trans h2, h3⟩
  | vw A xs =>
    intro hn
    obtain ⟨b, o, rfl, hlt, hc⟩ := h hn
    refine ⟨b, o, rfl, by omega, fun j u hu => ?_⟩
    rw [World.cell?_of_block (w := w) (w' := w') (hb b (by cases xs with | nil => exact absurd rfl hn | cons => rfl))]
    exact hc j u hu
  | obj b o => exact (hb b rfl).trans h

structure St (F : List Nat) (w0 : World) (M : List Ent) (w : World) : Prop where
  kp : Kp F w0 w
  ok : ∀ e ∈ M, e.ok w
  ap : ∀ (i j : Nat) (a b : Ent), i ≠ j → M[i]? = some a → M[j]? = some b → a.apart b
  own : ∀ e ∈ M, e.ro = false → ∀ g, e.blk? = some g → g ∈ F ∨ w0.heap.size ≤ g

section
variable {F G : List Nat} {w0 w w' : World} {M : List Ent} {e e' : Ent} {i : Nat}
theorem St.nil_ (w : World) : St [] w [] w := ⟨Kp.refl _ _, by simp, by simp, by simp⟩
theorem mem_of_get (h : M[i]? = some e) : e ∈ M := List.mem_of_getElem? h
theorem Kp.step {a b c : World} (h : Kp F a b) (k : Kp G b c) (hG : ∀ g ∈ G, g ∈ F ∨ a.heap.size ≤ g) : Kp F a c :=
  ⟨k.os.trans h.os, k.tape.trans h.tape, k.output.trans h.output, Nat.le_trans h.size k.size, fun i hi hn => (k.block i (Nat.lt_of_lt_of_le hi h.size) fun hg => by
      rcases hG i hg with h1 | h1
      · exact hn h1
      · omega).trans (h.block i hi hn)⟩
/-- Blocks of G have turned; no entry lies there. -/
theorem St.keep (h : St F w0 M w) (hk : Kp G w w') (hd : ∀ e ∈ M, ∀ g, e.blk? = some g → g ∉ G) (hG : ∀ g ∈ G, g ∈ F ∨ w0.heap.size ≤ g) : St F w0 M w' :=
  ⟨h.kp.step hk hG, fun e he => Ent.ok_keep (h.ok e he) hk.size fun g hg => hk.block g (Ent.ok_lt (h.ok e he) hg) (hd e he g hg), h.ap, h.own⟩
theorem St.kept (h : St F w0 M w) (hk : Kp [] w w') : St F w0 M w' := h.keep hk (by simp) (by simp)
theorem St.below (h : St F w0 M w) (hb : Below w.heap.size w w') : St F w0 M w' := h.kept (Kp.of_below hb)
theorem St.drew (h : St F w0 M w) : St F w0 M w.drew := h.below (Below.refl _ _).drew
/-- A new entry: nothing old has turned. -/
def New (w w' : World) (e : Ent) : Prop := e.ok w' ∧ e.ro = false ∧ ∀ g, e.blk? = some g → w.heap.size ≤ g
theorem St.cons (h : St F w0 M w) (hok : e.ok w) (hro : e.ro = false) (hown : ∀ g, e.blk? = some g → g ∈ F ∨ w0.heap.size ≤ g) (hap : ∀ e' ∈ M, e.apart e') : St F w0 (e :: M) w := by
  refine ⟨h.kp, fun x hx => ?_, fun i j a b hij ha hb => ?_, fun x hx => ?_⟩
  · rcases List.mem_cons.1 hx with rfl | hx
    · exact hok
    · exact h.ok x hx
  · cases i with
    | zero =>
      rw [List.getElem?_cons_zero] at ha; injection ha with ha; subst ha
      cases j with
      | zero => exact absurd rfl hij
      | succ j => rw [List.getElem?_cons_succ] at hb; exact hap b (mem_of_get hb)
    | succ i =>
      rw [List.getElem?_cons_succ] at ha
      cases j with
      | zero => rw [List.getElem?_cons_zero] at hb; injection hb with hb; subst hb; exact Ent.apart_symm (hap a (mem_of_get ha))
      | succ j => rw [List.getElem?_cons_succ] at hb; exact h.ap i j a b (by omega) ha hb
  · rcases List.mem_cons.1 hx with rfl | hx
    · exact fun _ => hown
    · exact h.own x hx
theorem St.add (h : St F w0 M w) (hk : Kp [] w w') (hn : New w w' e) : St F w0 (e :: M) w' := by
  refine (h.kept hk).cons hn.1 hn.2.1 (fun g hg => .inr (Nat.le_trans h.kp.size (hn.2.2 g hg))) fun e' he' => ?_
  cases hb : e.blk? with
  | none => exact .inr (.inl hb)
  | some g =>
    cases hb' : e'.blk? with
    | none => exact .inr (.inr (.inl hb'))
    | some g' =>
      refine .inr (.inr (.inr ?_))
      rw [hb, hb']
      have h1 := hn.2.2 g hb
      have h2 := Ent.ok_lt (h.ok e' he') hb'
      intro he; injection he; omega
/-- A read-only entry beside it: it lies in none of the call's own. -/
theorem St.addv (h : St F w0 M w) {A : Option Addr} {xs : List Value} (hv : View w w.heap.size A xs) (hap : ∀ e' ∈ M, (Ent.vw A xs).apart e') : St F w0 (.vw A xs :: M) w := by
  refine ⟨h.kp, fun x hx => ?_, fun i j a b hij ha hb => ?_, fun x hx => ?_⟩
  · rcases List.mem_cons.1 hx with rfl | hx
    · exact hv
    · exact h.ok x hx
  · cases i with
    | zero =>
      rw [List.getElem?_cons_zero] at ha; injection ha with ha; subst ha
      cases j with
      | zero => exact absurd rfl hij
      | succ j => rw [List.getElem?_cons_succ] at hb; exact hap b (mem_of_get hb)
    | succ i =>
      rw [List.getElem?_cons_succ] at ha
      cases j with
      | zero => rw [List.getElem?_cons_zero] at hb; injection hb with hb; subst hb; exact Ent.apart_symm (hap a (mem_of_get ha))
      | succ j => rw [List.getElem?_cons_succ] at hb; exact h.ap i j a b (by omega) ha hb
  · rcases List.mem_cons.1 hx with rfl | hx
    · intro h0; cases h0
    · exact h.own x hx
theorem St.sv (w : World) : St [] w [] w := St.nil_ w
theorem St.vcons (h : St [] w M w) (hro : M.all (·.ro) = true) {A : Option Addr} {xs : List Value} (hv : View w w.heap.size A xs) : St [] w (.vw A xs :: M) w :=
  h.addv hv fun e' he' => .inl (by rw [List.all_eq_true.1 hro e' he']; rfl)
/-- The entries in another order, or fewer. -/
def nodupB : List Nat → Bool | [] => true | x :: l => !l.elem x && nodupB l
theorem nodupB_ne {l : List Nat} (h : nodupB l = true) : ∀ (i j x y : Nat), i ≠ j → l[i]? = some x → l[j]? = some y → x ≠ y := by
  induction l with
  | nil => intro i j x y _ hx; simp at hx
  | cons a l ih =>
    simp only [nodupB, Bool.and_eq_true, Bool.not_eq_true'] at h
    intro i j x y hij hx hy
    cases i with
    | zero =>
      cases j with
      | zero => exact absurd rfl hij
      | succ j =>
        rw [List.getElem?_cons_zero] at hx; rw [List.getElem?_cons_succ] at hy
        injection hx with hx; subst hx
        rintro rfl
        have := List.elem_eq_true_of_mem (List.mem_of_getElem? hy)
        rw [h.1] at this; cases this
    | succ i =>
      rw [List.getElem?_cons_succ] at hx
      cases j with
      | zero =>
        rw [List.getElem?_cons_zero] at hy
        injection hy with hy; subst hy
        rintro rfl
        have := List.elem_eq_true_of_mem (List.mem_of_getElem? hx)
        rw [h.1] at this; cases this
      | succ j => rw [List.getElem?_cons_succ] at hy; exact ih h.2 i j x y (by omega) hx hy
def picks (M : List Ent) : List Nat → List Ent | [] => [] | i :: l => M.getD i default :: picks M l
theorem picks_get (M : List Ent) (l : List Nat) (hl : l.all (fun i => Nat.blt i M.length) = true) : ∀ (p : Nat) (e : Ent), (picks M l)[p]? = some e → ∃ i, l[p]? = some i ∧ M[i]? = some e := by
  induction l with
  | nil => intro p e h; simp [picks] at h
  | cons a l ih =>
    intro p e h
    simp only [List.all_cons, Bool.and_eq_true] at hl
    cases p with
    | zero =>
      simp only [picks, List.getElem?_cons_zero] at h
      injection h with h
      have ha : a < M.length := by simpa [Nat.blt_eq] using hl.1
      refine ⟨a, rfl, ?_⟩
      rw [← h, List.getD_eq_getElem?_getD, List.getElem?_eq_getElem ha]; rfl
    | succ p =>
      simp only [picks, List.getElem?_cons_succ] at h
      exact ih hl.2 p e h
theorem St.pick (h : St F w0 M w) (l : List Nat) (hl : l.all (fun i => Nat.blt i M.length) = true) (hn : nodupB l = true) : St F w0 (picks M l) w := by
  refine ⟨h.kp, fun e he => ?_, fun i j a b hij ha hb => ?_, fun e he => ?_⟩
  · obtain ⟨p, hp⟩ := List.getElem?_of_mem he
    obtain ⟨i, _, hi⟩ := picks_get M l hl p e hp
    exact h.ok e (mem_of_get hi)
  · obtain ⟨p, hp, hp'⟩ := picks_get M l hl i a ha
    obtain ⟨q, hq, hq'⟩ := picks_get M l hl j b hb
    exact h.ap p q a b (nodupB_ne hn i j p q hij hp hq) hp' hq'
  · obtain ⟨p, hp⟩ := List.getElem?_of_mem he
    obtain ⟨i, _, hi⟩ := picks_get M l hl p e hp
    exact h.own e (mem_of_get hi)
/-- Entry i turns into another, in its block or in a new one. -/
theorem St.set_ (h : St F w0 M w) (hM : M[i]? = some e) (hro : e.ro = false) (hk : Kp e.blk?.toList w w') (hok : e'.ok w') (hro' : e'.ro = false) (hb : ∀ g, e'.blk? = some g → e.blk? = some g ∨ w.heap.size ≤ g) : St F w0 (M.set i e') w' := by
  have hG : ∀ g ∈ e.blk?.toList, g ∈ F ∨ w0.heap.size ≤ g := fun g hg => h.own e (mem_of_get hM) hro g (by simpa using hg)
  have hap : ∀ (j : Nat) (b : Ent), j ≠ i → M[j]? = some b → ∀ g, b.blk? = some g → e.blk? ≠ some g := by
    intro j b hj hb g hg he
    rcases h.ap i j e b (by omega) hM hb with h1 | h1 | h1 | h1
    · rw [hro] at h1; simp at h1
    · rw [h1] at he; cases he
    · rw [h1] at hg; cases hg
    · rw [he, hg] at h1; exact h1 rfl
  have hget : ∀ (j : Nat) (b : Ent), (M.set i e')[j]? = some b → (j = i ∧ b = e') ∨ (j ≠ i ∧ M[j]? = some b) := by
    intro j b hj
    rw [List.getElem?_set] at hj
    split at hj
    · next hij => split at hj
                  · injection hj with hj; exact .inl ⟨hij.symm, hj.symm⟩
                  · cases hj
    · next hij => exact .inr ⟨fun e => hij e.symm, hj⟩
  have hokM : ∀ (j : Nat) (b : Ent), j ≠ i → M[j]? = some b → b.ok w' := fun j b hj hb =>
    Ent.ok_keep (h.ok b (mem_of_get hb)) hk.size fun g hg => hk.block g (Ent.ok_lt (h.ok b (mem_of_get hb)) hg) (by simpa using hap j b hj hb g hg)
  have hapM : ∀ (j : Nat) (b : Ent), j ≠ i → M[j]? = some b → e'.apart b := by
    intro j b hj hb'
    cases hx : e'.blk? with
    | none => exact .inr (.inl hx)
    | some g =>
      cases hy : b.blk? with
      | none => exact .inr (.inr (.inl hy))
      | some g' =>
        refine .inr (.inr (.inr ?_))
        rw [hx, hy]
        intro he; injection he with he; subst he
        rcases hb g hx with h1 | h1
        · exact hap j b hj hb' g hy h1
        · have := Ent.ok_lt (h.ok b (mem_of_get hb')) hy; omega
  refine ⟨h.kp.step hk hG, fun x hx => ?_, fun p q a b hpq ha hb' => ?_, fun x hx => ?_⟩
  · obtain ⟨j, hj⟩ := List.getElem?_of_mem hx
    rcases hget j x hj with ⟨_, rfl⟩ | ⟨h1, h2⟩
    · exact hok
    · exact hokM j x h1 h2
  · rcases hget p a ha with ⟨hp, rfl⟩ | ⟨hp, hp'⟩
    · rcases hget q b hb' with ⟨hq, rfl⟩ | ⟨hq, hq'⟩
      · omega
      · exact hapM q b hq hq'
    · rcases hget q b hb' with ⟨hq, rfl⟩ | ⟨hq, hq'⟩
      · exact Ent.apart_symm (hapM p a hp hp')
      · exact h.ap p q a b hpq hp' hq'
  · obtain ⟨j, hj⟩ := List.getElem?_of_mem hx
    rcases hget j x hj with ⟨_, rfl⟩ | ⟨h1, h2⟩
    · intro _ g hg
      rcases hb g hg with h3 | h3
      · exact h.own e (mem_of_get hM) hro g h3
      · exact .inr (Nat.le_trans h.kp.size h3)
    · exact h.own x (mem_of_get h2)

/-! ### what the entries say -/
theorem oks_drop {M M0 : List Ent} (h : St F w0 M w) (k : Nat) (e : M.drop k = M0) : ∀ x ∈ M0, x.ok w := fun x hx => h.ok x (List.mem_of_mem_drop (by rw [e]; exact hx))
theorem cellB (hok : ∀ x ∈ M, x.ok w) {g o : Nat} {t : TypeId} {l : List Value} {v : Value} (i : Nat) (hM : M[i]? = some (.blk g t l)) (hv : l[o]? = some v) : w.cell? ⟨g, o, none⟩ = some v :=
  (Arr.cell (hok _ (mem_of_get hM)) o).trans hv
theorem rangeB (hok : ∀ x ∈ M, x.ok w) {g o : Nat} {t : TypeId} {l cs : List Value} (i : Nat) (hM : M[i]? = some (.blk g t l)) (hv : (l.drop o).take cs.length = cs) : w.rangeAt g o cs := by
  intro j v hj
  refine cellB hok i hM ?_
  have hl : j < cs.length := by
    rcases Nat.lt_or_ge j cs.length with h1 | h1
    · exact h1
    · rw [List.getElem?_eq_none h1] at hj; cases hj
  rw [← hv, List.getElem?_take, if_pos hl, List.getElem?_drop] at hj
  exact hj
theorem cellV (hok : ∀ x ∈ M, x.ok w) {b p j : Nat} {xs : List Value} {v : Value} (i : Nat) (hM : M[i]? = some (.vw (some ⟨b, p, none⟩) xs)) (hv : xs[j]? = some v) : w.cell? ⟨b, p + j, none⟩ = some v := by
  have h : View w w.heap.size (some ⟨b, p, none⟩) xs := hok _ (mem_of_get hM)
  obtain ⟨b', o', e, _, hc⟩ := h (by intro e; rw [e] at hv; simp at hv)
  injection e with e
  injection e with e1 e2
  subst e1; subst e2
  exact hc j v hv
theorem viewB (hok : ∀ x ∈ M, x.ok w) {g : Nat} {t : TypeId} {l : List Value} (i : Nat) (hM : M[i]? = some (.blk g t l)) : View w w.heap.size (some ⟨g, 0, none⟩) l :=
  Arr.view (hok _ (mem_of_get hM)) (Arr.lt (hok _ (mem_of_get hM)))
theorem viewV (hok : ∀ x ∈ M, x.ok w) {A : Option Addr} {xs : List Value} (i : Nat) (hM : M[i]? = some (.vw A xs)) : View w w.heap.size A xs := hok _ (mem_of_get hM)
theorem viewR (hok : ∀ x ∈ M, x.ok w) {A : Option Addr} {n c sz m : Nat} {t : TypeId} {xs : List Value} (i : Nat) (hM : M[i]? = some (.row (.slice A n c) t sz m xs)) : View w w.heap.size A xs := by
  have h : w.ownsRow 0 t sz (.slice A n c) m xs := hok _ (mem_of_get hM)
  intro hn
  rcases h.2 with ⟨e0, h0⟩ | ⟨g, cap, cur, e0, _, hg, _⟩
  · have := h.1
    rw [h0, Nat.zero_mul] at this
    exact absurd (List.eq_nil_of_length_eq_zero this) hn
  · injection e0 with e1
    subst e1
    exact ⟨g, 0, rfl, (Array.getElem?_eq_some_iff.1 hg).1, fun j u hu => by have := h.cells (g := g) rfl j u hu; rwa [add_mk] at this⟩

/-- One operation; nothing unfolds it. -/
inductive OW (P : Program) (o : Oper) (a : Act) (w : World) (K : Act → World → Prop) (Q : Exit → Act → World → Prop) : Prop
  | mk (h : o.wp P a w K Q)
theorem OW.out {P : Program} {o : Oper} {a : Act} {w : World} {K : Act → World → Prop} {Q : Exit → Act → World → Prop} (h : OW P o a w K Q) : o.wp P a w K Q := h.1
/-- A list of operations; nothing unfolds it. -/
inductive WL (P : Program) (ops : Array Oper) (Q : Exit → Act → World → Prop) (l : List Oper) (a : Act) (w : World) : Prop
  | mk (h : wpList P ops Q l a w)
theorem WL.out {P : Program} {ops : Array Oper} {Q : Exit → Act → World → Prop} {l : List Oper} {a : Act} {w : World} (h : WL P ops Q l a w) : wpList P ops Q l a w := h.1
/-! ### operations that do something -/
variable {P : Program} {a : Act} {x y : Operand} {d : Nat} {t t' ty : TypeId} {pos : String} {aft : Array Edge} {gd : Option (Nat × Bool)} {v : Value} {n : Nat} {f : Nat → Value} {K : Act → World → Prop} {Q : Exit → Act → World → Prop}

theorem info_of {o : Option TypeInfo} {z : Value} {sz bt : Nat} (h : o.map (fun i => (i.zero, i.size, i.bytes)) = some (some z, sz, bt)) : ∃ i, o = some i ∧ i.zero = some z ∧ i.size = sz ∧ i.bytes = bt := by
  cases o with
  | none => cases h
  | some i => injection h with h; injection h with h1 h; injection h with h2 h3; exact ⟨i, rfl, h1, h2, h3⟩
theorem ow_alloc (h : St F w0 M w) {e : TypeId} {z : Value} {sz bt : Nat} {l : List Value} (hz : (P.info? e).map (fun i => (i.zero, i.size, i.bytes)) = some (some z, sz, bt)) (hl : z.cells = l.toArray)
    (hK : ∀ g w', w.heap.size ≤ g → St F w0 (.blk g e l :: M) w' → K (act n (upd f d (.pointer (some ⟨g, 0, none⟩)))) w') : OW P ⟨some d, .alloc e, ty, pos, aft, gd⟩ (act n f) w K Q := by
  refine ⟨?_⟩
  obtain ⟨i, hi, hz, -, -⟩ := info_of hz
  unfold Oper.wp execOp
  simp only [Instr.alloc, Sem.run_bind, zeroValue, typeInfo, newVar, newRow]
  simp [hi, hz, hl, Oper.upon, act_put]
  refine hK w.heap.size _ (Nat.le_refl _) (h.add (Kp.alloc w (.cells l.toArray e)) ⟨Arr.new w e l, rfl, fun g hg => ?_⟩)
  injection hg with hg
  omega
theorem ow_box (h : St F w0 M w) {e : TypeId} {l : List Value} (hx : (act n f).eval x = v) (hl : v.cells = l.toArray)
    (hK : ∀ g w', w.heap.size ≤ g → St F w0 (.blk g e l :: M) w' → K (act n (upd f d (.pointer (some ⟨g, 0, none⟩)))) w') : OW P ⟨some d, .box e x, ty, pos, aft, gd⟩ (act n f) w K Q := by
  refine ⟨?_⟩
  unfold Oper.wp execOp
  simp only [Instr.box, Sem.run_bind, newVar, newRow, hx]
  simp [hl, Oper.upon, act_put]
  refine hK w.heap.size _ (Nat.le_refl _) (h.add (Kp.alloc w (.cells l.toArray e)) ⟨Arr.new w e l, rfl, fun g hg => ?_⟩)
  injection hg with hg
  omega
theorem oneC {v : Value} (h : v.oneCell' = true) : v.cells = #[v] := by cases v <;> first | rfl | cases h
theorem run_store1 {g o : Nat} {ty' : TypeId} {u : Value} (hz : (P.info? ty').map (·.size) = some 1) (h1 : v.oneCell' = true) (hc : w.cell? ⟨g, o, none⟩ = some u) (hf : w.frozen? ⟨g, o, none⟩ = false) :
    (Instr.storeAt ty' (.pointer (some ⟨g, o, none⟩)) v).run P w = .ok () (w.setCell ⟨g, o, none⟩ v) := by
  obtain ⟨ti, hi, hti⟩ : ∃ ti, P.info? ty' = some ti ∧ ti.size = 1 := by
    cases h : P.info? ty' with
    | none => rw [h] at hz; cases hz
    | some ti => rw [h] at hz; exact ⟨ti, rfl, by simpa using hz⟩
  have hs : (store (⟨g, o, none⟩ : Addr) v).run P w = .ok () (w.setCell ⟨g, o, none⟩ v) := by
    rw [run_store P w ⟨g, o, none⟩ v .plain h1, hc]
    simp [hf]
  simp only [Instr.storeAt, Instr.sureAddr, Sem.run_bind, Sem.run_pure, Result.andThen_ok, storeVar, sizeOf, typeInfo, oneC h1]
  simp [hi, hti, storeCells, hs, Addr.add]
theorem ow_storeX (h : St F w0 M w) (i : Nat) {g o : Nat} {t : TypeId} {l : List Value} {ty' : TypeId} (hM : M[i]? = some (.blk g t l)) (hz : (P.info? ty').map (·.size) = some 1) (hx : (act n f).eval x = .pointer (some ⟨g, o, none⟩)) (hy : (act n f).eval y = v) (h1 : v.oneCell' = true) (ho : o < l.length)
    (hK : ∀ w', St F w0 (M.set i (.blk g t (l.set o v))) w' → K (act n f) w') : OW P ⟨none, .store ty' x y, ty, pos, aft, gd⟩ (act n f) w K Q := by
  refine ⟨?_⟩
  have hA : Arr w g t l := h.ok _ (mem_of_get hM)
  have hr := run_store1 (P := P) (w := w) hz h1 ((hA.cell o).trans (List.getElem?_eq_getElem ho)) (hA.frozen o)
  unfold Oper.wp execOp
  simp only [hx, hy, Sem.run_bind, hr, Result.andThen_ok, Sem.run_pure, Oper.upon]
  exact hK _ (h.set_ hM rfl (Kp.setCell w ⟨g, o, none⟩ v) (hA.set_ o v) rfl fun g' hg => .inl hg)
theorem ow_store (h : St F w0 M w) (i : Nat) {g o : Nat} {t : TypeId} {l : List Value} {ty' : TypeId} (hM : M[i]? = some (.blk g t l)) (hz : (P.info? ty').map (·.size) = some 1) (hx : (act n f).eval x = .pointer (some ⟨g, o, none⟩)) (hy : (act n f).eval y = v) (h1 : v.oneCell' = true) (ho : Nat.blt o l.length = true)
    (hK : ∀ w', St F w0 (M.set i (.blk g t (l.set o v))) w' → K (act n f) w') : OW P ⟨none, .store ty' x y, ty, pos, aft, gd⟩ (act n f) w K Q :=
  ow_storeX h i hM hz hx hy h1 (by simpa [Nat.blt_eq] using ho) hK
theorem ow_storeR (h : St F w0 M w) (i : Nat) {g o m c sz : Nat} {t : TypeId} {xs : List Value} {ty' : TypeId} (hM : M[i]? = some (.row (.slice (some ⟨g, 0, none⟩) m c) t sz m xs)) (hz : (P.info? ty').map (·.size) = some 1) (hx : (act n f).eval x = .pointer (some ⟨g, 0 + o, none⟩)) (hy : (act n f).eval y = v) (h1 : v.oneCell' = true) (ho : o < xs.length)
    (hK : ∀ w', St F w0 (M.set i (.row (.slice (some ⟨g, 0, none⟩) m c) t sz m (xs.set o v))) w' → K (act n f) w') : OW P ⟨none, .store ty' x y, ty, pos, aft, gd⟩ (act n f) w K Q := by
  refine ⟨?_⟩
  have hA : w.ownsRow 0 t sz (.slice (some ⟨g, 0, none⟩) m c) m xs := h.ok _ (mem_of_get hM)
  rw [Nat.zero_add] at hx
  obtain ⟨hl, ⟨h0, _⟩ | ⟨g', cap, cur, e0, hb, hg, hnc, hcm, hcs, htk⟩⟩ := hA
  · cases h0
  · injection e0 with e1 e2 e3
    injection e1 with e1
    injection e1 with e1
    subst e1; subst e3
    have hcl : o < cur.size := by
      rw [← htk] at ho
      simp at ho
      omega
    have hc : w.cell? ⟨g, o, none⟩ = some cur[o] := by rw [cell_of_row w g o cur t (0, 0) hg]; simp [hcl]
    have hfz := frozen_of_row w g o cur t hg
    have hr := run_store1 (P := P) (w := w) hz h1 hc hfz
    unfold Oper.wp execOp
    simp only [hx, hy, Sem.run_bind, hr, Result.andThen_ok, Sem.run_pure, Oper.upon]
    refine hK _ (h.set_ hM rfl (Kp.setCell w ⟨g, o, none⟩ v) ?_ rfl fun g' hg => .inl hg)
    refine ⟨by simpa using hl, .inr ⟨g, c, cur.setIfInBounds o v, rfl, Nat.zero_le _, ?_, hnc, hcm, by simpa using hcs, ?_⟩⟩
    · simp [World.setCell, Array.getElem?_modify, hg]
    · rw [Array.toList_setIfInBounds, List.take_set, htk]
end

/-! ### the walk's rules -/
section
variable {P : Program} {ops : Array Oper} {rest : List Oper} {Q : Exit → Act → World → Prop} {n d : Nat} {f : Nat → Value} {w : World} {op : Op} {ty : TypeId} {pos : String} {aft : Array Edge} {gd : Option (Nat × Bool)} {v : Value} {M0 : List Ent}
theorem wlit {id : Nat} {l : List Oper} (h : WL P l.toArray Q l (act n f) w) : (Code.region id l.toArray false).wp P Q (act n f) w := wp_region_lit h.out
theorem wl_nil (h : Q .normal (act n f) w) : WL P ops Q [] (act n f) w := ⟨h⟩
theorem wl_v (hr : (execOp (act n f).eval ⟨some d, op, ty, pos, aft, none⟩).run P w = .ok (.value v) w) (h : WL P ops Q rest (act n (upd f d v)) w) : WL P ops Q (⟨some d, op, ty, pos, aft, none⟩ :: rest) (act n f) w := by
  refine ⟨wpList_plain rfl fun K hK => ?_⟩
  unfold Oper.wp
  rw [hr]
  show K ((act n f).put (some d) v) w
  rw [act_put]
  exact hK _ _ h.out
theorem wl_e {o : Oper} (hg : o.guard = none) (h : ∀ K : Act → World → Prop, (∀ a w, WL P ops Q rest a w → K a w) → OW P o (act n f) w K Q) : WL P ops Q (o :: rest) (act n f) w := ⟨wpList_plain hg fun K hK => (h K fun a w h => hK a w h.out).out⟩
theorem yielded_act {j dj : Nat} {oj : Oper} {b : Bool} (hj : ops[j]? = some oj) (hd : oj.dst = some dj) (hn : Nat.blt dj n = true) (hv : f dj = .bool b) : yielded ops (act n f).tmps j = some b := by
  have hlt : dj < n := by simpa [Nat.blt_eq] using hn
  unfold yielded
  simp only [hj, Option.bind_some, hd]
  have : (act n f).tmps[dj]? = some (.bool b) := by
    unfold act
    simp [hlt, hv]
  rw [this]
theorem want_y {j dj : Nat} {oj : Oper} {b c : Bool} {dst : Option Tmp} (hj : ops[j]? = some oj) (hd : oj.dst = some dj) (hn : Nat.blt dj n = true) (hv : f dj = .bool b) (hb : (b == c) = true) : Region.wanted ⟨dst, op, ty, pos, aft, some (j, c)⟩ (yielded ops (act n f).tmps) = true := by
  unfold Region.wanted
  simp only [yielded_act hj hd hn hv]
  have : b = c := by simpa using hb
  subst this; simp
theorem want_n {j dj : Nat} {oj : Oper} {b c : Bool} {dst : Option Tmp} (hj : ops[j]? = some oj) (hd : oj.dst = some dj) (hn : Nat.blt dj n = true) (hv : f dj = .bool b) (hb : (b == c) = false) : Region.wanted ⟨dst, op, ty, pos, aft, some (j, c)⟩ (yielded ops (act n f).tmps) = false := by
  unfold Region.wanted
  simp only [yielded_act hj hd hn hv]
  cases b <;> cases c <;> simp_all
/-- Not there: a guard whose own operation was not wanted. -/
theorem want_u {j dj : Nat} {oj : Oper} {c : Bool} {dst : Option Tmp} (hj : ops[j]? = some oj) (hd : oj.dst = some dj) (hn : Nat.blt dj n = true) (hv : f dj = undef) : Region.wanted ⟨dst, op, ty, pos, aft, some (j, c)⟩ (yielded ops (act n f).tmps) = false := by
  have hlt : dj < n := by simpa [Nat.blt_eq] using hn
  have hy : yielded ops (act n f).tmps j = none := by
    unfold yielded
    simp only [hj, Option.bind_some, hd]
    have : (act n f).tmps[dj]? = some undef := by
      unfold act
      simp [hlt, hv]
    rw [this]
    rfl
  unfold Region.wanted
  simp only [hy]
  rfl
theorem want_0 {dst : Option Tmp} {yl : Nat → Option Bool} : Region.wanted ⟨dst, op, ty, pos, aft, none⟩ yl = true := rfl
theorem wl_g {o : Oper} (hw : Region.wanted o (yielded ops (act n f).tmps) = true) (h : ∀ K : Act → World → Prop, (∀ a w, WL P ops Q rest a w → K a w) → OW P o (act n f) w K Q) : WL P ops Q (o :: rest) (act n f) w :=
  ⟨wpList_step fun K hK => by rw [if_pos hw]; exact (h K fun a w h => hK a w h.out).out⟩
theorem ow_v {K : Act → World → Prop} (hr : (execOp (act n f).eval ⟨some d, op, ty, pos, aft, gd⟩).run P w = .ok (.value v) w) (h : K (act n (upd f d v)) w) : OW P ⟨some d, op, ty, pos, aft, gd⟩ (act n f) w K Q := by
  refine ⟨?_⟩
  unfold Oper.wp
  rw [hr]
  show K ((act n f).put (some d) v) w
  rw [act_put]
  exact h
theorem wl_s {o : Oper} {d : Nat} (hd : o.dst = some d) (hw : Region.wanted o (yielded ops (act n f).tmps) = false) (h : WL P ops Q rest (act n (upd f d undef)) w) : WL P ops Q (o :: rest) (act n f) w := by
  refine ⟨wpList_skip hw ?_⟩
  rw [hd, act_put]
  exact h.out
/-- In a region that draws its order: whatever comes up. The entries M0 are never written. -/
def RG (P : Program) (ops : Array Oper) (Q : Exit → Act → World → Prop) (M0 : List Ent) (fuel : Nat) (listed : Array Bool) (a : Act) (w : World) : Prop :=
  (∀ e ∈ M0, e.ok w) ∧ wpAnyH P .any ops (NoPanic Q) (fun w' => ∀ e ∈ M0, e.ok w') fuel listed a w
variable {fuel : Nat} {listed : Array Bool} {F : List Nat} {w0 : World} {M : List Ent}
theorem rg_start {id : Nat} (h : St F w0 M w) (hm : P.follows .mixedOrders = true) (hR : ∀ w1, St F w0 M w1 → RG P ops Q M0 ops.size (Array.replicate ops.size false) (act n f) w1) : (Code.region id ops true).wp P Q (act n f) w :=
  wp_region_noPanic (wp_region_held hm (hR w.drew h.drew).2)
theorem rg_startk (k : Nat) {id : Nat} (h : St F w0 M w) (hm : P.follows .mixedOrders = true) (hR : ∀ w1, St F w0 M w1 → RG P ops Q (M.drop k) ops.size (Array.replicate ops.size false) (act n f) w1) : (Code.region id ops true).wp P Q (act n f) w := rg_start h hm hR
theorem rg_take (i : Nat) {o : Oper} (hi : ops[i]? = some o) {d : Nat} (hd : o.dst = some d) (hs : Region.noSelect ops = true) (hf : Region.free .any ops listed i = true) (hr : (Region.ready .any ops listed).contains i = true)
    (hw : Region.wanted o (yielded ops (act n f).tmps) = true) (hy : ∀ w', (∀ e ∈ M0, e.ok w') → (execOp (act n f).eval o).run P w' = .ok (.value v) w')
    (h : RG P ops Q M0 fuel (listed.setIfInBounds i true) (act n (upd f d v)) w) : RG P ops Q M0 (fuel + 1) listed (act n f) w :=
  ⟨h.1, wpAnyH_take hi hs hf hr (fun _ _ _ h => h) (.inl ⟨hw, hy⟩) h.1 (by rw [hd, act_put]; exact h.2)⟩
theorem rg_skip (i : Nat) {o : Oper} (hi : ops[i]? = some o) {d : Nat} (hd : o.dst = some d) (hs : Region.noSelect ops = true) (hf : Region.free .any ops listed i = true) (hr : (Region.ready .any ops listed).contains i = true)
    (hw : Region.wanted o (yielded ops (act n f).tmps) = false)
    (h : RG P ops Q M0 fuel (listed.setIfInBounds i true) (act n (upd f d undef)) w) : RG P ops Q M0 (fuel + 1) listed (act n f) w :=
  ⟨h.1, wpAnyH_take hi hs hf hr (fun _ _ _ h => h) (.inr ⟨hw, rfl⟩) h.1 (by rw [hd, act_put]; exact h.2)⟩
theorem wpOp_mk {i : Nat} {o : Oper} {K : Act → World → Prop} (hi : ops[i]? = some o) (hw : Region.wanted o (yielded ops (act n f).tmps) = true) (h : OW P o (act n f) w K Q) : wpOp P ops Q i K (act n f) w := by
  unfold wpOp
  simp only [hi, hw, if_true]
  exact .inl h.out
theorem rg_step (i : Nat) {o : Oper} (hi : ops[i]? = some o) (hr : Region.ready .any ops listed = [i]) (hw : Region.wanted o (yielded ops (act n f).tmps) = true) (hok : ∀ e ∈ M0, e.ok w)
    (h : ∀ K : Act → World → Prop, (∀ a' w', RG P ops Q M0 fuel (listed.setIfInBounds i true) a' w' → K a' w') → OW P o (act n f) w K (NoPanic Q)) : RG P ops Q M0 (fuel + 1) listed (act n f) w := by
  refine ⟨hok, wpAnyH_all hr (by simp) ?_⟩
  intro j hj
  rw [List.mem_singleton] at hj
  subst hj
  exact wpOp_mk hi hw (h _ fun a' w' hh => hh)
theorem rg_step2 (i j : Nat) {o o' : Oper} (hi : ops[i]? = some o) (hj : ops[j]? = some o') (hr : Region.ready .any ops listed = [i, j]) (hw : Region.wanted o (yielded ops (act n f).tmps) = true) (hw' : Region.wanted o' (yielded ops (act n f).tmps) = true) (hok : ∀ e ∈ M0, e.ok w)
    (h : ∀ K : Act → World → Prop, (∀ a' w', RG P ops Q M0 fuel (listed.setIfInBounds i true) a' w' → K a' w') → OW P o (act n f) w K (NoPanic Q))
    (h' : ∀ K : Act → World → Prop, (∀ a' w', RG P ops Q M0 fuel (listed.setIfInBounds j true) a' w' → K a' w') → OW P o' (act n f) w K (NoPanic Q)) : RG P ops Q M0 (fuel + 1) listed (act n f) w := by
  refine ⟨hok, wpAnyH_all hr (by simp) ?_⟩
  intro k hk
  simp only [List.mem_cons, List.not_mem_nil, or_false] at hk
  rcases hk with rfl | rfl
  · exact wpOp_mk hi hw (h _ fun a' w' hh => hh)
  · exact wpOp_mk hj hw' (h' _ fun a' w' hh => hh)
theorem rg_done (hok : ∀ e ∈ M0, e.ok w) (hr : Region.ready .any ops listed = []) (h : Q .normal (act n f) w) : RG P ops Q M0 fuel listed (act n f) w := ⟨hok, wpAnyH_done hr (NoPanic.normal h) fuel⟩

/-! ### calls and endings -/
theorem evs_nil {a : Act} : ([] : List Operand).map a.eval = [] := rfl
theorem evs_cons {a : Act} {x : Operand} {l : List Operand} {v : Value} {vs : List Value} (h : a.eval x = v) (hl : l.map a.eval = vs) : (x :: l).map a.eval = v :: vs := by rw [List.map_cons, h, hl]
theorem ow_call {K : Act → World → Prop} {fid : FuncId} {fn : Func} {c : Code} {xs : List Operand} {ats : Array TypeId} {vs : List Value} {R : Ending → World → Prop} (hf : P.funcs[fid]? = some fn) (hb : fn.body = some c) (hn : (fn.name == "runtime.NumGoroutine") = false)
    (hv : xs.map (act n f).eval = vs) (hc : Calls P fid vs.toArray w R) (h : ∀ e w', R e w' → ∃ v, e = .returned v ∧ K (act n (upd f d v)) w') : OW P ⟨some d, .call { callee := .value (.func fid), args := xs.toArray, argTypes := ats }, ty, pos, aft, gd⟩ (act n f) w K Q := by
  refine ⟨?_⟩
  have he : (execOp (act n f).eval ⟨some d, .call { callee := .value (.func fid), args := xs.toArray, argTypes := ats }, ty, pos, aft, gd⟩).run P w = .ok (.enter fid vs.toArray) w := by
    have e1 : execOp (act n f).eval ⟨some d, .call { callee := .value (.func fid), args := xs.toArray, argTypes := ats }, ty, pos, aft, gd⟩ = callFunc fid (#[] ++ xs.toArray.map (act n f).eval ++ #[]) := rfl
    rw [e1]
    have e2 : #[] ++ xs.toArray.map (act n f).eval ++ #[] = vs.toArray := by rw [List.map_toArray, hv]; simp
    rw [e2]
    unfold callFunc
    have hn' : ¬ fn.name = "runtime.NumGoroutine" := by simpa using hn
    simp [Sem.run_bind, program, Sem.run, hf, hn', hb]
  unfold Oper.wp
  rw [he]
  refine Calls.mono hc fun e w' hR => ?_
  obtain ⟨v, rfl, hk⟩ := h e w' hR
  show K ((act n f).put (some d) v) w'
  rw [act_put]
  exact hk
theorem act_get' {t : Nat} (h : Nat.blt t n = true) : (act n f).tmps[t]?.getD undef = f t := by
  have h' : t < n := by simpa [Nat.blt_eq] using h
  have := act_get n f t h'
  simpa using this
/-- Results. -/
inductive Res (P : Program) (f : Nat → Value) (n : Nat) (w : World) : ResultVar → Value → Prop
  | tmp {t : Nat} {v : Value} (ht : Nat.blt t n = true) (hv : f t = v) : Res P f n w (ResultVar.tmp t) v
  | cell {t : Nat} {ty : TypeId} {v : Value} {b o : Nat} (ht : Nat.blt t n = true) (hp : f t = .pointer (some ⟨b, o, none⟩)) (hl : (loadVar ty ⟨b, o, none⟩).run P w = .ok v w) : Res P f n w (ResultVar.cell t ty) v
theorem ret1 {fn : Func} {R : Ending → World → Prop} {r : ResultVar} {v : Value} (hres : fn.results = #[r]) (h : Res P f n w r v) (hR : R (.returned v) w) : bodyPost P fn R .ret (act n f) w := by
  refine bodyPost_ret (v := v) ?_ rfl hR
  unfold results
  rw [hres]
  cases h <;> simp_all [act_get', asAddr]
theorem ret2 {fn : Func} {R : Ending → World → Prop} {r s : ResultVar} {v u : Value} (hres : fn.results = #[r, s]) (h : Res P f n w r v) (k : Res P f n w s u) (hR : R (.returned (.tuple #[v, u])) w) : bodyPost P fn R .ret (act n f) w := by
  refine bodyPost_ret (v := .tuple #[v, u]) ?_ rfl hR
  unfold results
  rw [hres]
  cases h <;> cases k <;> simp_all [act_get', asAddr]
theorem ret3 {fn : Func} {R : Ending → World → Prop} {r s q : ResultVar} {v u z : Value} (hres : fn.results = #[r, s, q]) (h : Res P f n w r v) (k : Res P f n w s u) (l : Res P f n w q z) (hR : R (.returned (.tuple #[v, u, z])) w) : bodyPost P fn R .ret (act n f) w := by
  refine bodyPost_ret (v := .tuple #[v, u, z]) ?_ rfl hR
  unfold results
  rw [hres]
  cases h <;> cases k <;> cases l <;> simp_all [act_get', asAddr]
/-- A result that is a whole row. -/
theorem load_rowB (hok : ∀ x ∈ M, x.ok w) {b o : Nat} {ty t : TypeId} {ds : TypeDesc} {l cs : List Value} (i : Nat) (hM : M[i]? = some (.blk b t l)) (hu : P.underlying ty = some ds) (hd : ds.isRow = true) (hz : (P.info? ty).map (·.size) = some cs.length) (hv : (l.drop o).take cs.length = cs) : (loadVar ty ⟨b, o, none⟩).run P w = .ok (.agg cs.toArray) w :=
  run_loadVar_mid (P := P) w b o ty cs ds (rangeB hok i hM hv) hu hd hz
end
end Go.Proofs.Ytcobjneobdihkaa
/- The engine's fourth part: more operations. Any program. -/
namespace Go.Proofs.Ytcobjneobdihkaa
open Go.RowKit

/-! ### lists that are read -/
theorem getm {α : Type} [OfNat α 0] {c : α → Value} {l : List α} {j : Nat} (h : j < l.length) : (l.map c)[j]? = some (c (l.getD j 0)) := by
  rw [List.getElem?_map, List.getD_eq_getElem?_getD, List.getElem?_eq_getElem h]; rfl
def flat {α : Type} (enc : α → List Value) (l : List α) : List Value := (l.map enc).flatten
theorem flat_get {α : Type} [Inhabited α] {enc : α → List Value} {l : List α} {sz j o : Nat} (he : ∀ x, (enc x).length = sz) (ho : o < sz) (hj : j < l.length) : (flat enc l)[j * sz + o]? = (enc (l.getD j default))[o]? := by
  unfold flat
  induction l generalizing j with
  | nil => simp at hj
  | cons a l ih =>
    rw [List.map_cons, List.flatten_cons]
    cases j with
    | zero =>
      rw [Nat.zero_mul, Nat.zero_add, List.getElem?_append_left (by rw [he]; exact ho)]
      rfl
    | succ j =>
      have h1 : (j + 1) * sz + o = sz + (j * sz + o) := by rw [Nat.add_mul, Nat.one_mul]; omega
      rw [List.getElem?_append_right (by rw [he]; omega), he, h1, Nat.add_sub_cancel_left, ih (by simpa using hj)]
      rfl
section
variable {w : World} {M : List Ent}
theorem cellVs (hok : ∀ x ∈ M, x.ok w) {α : Type} [Inhabited α] {b p j sz o : Nat} {enc : α → List Value} {l : List α} {v : Value} (i : Nat) (hM : M[i]? = some (.vw (some ⟨b, p, none⟩) (flat enc l))) (he : ∀ x, (enc x).length = sz) (ho : Nat.blt o sz = true) (hj : j < l.length) (hv : (enc (l.getD j default))[o]? = some v) : w.cell? ⟨b, p + j * sz + o, none⟩ = some v := by
  have ho' : o < sz := by simpa [Nat.blt_eq] using ho
  rw [Nat.add_assoc]
  exact cellV hok i hM (by rw [flat_get he ho' hj]; exact hv)
theorem rangeVs (hok : ∀ x ∈ M, x.ok w) {α : Type} [Inhabited α] {b p j sz : Nat} {enc : α → List Value} {l : List α} (i : Nat) (hM : M[i]? = some (.vw (some ⟨b, p, none⟩) (flat enc l))) (he : ∀ x, (enc x).length = sz) (hj : j < l.length) : w.rangeAt b (p + j * sz) (enc (l.getD j default)) := by
  intro o v hv
  have ho : o < sz := by
    rcases Nat.lt_or_ge o sz with h1 | h1
    · exact h1
    · rw [List.getElem?_eq_none (by rw [he]; exact h1)] at hv; cases hv
  exact cellVs hok i hM he (by simpa [Nat.blt_eq] using ho) hj hv
end

/-! ### guards -/
theorem wl_gv {P : Program} {ops : Array Oper} {rest : List Oper} {Q : Exit → Act → World → Prop} {n d : Nat} {f : Nat → Value} {w : World} {op : Op} {ty : TypeId} {pos : String} {aft : Array Edge} {gd : Option (Nat × Bool)} {v : Value}
    (hw : Region.wanted ⟨some d, op, ty, pos, aft, gd⟩ (yielded ops (act n f).tmps) = true) (hr : (execOp (act n f).eval ⟨some d, op, ty, pos, aft, gd⟩).run P w = .ok (.value v) w) (h : WL P ops Q rest (act n (upd f d v)) w) : WL P ops Q (⟨some d, op, ty, pos, aft, gd⟩ :: rest) (act n f) w :=
  wl_g hw fun _ hK => ow_v hr (hK _ _ h)
section
variable {P : Program} {ops : Array Oper} {l : List Oper} {Q : Exit → Act → World → Prop} {n d : Nat} {f : Nat → Value} {w : World} {b : Bool} {M0 : List Ent} {fuel : Nat} {listed : Array Bool} {x : Operand}
theorem gs_wl (hv : (act n f).eval x = .bool b) (ht : b = true → WL P ops Q l (act n f) w) (hf : b = false → WL P ops Q l (act n f) w) : WL P ops Q l (act n f) w := by
  cases b
  · exact hf rfl
  · exact ht rfl
theorem gs_wls (hv : (act n f).eval x = .bool b) (hf : b = false → WL P ops Q l (act n f) w) (ht : b = true → WL P ops Q l (act n f) w) : WL P ops Q l (act n f) w := gs_wl hv ht hf
theorem gs_rg (hv : (act n f).eval x = .bool b) (ht : b = true → RG P ops Q M0 fuel listed (act n f) w) (hf : b = false → RG P ops Q M0 fuel listed (act n f) w) : RG P ops Q M0 fuel listed (act n f) w := by
  cases b
  · exact hf rfl
  · exact ht rfl
end

section
variable {P : Program} {a : Act} {w : World} {x y : Operand} {d : Option Tmp} {t t' ty : TypeId} {pos : String} {aft : Array Edge} {g : Option (Nat × Bool)} {k k' : IntKind} {z z' r : Int} {m n i j : Nat} {v u : Value}
theorem x_eqv {op : BinOp} {res : Bool} (hop : op = .eql ∨ op = .neq) (hx : a.eval x = v) (hy : a.eval y = u) (hg : ∀ w, (eqGuard op t x y v u).run P w = .ok () w) (hb : ∀ w, (binOp op t v u).run P w = .ok (.bool res) w) : (execOp a.eval ⟨d, .binOp op t x y t', ty, pos, aft, g⟩).run P w = .ok (.value (.bool res)) w := by
  unfold execOp
  simp only [hx, hy, Sem.run_bind, hg, hb, Result.andThen_ok, Sem.run_pure]
theorem run_equal_of {res : Bool} (h : ∀ d w, (Op.equalIn (d + 1) t v u).run P w = .ok res w) : (Op.equal t v u).run P w = .ok res w := h 9999 w
theorem run_bin_eql {res : Bool} {p q : Value} (hb : binOp .eql t p q = (do pure (.bool (← Op.equal t p q)) : Sem Value)) (h : ∀ (d : Nat) (w : World), (Op.equalIn (d + 1) t p q).run P w = .ok res w) : (binOp .eql t p q).run P w = .ok (.bool res) w := by
  rw [hb]; simp only [Sem.run_bind, run_equal_of h, Result.andThen_ok, Sem.run_pure]
theorem run_bin_neq {res : Bool} {p q : Value} (hb : binOp .neq t p q = (do pure (.bool (!(← Op.equal t p q))) : Sem Value)) (h : ∀ (d : Nat) (w : World), (Op.equalIn (d + 1) t p q).run P w = .ok res w) : (binOp .neq t p q).run P w = .ok (.bool (!res)) w := by
  rw [hb]; simp only [Sem.run_bind, run_equal_of h, Result.andThen_ok, Sem.run_pure]
theorem eqp_some {e : TypeId} {ad : Addr} (hu : P.underlying t = some (.pointer e)) (d : Nat) (w : World) : (Op.equalIn (d + 1) t (.pointer (some ad)) (.pointer none)).run P w = .ok false w := by
  simp only [Op.equalIn, Sem.run_bind, run_underlying hu, Result.andThen_ok, Sem.run_pure]
theorem eqp_none {e : TypeId} (hu : P.underlying t = some (.pointer e)) (d : Nat) (w : World) : (Op.equalIn (d + 1) t (.pointer none) (.pointer none)).run P w = .ok true w := by
  simp only [Op.equalIn, Sem.run_bind, run_underlying hu, Result.andThen_ok, Sem.run_pure, Option.isNone_none]
theorem eqb_ {b b' : Bool} (hu : P.underlying t = some .bool) (d : Nat) (w : World) : (Op.equalIn (d + 1) t (.bool b) (.bool b')).run P w = .ok (b == b') w := by
  simp only [Op.equalIn, Sem.run_bind, run_underlying hu, Result.andThen_ok, Sem.run_pure]
theorem x_peql {e : TypeId} {ad : Addr} (hu : P.underlying t = some (.pointer e)) (hx : a.eval x = .pointer (some ad)) (hy : a.eval y = .pointer none) : (execOp a.eval ⟨d, .binOp .eql t x y t', ty, pos, aft, g⟩).run P w = .ok (.value (.bool false)) w :=
  x_eqv (.inl rfl) hx hy (fun _ => rfl) fun w => run_bin_eql rfl (eqp_some hu)
theorem x_peqln {e : TypeId} (hu : P.underlying t = some (.pointer e)) (hx : a.eval x = .pointer none) (hy : a.eval y = .pointer none) : (execOp a.eval ⟨d, .binOp .eql t x y t', ty, pos, aft, g⟩).run P w = .ok (.value (.bool true)) w :=
  x_eqv (.inl rfl) hx hy (fun _ => rfl) fun w => run_bin_eql rfl (eqp_none hu)
theorem x_bneq {b b' : Bool} (hu : P.underlying t = some .bool) (hx : a.eval x = .bool b) (hy : a.eval y = .bool b') : (execOp a.eval ⟨d, .binOp .neq t x y t', ty, pos, aft, g⟩).run P w = .ok (.value (.bool (!(b == b')))) w :=
  x_eqv (.inr rfl) hx hy (fun _ => rfl) fun w => run_bin_neq rfl (eqb_ hu)
theorem x_minI {s s' : TypeId} (hx : a.eval x = .int k z) (hy : a.eval y = .int k z') : (execOp a.eval ⟨d, .call { callee := .builtin .min, args := #[x, y], argTypes := #[s, s'] }, ty, pos, aft, g⟩).run P w = .ok (.value (.int k (min z z'))) w := by
  unfold execOp
  simp [resolve, invoke, builtin, Builtin.min_, Builtin.min2, hx, hy, List.foldlM]
  split <;> omega

/-! 's[lo:hi]' of slices that are not nil -/
theorem run_bound {lo : Nat} {c : BoundsCode} (hx : v = .int k (lo : Int)) (h : lo ≤ n) : (Instr.sliceBound v n c).run P w = .ok lo w := by
  subst hx
  simp [Instr.sliceBound, asIntOf, h]
/-- The address of the rest: the model keeps the old one where nothing is left of the capacity. -/
def cutA (A : Option Addr) (lo m sz : Nat) : Option Addr := if m = lo then A else A.map (·.add (lo * sz))
theorem x_sliceLH {s e : TypeId} {sz : Nat} {lo hi : Operand} {A : Option Addr} {c : Nat} (hs : P.underlying s = some (.slice e)) (hz : (P.info? e).map (·.size) = some sz) (hx : a.eval x = .slice A n c) (hl : a.eval lo = .int k (i : Int)) (hh : a.eval hi = .int k' (j : Int)) (hb : i ≤ j ∧ j ≤ c) :
    (execOp a.eval ⟨d, .slice s x (some lo) (some hi) none, ty, pos, aft, g⟩).run P w = .ok (.value (.slice (cutA A i c sz) (j - i) (c - i))) w := by
  obtain ⟨ti, hi', hti⟩ : ∃ ti, P.info? e = some ti ∧ ti.size = sz := by
    cases h : P.info? e with
    | none => rw [h] at hz; cases hz
    | some ti => rw [h] at hz; exact ⟨ti, rfl, by simpa using hz⟩
  have h1 : ∀ w cd, (Instr.sliceBound (.int k' (j : Int)) c cd).run P w = .ok j w := fun w cd => run_bound rfl hb.2
  have h2 : ∀ w cd, (Instr.sliceBound (.int k (i : Int)) j cd).run P w = .ok i w := fun w cd => run_bound rfl hb.1
  unfold execOp cutA
  simp [hx, hl, hh, Instr.sliceAt, Instr.slice, Instr.sliceBounds, run_underlying hs, sizeOf, typeInfo, hi', hti, h1, h2]
theorem x_sliceH {s e : TypeId} {sz : Nat} {hi : Operand} {A : Option Addr} {c : Nat} (hs : P.underlying s = some (.slice e)) (hz : (P.info? e).map (·.size) = some sz) (hx : a.eval x = .slice A n c) (hh : a.eval hi = .int k' (j : Int)) (hb : j ≤ c) :
    (execOp a.eval ⟨d, .slice s x none (some hi) none, ty, pos, aft, g⟩).run P w = .ok (.value (.slice (cutA A 0 c sz) j c)) w := by
  obtain ⟨ti, hi', hti⟩ : ∃ ti, P.info? e = some ti ∧ ti.size = sz := by
    cases h : P.info? e with
    | none => rw [h] at hz; cases hz
    | some ti => rw [h] at hz; exact ⟨ti, rfl, by simpa using hz⟩
  have h1 : ∀ w cd, (Instr.sliceBound (.int k' (j : Int)) c cd).run P w = .ok j w := fun w cd => run_bound rfl hb
  unfold execOp cutA
  simp [hx, hh, Instr.sliceAt, Instr.slice, Instr.sliceBounds, run_underlying hs, sizeOf, typeInfo, hi', hti, h1]
theorem x_sliceL {s e : TypeId} {sz : Nat} {lo : Operand} {A : Option Addr} {c : Nat} (hs : P.underlying s = some (.slice e)) (hz : (P.info? e).map (·.size) = some sz) (hx : a.eval x = .slice A n c) (hl : a.eval lo = .int k (i : Int)) (hb : i ≤ n) :
    (execOp a.eval ⟨d, .slice s x (some lo) none none, ty, pos, aft, g⟩).run P w = .ok (.value (.slice (cutA A i c sz) (n - i) (c - i))) w := by
  obtain ⟨ti, hi', hti⟩ : ∃ ti, P.info? e = some ti ∧ ti.size = sz := by
    cases h : P.info? e with
    | none => rw [h] at hz; cases hz
    | some ti => rw [h] at hz; exact ⟨ti, rfl, by simpa using hz⟩
  have h2 : ∀ w cd, (Instr.sliceBound (.int k (i : Int)) n cd).run P w = .ok i w := fun w cd => run_bound rfl hb
  unfold execOp cutA
  simp [hx, hl, Instr.sliceAt, Instr.slice, Instr.sliceBounds, run_underlying hs, sizeOf, typeInfo, hi', hti, h2]

/-! composite values -/
/-- The parts of a composite value, from number i on: their values, and all its cells. -/
inductive BC (a : Act) : Nat → List (Nat × Operand) → List (Nat × Value) → List Value → Prop
  | nil {i : Nat} : BC a i [] [] []
  | take {i : Nat} {x : Operand} {v : Value} {ps : List (Nat × Operand)} {vs : List (Nat × Value)} {cs : List Value} (hx : a.eval x = v) (h : BC a (i + 1) ps vs cs) : BC a i ((i, x) :: ps) ((i, v) :: vs) (v :: cs)
  | takeL {i : Nat} {x : Operand} {l : List Value} {ps : List (Nat × Operand)} {vs : List (Nat × Value)} {cs : List Value} (hx : a.eval x = .agg l.toArray) (h : BC a (i + 1) ps vs cs) : BC a i ((i, x) :: ps) ((i, .agg l.toArray) :: vs) (l ++ cs)
  | skip {i : Nat} {ps : List (Nat × Operand)} {vs : List (Nat × Value)} {cs : List Value} (z : Value) (h : BC a (i + 1) ps vs cs) : BC a i ps vs (z :: cs)
  | skipL {i : Nat} {ps : List (Nat × Operand)} {vs : List (Nat × Value)} {cs : List Value} (z : List Value) (h : BC a (i + 1) ps vs cs) : BC a i ps vs (z ++ cs)
theorem bc_nil {a : Act} {i : Nat} : BC a i [] [] [] := .nil
theorem bc_take {a : Act} {i j : Nat} {x : Operand} {v : Value} {ps : List (Nat × Operand)} {vs : List (Nat × Value)} {cs : List Value} (hx : a.eval x = v) (h : BC a j ps vs cs) (hj : j = i + 1 := by rfl) : BC a i ((i, x) :: ps) ((i, v) :: vs) (v :: cs) := by subst hj; exact .take hx h
theorem bc_takeL {a : Act} {i j : Nat} {x : Operand} {l : List Value} {ps : List (Nat × Operand)} {vs : List (Nat × Value)} {cs : List Value} (hx : a.eval x = .agg l.toArray) (h : BC a j ps vs cs) (hj : j = i + 1 := by rfl) : BC a i ((i, x) :: ps) ((i, .agg l.toArray) :: vs) (l ++ cs) := by subst hj; exact .takeL hx h
theorem bc_skip {a : Act} {i j : Nat} {ps : List (Nat × Operand)} {vs : List (Nat × Value)} {cs : List Value} (z : Value) (h : BC a j ps vs cs) (hj : j = i + 1 := by rfl) : BC a i ps vs (z :: cs) := by subst hj; exact .skip z h
theorem bc_skipL {a : Act} {i j : Nat} {ps : List (Nat × Operand)} {vs : List (Nat × Value)} {cs : List Value} (z : List Value) (h : BC a j ps vs cs) (hj : j = i + 1 := by rfl) : BC a i ps vs (z ++ cs) := by subst hj; exact .skipL z h
theorem BC.vals {a : Act} {i : Nat} {ps : List (Nat × Operand)} {vs : List (Nat × Value)} {cs : List Value} (h : BC a i ps vs cs) : ps.map (fun p => (p.1, a.eval p.2)) = vs := by
  induction h with
  | nil => rfl
  | take hx _ ih => rw [List.map_cons, ih, hx]
  | takeL hx _ ih => rw [List.map_cons, ih, hx]
  | skip _ _ ih => exact ih
  | skipL _ _ ih => exact ih
theorem x_build {parts : List (Nat × Operand)} {vals : List (Nat × Value)} {cells : List Value} (hbc : BC a 0 parts vals cells) (hb : P.built t vals = some cells.toArray) :
    (execOp a.eval ⟨d, .build t parts.toArray, ty, pos, aft, g⟩).run P w = .ok (.value (.agg cells.toArray)) w := by
  have e : (parts.toArray.map fun (i, x) => (i, a.eval x)) = vals.toArray := by
    rw [← hbc.vals, List.map_toArray]
  unfold execOp
  simp only [e, Sem.run_bind, run_build w t vals.toArray cells.toArray (by simpa using hb), Result.andThen_ok, Sem.run_pure]
end

/-! ### more that do something -/
section
variable {F : List Nat} {w0 w w' : World} {M : List Ent} {P : Program} {a : Act} {x y : Operand} {d : Nat} {t t' ty : TypeId} {pos : String} {aft : Array Edge} {gd : Option (Nat × Bool)} {v : Value} {n : Nat} {f : Nat → Value} {K : Act → World → Prop} {Q : Exit → Act → World → Prop}

theorem ow_append (h : St F w0 M w) (i j : Nat) {A : Option Addr} {m c size bt k c1 g1 : Nat} {e e1 s : TypeId} {z : Value} {xs news : List Value} (hi : M[i]? = some (.row (.slice A m c) e size m xs)) (hj : M[j]? = some (.blk g1 e1 news)) (hu : P.underlying s = some (.slice e)) (hz : (P.info? e).map (fun i => (i.zero, i.size, i.bytes)) = some (some z, size, bt)) (hzs : z.cells.size = size)
    (hx : (act n f).eval x = .slice A m c) (hy : (act n f).eval y = .slice (some ⟨g1, 0, none⟩) k c1) (h1 : news.all (·.oneCell') = true) (hk : 0 < k ∧ 0 < size ∧ news.length = k * size) (h63 : m + k ≤ maxLen) (hby : (m + k) * bt ≤ 140737488355328)
    (hK : ∀ g' c' w', St F w0 (M.set i (.row (.slice (some ⟨g', 0, none⟩) (m + k) c') e size (m + k) (xs ++ news))) w' → K (act n (upd f d (.slice (some ⟨g', 0, none⟩) (m + k) c'))) w') :
    OW P ⟨some d, .call { callee := .builtin .append, args := #[x, y], argTypes := #[s, s] }, ty, pos, aft, gd⟩ (act n f) w K Q := by
  refine ⟨?_⟩
  obtain ⟨ti, hti, h2, h3, h4⟩ := info_of hz
  have hown : w.ownsRow 0 e size (.slice A m c) m xs := h.ok _ (mem_of_get hi)
  have hnew : Arr w g1 e1 news := h.ok _ (mem_of_get hj)
  refine owp_append_at x y s rfl 0 e ti z size bt hu hti h2 h3 h4 hzs hk.2.1 A m c xs hx hown ⟨g1, 0, none⟩ k c1 news hy hk.2.2 (fun q u hq => by rw [add_mk, Nat.zero_add]; exact (hnew.cell q).trans hq) (fun u hu => List.all_eq_true.1 h1 u hu) hk.1 h63 hby (Nat.zero_le _) ?_
  intro g' c' w' hr hg hpl hlt
  rw [act_put]
  have hb? : (Ent.row (.slice A m c) e size m xs).blk? = A.map (·.block) := by cases A <;> rfl
  refine hK g' c' w' (h.set_ hi rfl ?_ hr.out rfl ?_)
  · rw [hb?]; exact Kp.of_grown hg
  · intro q hq
    injection hq with hq
    subst hq
    rcases hpl with h5 | h5
    · left; rw [hb?, h5]; rfl
    · exact .inr h5

theorem run_storeA {g o : Nat} {t ty' : TypeId} {l cs : List Value} (hA : Arr w g t l) (hz : (P.info? ty').map (·.size) = some cs.length) (h1 : cs.all (·.oneCell') = true) (ho : o + cs.length ≤ l.length) :
    (Instr.storeAt ty' (.pointer (some ⟨g, o, none⟩)) (.agg cs.toArray)).run P w = .ok () (w.setRow g (splice l o cs).toArray) := by
  obtain ⟨ti, hi, hti⟩ : ∃ ti, P.info? ty' = some ti ∧ ti.size = cs.length := by
    cases h : P.info? ty' with
    | none => rw [h] at hz; cases hz
    | some ti => rw [h] at hz; exact ⟨ti, rfl, by simpa using hz⟩
  have hst := run_storeCells_at P g o t cs 0 l.toArray w hA (by simpa using ho) (fun v hv => List.all_eq_true.1 h1 v hv)
  simp only [Nat.add_zero] at hst
  have e : (l.toArray.toList.take o ++ cs ++ l.toArray.toList.drop (o + cs.length)).toArray = (splice l o cs).toArray := by
    unfold splice; simp
  rw [e] at hst
  simp only [Instr.storeAt, Instr.sureAddr, Sem.run_bind, Sem.run_pure, Result.andThen_ok, storeVar, sizeOf, typeInfo, Value.cells]
  simp [hi, hti, hst]
theorem ow_storeA (h : St F w0 M w) (i : Nat) {g o : Nat} {t : TypeId} {l cs : List Value} {ty' : TypeId} {sz : Nat} (hM : M[i]? = some (.blk g t l)) (hz : (P.info? ty').map (·.size) = some sz) (hx : (act n f).eval x = .pointer (some ⟨g, o, none⟩)) (hy : (act n f).eval y = .agg cs.toArray) (h1 : cs.all (·.oneCell') = true) (hs : cs.length = sz) (ho : Nat.ble (o + sz) l.length = true)
    (hK : ∀ w', St F w0 (M.set i (.blk g t (splice l o cs))) w' → K (act n f) w') : OW P ⟨none, .store ty' x y, ty, pos, aft, gd⟩ (act n f) w K Q := by
  refine ⟨?_⟩
  subst hs
  have ho' : o + cs.length ≤ l.length := by simpa using ho
  have hA : Arr w g t l := h.ok _ (mem_of_get hM)
  have hr := run_storeA (P := P) (w := w) hA hz h1 ho'
  unfold Oper.wp execOp
  simp only [hx, hy, Sem.run_bind, hr, Result.andThen_ok, Sem.run_pure, Oper.upon]
  exact hK _ (h.set_ hM rfl (Kp.setRow w g _) (setRow_heap w g _ _ t _ hA) rfl fun g' hg => .inl hg)
/-- A nil slice, or one that nobody has made yet. -/
theorem St.nilrow (h : St F w0 M w) (e : TypeId) (size : Nat) : St F w0 (.row (.slice none 0 0) e size 0 [] :: M) w :=
  h.cons (World.ownsRow_nil w 0 e size) rfl (fun g hg => by cases hg) fun _ _ => .inr (.inl rfl)
theorem ow_make (h : St F w0 M w) {s e : TypeId} {z : Value} {size bt m : Nat} {k k' : IntKind} (hu : P.underlying s = some (.slice e)) (hz : (P.info? e).map (fun i => (i.zero, i.size, i.bytes)) = some (some z, size, bt)) (hzc : z.cells = #[z]) (hx : (act n f).eval x = .int k (m : Int)) (hy : (act n f).eval y = .int k' (m : Int)) (hs : size = 1) (hb : bt * m ≤ 281474976710656) (h63 : m ≤ maxLen)
    (hK : ∀ g' w', w.heap.size ≤ g' → St F w0 (.row (.slice (some ⟨g', 0, none⟩) m m) e 1 m (List.replicate m z) :: M) w' → K (act n (upd f d (.slice (some ⟨g', 0, none⟩) m m))) w') : OW P ⟨some d, .makeSlice s x y, ty, pos, aft, gd⟩ (act n f) w K Q := by
  refine ⟨?_⟩
  subst hs
  obtain ⟨ti, hti, h2, h3, h4⟩ := info_of hz
  subst h4
  obtain ⟨w', hr, hown, hgr⟩ := run_make_full (P := P) w 0 s e ti z 1 hu hti h2 h3 k k' m hb h63 (Nat.zero_le _)
  unfold Oper.wp execOp
  simp only [hx, hy, Sem.run_bind, hr, Result.andThen_ok, Sem.run_pure, Oper.upon]
  rw [act_put]
  rw [Nat.mul_one, hzc, toList_madeCells_one] at hown
  exact hK _ _ (Nat.le_refl _) (h.add (Kp.of_grown hgr) ⟨hown, rfl, fun q hq => Nat.le_of_eq (Option.some.inj hq)⟩)
theorem ow_build (h : St F w0 M w) {s e : TypeId} {z : Value} {size bt len : Nat} {l : List Value} {parts : List (Nat × Operand)} {vals : List (Nat × Value)} (hu : P.underlying s = some (.slice e)) (hz : (P.info? e).map (fun i => (i.zero, i.size, i.bytes)) = some (some z, size, bt)) (hbc : BC (act n f) 0 parts vals l)
    (hs : Nat.ble (len * size) 16777216 = true) (h0 : Nat.beq (len * size) 0 = false) (hf : Instr.fill (fun i => some (i * size, size)) ((Array.range (len * size)).map (z.cells[· % z.cells.size]!)) vals = some l.toArray)
    (hK : ∀ g' w', w.heap.size ≤ g' → St F w0 (.blk g' e l :: M) w' → K (act n (upd f d (.slice (some ⟨g', 0, none⟩) len len))) w') : OW P ⟨some d, .buildSlice s len parts.toArray, ty, pos, aft, gd⟩ (act n f) w K Q := by
  refine ⟨?_⟩
  obtain ⟨ti, hti, h2, h3, h4⟩ := info_of hz
  subst h3
  have e1 : (parts.toArray.map fun (i, x) => (i, (act n f).eval x)) = vals.toArray := by
    rw [← hbc.vals, List.map_toArray]
  have hs' : len * ti.size ≤ 16777216 := by simpa using hs
  have h0' : ¬ len * ti.size = 0 := fun h => by rw [h] at h0; simp at h0
  have hr := run_buildSlice (P := P) w s e len vals.toArray l.toArray ti z hu hti h2 (by omega) h0' (by simpa using hf)
  unfold Oper.wp execOp
  simp only [e1, Sem.run_bind, hr, Result.andThen_ok, Sem.run_pure, Oper.upon]
  rw [act_put]
  exact hK _ _ (Nat.le_refl _) (h.add (Kp.alloc w (.cells l.toArray e)) ⟨Arr.new w e l, rfl, fun q hq => Nat.le_of_eq (Option.some.inj hq)⟩)
/-! ### operands whose kind is known: the value is read off at once -/
theorem tmI {t : Nat} {k : IntKind} {z : Int} (h : Nat.blt t n = true) (hv : f t = .int k z) : (act n f).eval (.tmp t) = .int k z := (tm h).trans hv
theorem tmB {t : Nat} {b : Bool} (h : Nat.blt t n = true) (hv : f t = .bool b) : (act n f).eval (.tmp t) = .bool b := (tm h).trans hv
theorem tmS {t : Nat} {A : Option Addr} {m c : Nat} (h : Nat.blt t n = true) (hv : f t = .slice A m c) : (act n f).eval (.tmp t) = .slice A m c := (tm h).trans hv
theorem tmP {t : Nat} {A : Option Addr} (h : Nat.blt t n = true) (hv : f t = .pointer A) : (act n f).eval (.tmp t) = .pointer A := (tm h).trans hv
theorem tmA {t : Nat} {l : List Value} (h : Nat.blt t n = true) (hv : f t = .agg l.toArray) : (act n f).eval (.tmp t) = .agg l.toArray := (tm h).trans hv
theorem tmT {t : Nat} {l : List Value} (h : Nat.blt t n = true) (hv : f t = .tuple l.toArray) : (act n f).eval (.tmp t) = .tuple l.toArray := (tm h).trans hv
end
section
variable {P : Program} {a : Act} {w : World} {x y : Operand} {d : Option Tmp} {t t' ty : TypeId} {pos : String} {aft : Array Edge} {g : Option (Nat × Bool)} {v : Value}
theorem x_ext {l : List Value} {ix : Nat} (hx : a.eval x = .tuple l.toArray) (hv : l[ix]? = some v) : (execOp a.eval ⟨d, .extract x ix, ty, pos, aft, g⟩).run P w = .ok (.value v) w := x_extract hx (by simpa using hv)
end
section
variable {P : Program} {a : Act} {w : World} {x y c : Operand} {d : Option Tmp} {t t' ty : TypeId} {pos : String} {aft : Array Edge} {g : Option (Nat × Bool)} {v u : Value} {b : Bool}
theorem x_pickT (hc : a.eval c = .bool b) (hb : b = true) (hx : a.eval x = v) : (execOp a.eval ⟨d, .pick c x y, ty, pos, aft, g⟩).run P w = .ok (.value v) w := by
  subst hb; have := x_pick (P := P) (w := w) (d := d) (ty := ty) (pos := pos) (aft := aft) (g := g) hc hx (rfl : a.eval y = a.eval y); simpa using this
theorem x_pickF (hc : a.eval c = .bool b) (hb : b = false) (hy : a.eval y = v) : (execOp a.eval ⟨d, .pick c x y, ty, pos, aft, g⟩).run P w = .ok (.value v) w := by
  subst hb; have := x_pick (P := P) (w := w) (d := d) (ty := ty) (pos := pos) (aft := aft) (g := g) hc (rfl : a.eval x = a.eval x) hy; simpa using this
end

/-- A piece of code, and what holds behind it; the rest is walked once. -/
theorem cutc {P : Program} {c : Code} {Q : Exit → Act → World → Prop} {n : Nat} {f : Nat → Value} {w : World} (W : List Nat) (J : (Nat → Value) → World → Prop)
    (h1 : c.wp P (Exit.then (fun a' w' => ∃ f', a' = act n f' ∧ Agree W f' f ∧ J f' w') Q) (act n f) w) (h2 : ∀ g w', J (mix W g f) w' → Q .normal (act n (mix W g f)) w') : c.wp P Q (act n f) w := by
  refine wp_mono h1 ?_
  intro e a' w' hq
  cases e with
  | normal =>
    obtain ⟨f', rfl, hag, hJ⟩ := hq
    rw [agree_eq hag] at hJ ⊢
    exact h2 f' w' hJ
  | _ => exact hq
theorem fr_knowQ {Q : Exit → Act → World → Prop} {n : Nat} {f : Nat → Value} {w : World} {d : Nat} {v : Value} (h : f d = v) (k : Q .normal (act n (upd f d v)) w) : Q .normal (act n f) w := by
  rw [upd_self f d v h] at k; exact k

section
variable {F : List Nat} {w0 w w' : World} {M : List Ent} {P : Program} {a : Act} {x y : Operand} {d : Nat} {t t' ty : TypeId} {pos : String} {aft : Array Edge} {gd : Option (Nat × Bool)} {v : Value} {n : Nat} {f : Nat → Value} {K : Act → World → Prop} {Q : Exit → Act → World → Prop}
theorem ow_build0 (h : St F w0 M w) {s e : TypeId} {z : Value} {size bt len : Nat} {ps : Array (Nat × Operand)} (hu : P.underlying s = some (.slice e)) (hz : (P.info? e).map (fun i => (i.zero, i.size, i.bytes)) = some (some z, size, bt)) (hlen : len = 0) (hps : ps = #[])
    (hK : ∀ g' w', w.heap.size ≤ g' → St F w0 (.row (.slice (some ⟨g', 0, none⟩) 0 0) e size 0 [] :: M) w' → K (act n (upd f d (.slice (some ⟨g', 0, none⟩) 0 0))) w') : OW P ⟨some d, .buildSlice s len ps, ty, pos, aft, gd⟩ (act n f) w K Q := by
  refine ⟨?_⟩
  subst hlen; subst hps
  obtain ⟨ti, hti, h2, h3, h4⟩ := info_of hz
  subst h3
  unfold Oper.wp execOp
  simp [Instr.buildSlice, run_underlying hu, sizeOf, typeInfo, hti, Instr.fill, newRow, Oper.upon, act_put]
  have e0 : Array.map (fun _ => default) (Array.range 0) = (#[] : Array Value) := by apply Array.ext <;> simp
  rw [e0]
  refine hK w.heap.size _ (Nat.le_refl _) (h.add (Kp.alloc w (.cells #[] e)) ⟨?_, rfl, fun q hq => Nat.le_of_eq (Option.some.inj hq)⟩)
  exact ⟨by simp, .inr ⟨w.heap.size, 0, #[], rfl, Nat.zero_le _, by rw [heap_alloc_new], Nat.le_refl _, by simp [maxLen], by simp, by simp⟩⟩
/-- Any slice, an empty one too, behind a row of the call's own. -/
theorem ow_appendV (h : St F w0 M w) (i : Nat) {A A1 : Option Addr} {m c size bt k c1 : Nat} {e s : TypeId} {z : Value} {xs news : List Value} (hi : M[i]? = some (.row (.slice A m c) e size m xs)) (hv : View w w.heap.size A1 news) (hu : P.underlying s = some (.slice e)) (hz : (P.info? e).map (fun i => (i.zero, i.size, i.bytes)) = some (some z, size, bt)) (hzs : z.cells.size = size)
    (hx : (act n f).eval x = .slice A m c) (hy : (act n f).eval y = .slice A1 k c1) (h1 : ∀ u ∈ news, u.oneCell' = true) (hk : 0 < size ∧ news.length = k * size) (h63 : m + k ≤ maxLen) (hby : (m + k) * bt ≤ 140737488355328)
    (hK : ∀ A' c' w', (A = none → k = 0 → A' = none) → ((A = none → c = 0) → A' = none → c' = 0) → St F w0 (M.set i (.row (.slice A' (m + k) c') e size (m + k) (xs ++ news))) w' → K (act n (upd f d (.slice A' (m + k) c'))) w') :
    OW P ⟨some d, .call { callee := .builtin .append, args := #[x, y], argTypes := #[s, s] }, ty, pos, aft, gd⟩ (act n f) w K Q := by
  refine ⟨?_⟩
  obtain ⟨ti, hti, h2, h3, h4⟩ := info_of hz
  have hown : w.ownsRow 0 e size (.slice A m c) m xs := h.ok _ (mem_of_get hi)
  have hset : M.set i (.row (.slice A m c) e size m xs) = M := by
    apply List.ext_getElem?
    intro j
    rw [List.getElem?_set]
    split
    · next hj => subst hj; rw [hi]; split <;> simp_all
    · rfl
  by_cases hk0 : k = 0
  · subst hk0
    have hn : news = [] := List.eq_nil_of_length_eq_zero (by simpa using hk.2)
    subst hn
    have hc : m ≤ c := by
      rcases hown.2 with ⟨e0, h0⟩ | ⟨g, cap, cur, e0, _, _, h0, _⟩
      · omega
      · injection e0 with _ _ e3; omega
    have hr : (Builtin.append_ #[s, s] ty #[.slice A m c, .slice A1 0 c1]).run P w = .ok (.slice A m c) w := by
      subst h3
      have hf : (Builtin.firstCells ti.size 0 (.slice A1 0 c1)).run P w = .ok #[] w := by
        cases A1 <;> simp [Builtin.firstCells, loadCells, loadCellsFrom]
      simp [Builtin.append_, run_underlying hu, sizeOf, typeInfo, hti, Builtin.lenOf, hc, hf]
      cases A <;> simp [storeCells]
    unfold Oper.wp execOp
    simp only [resolve, invoke, builtin, Sem.run_bind, Sem.run_pure, Result.andThen_ok, List.map_toArray, List.map_cons, List.map_nil, hx, hy, hr, Oper.upon]
    rw [act_put]
    refine hK A c w (fun h _ => h) (fun h => h) ?_
    rw [List.append_nil, Nat.add_zero, hset]
    exact h
  · obtain ⟨b, o, rfl, hlt, hcell⟩ := hv (by intro e0; rw [e0] at hk; have := Nat.mul_pos (Nat.pos_of_ne_zero hk0) hk.1; simp at hk; omega)
    refine owp_append_at x y s rfl 0 e ti z size bt hu hti h2 h3 h4 hzs hk.1 A m c xs hx hown ⟨b, o, none⟩ k c1 news hy hk.2 (fun q u hq => by rw [add_mk]; exact hcell q u hq) h1 (by omega) h63 hby (Nat.zero_le _) ?_
    intro g' c' w' hr hg hpl hlt
    rw [act_put]
    have hb? : (Ent.row (.slice A m c) e size m xs).blk? = A.map (·.block) := by cases A <;> rfl
    refine hK (some ⟨g', 0, none⟩) c' w' (fun _ h0 => absurd h0 hk0) (fun _ h => by cases h) (h.set_ hi rfl ?_ hr.out rfl ?_)
    · rw [hb?]; exact Kp.of_grown hg
    · intro q hq
      injection hq with hq
      subst hq
      rcases hpl with h5 | h5
      · left; rw [hb?, h5]; rfl
      · exact .inr h5
end
theorem St.rowOk {F : List Nat} {w0 w : World} {M : List Ent} (h : St F w0 M w) (i : Nat) {v : Value} {e : TypeId} {sz n : Nat} {xs : List Value} (hM : M[i]? = some (.row v e sz n xs)) : w.ownsRow 0 e sz v n xs := h.ok _ (mem_of_get hM)
theorem St.new {w0 w : World} {M : List Ent} {e : Ent} (h : St [] w0 M w) (i : Nat) (hM : M[i]? = some e) (hro : e.ro = false) : New w0 w e :=
  ⟨h.ok e (mem_of_get hM), hro, fun g hg => by rcases h.own e (mem_of_get hM) hro g hg with h1 | h1; cases h1; exact h1⟩
theorem view_some {w : World} {A : Option Addr} {xs : List Value} (h : View w w.heap.size A xs) (hn : 0 < xs.length) : ∃ b o, A = some ⟨b, o, none⟩ := by
  obtain ⟨b, o, e, _⟩ := h (by intro e; rw [e] at hn; simp at hn)
  exact ⟨b, o, e⟩
/-- Seen from outside: a row is read-only. -/
theorem rowView {w : World} {A : Option Addr} {e : TypeId} {sz m c : Nat} {xs : List Value} (h : w.ownsRow 0 e sz (.slice A m c) m xs) : View w w.heap.size A xs :=
  viewR (M := [.row (.slice A m c) e sz m xs]) (by simpa [Ent.ok] using h) 0 rfl
end Go.Proofs.Ytcobjneobdihkaa
/- The engine's fifth part: calls that write, and stores into the elements of a row. Any program. -/
namespace Go.Proofs.Ytcobjneobdihkaa
open Go.RowKit

def Ent.view : Ent → Ent
  | .blk g _ l => .vw (some ⟨g, 0, none⟩) l
  | .row (.slice A _ _) _ _ _ xs => .vw A xs
  | .vw A xs => .vw A xs
  | _ => .vw none []
theorem Ent.view_ok {w : World} {e : Ent} (h : e.ok w) : e.view.ok w := by
  cases e with
  | blk g t l => exact Arr.view h (Arr.lt h)
  | row v e sz n xs =>
    cases v with
    | slice A m c =>
      have h' : w.ownsRow 0 e sz (.slice A m c) n xs := h
      have hm : m = n ∨ xs = [] := by
        rcases h'.2 with ⟨e0, h0⟩ | ⟨g, cap, cur, e0, _⟩
        · right; have := h'.1; rw [h0, Nat.zero_mul] at this; exact List.eq_nil_of_length_eq_zero this
        · injection e0 with _ e1; exact .inl e1
      rcases hm with rfl | rfl
      · exact rowView h'
      · exact View.nil_
    | _ => exact View.nil_
  | vw A xs => exact h
  | obj g o => exact View.nil_
theorem Ent.view_blk {e : Ent} {g : Nat} (h : e.view.blk? = some g) : e.blk? = some g := by
  cases e with
  | blk b t l =>
    cases l with
    | nil => cases h
    | cons x l => exact h
  | row v e sz n xs =>
    cases v with
    | slice A m c =>
      cases xs with
      | nil => cases h
      | cons x xs =>
        cases A with
        | none => cases h
        | some ad => exact h
    | _ => cases h
  | vw A xs => exact h
  | obj g o => cases h
theorem Ent.view_ro (e : Ent) : e.view.ro = true := by
  cases e with
  | row v _ _ _ _ => cases v <;> rfl
  | _ => rfl
def blks (M : List Ent) : List Nat := M.filterMap (·.blk?)

section
variable {F : List Nat} {w0 w w' : World} {M M' : List Ent}
/-- What a call gets: the entries 'is' to write, the entries 'vs' to read. -/
theorem St.enter (h : St F w0 M w) (is vs : List Nat) (hl : (is ++ vs).all (fun i => Nat.blt i M.length) = true) (hn : nodupB (is ++ vs) = true) :
    St (blks (picks M is)) w (picks M is ++ (picks M vs).map Ent.view) w := by
  have hp := h.pick (is ++ vs) hl hn
  have hpa : ∀ (a b : List Nat), picks M (a ++ b) = picks M a ++ picks M b := by
    intro a b; induction a with
    | nil => rfl
    | cons x a ih => simp [picks, ih]
  rw [hpa] at hp
  have hget : ∀ (i : Nat) (e : Ent), (picks M is ++ (picks M vs).map Ent.view)[i]? = some e → ∃ e', (picks M is ++ picks M vs)[i]? = some e' ∧ (e = e' ∨ e = e'.view) := by
    intro i e hi
    by_cases hlt : i < (picks M is).length
    · rw [List.getElem?_append_left hlt] at hi ⊢
      exact ⟨e, hi, .inl rfl⟩
    · rw [List.getElem?_append_right (by omega)] at hi ⊢
      rw [List.getElem?_map] at hi
      cases hx : (picks M vs)[i - (picks M is).length]? with
      | none => rw [hx] at hi; cases hi
      | some e' => rw [hx] at hi; injection hi with hi; exact ⟨e', rfl, .inr hi.symm⟩
  refine ⟨Kp.refl _ _, fun e he => ?_, fun i j a b hij ha hb => ?_, fun e he hro g hg => ?_⟩
  · rcases List.mem_append.1 he with h1 | h1
    · exact hp.ok e (List.mem_append_left _ h1)
    · obtain ⟨e', he', rfl⟩ := List.mem_map.1 h1
      exact Ent.view_ok (hp.ok e' (List.mem_append_right _ he'))
  · obtain ⟨a', ha', ra⟩ := hget i a ha
    obtain ⟨b', hb', rb⟩ := hget j b hb
    have hap := hp.ap i j a' b' hij ha' hb'
    have hblk : ∀ (x y : Ent), (x = y ∨ x = y.view) → ∀ g, x.blk? = some g → y.blk? = some g := by
      rintro x y (rfl | rfl) g hg
      · exact hg
      · exact Ent.view_blk hg
    have hro : ∀ (x y : Ent), (x = y ∨ x = y.view) → y.ro = true → x.ro = true := by
      rintro x y (rfl | rfl) hg
      · exact hg
      · exact Ent.view_ro y
    rcases hap with h1 | h1 | h1 | h1
    · simp only [Bool.and_eq_true] at h1
      exact .inl (by rw [hro a a' ra h1.1, hro b b' rb h1.2]; rfl)
    · cases hx : a.blk? with
      | none => exact .inr (.inl hx)
      | some g => rw [hblk a a' ra g hx] at h1; cases h1
    · cases hx : b.blk? with
      | none => exact .inr (.inr (.inl hx))
      | some g => rw [hblk b b' rb g hx] at h1; cases h1
    · cases hx : a.blk? with
      | none => exact .inr (.inl hx)
      | some g =>
        cases hy : b.blk? with
        | none => exact .inr (.inr (.inl hy))
        | some g' =>
          rw [hblk a a' ra g hx, hblk b b' rb g' hy] at h1
          exact .inr (.inr (.inr (by rw [hx, hy]; exact h1)))
  · rcases List.mem_append.1 he with h1 | h1
    · exact .inl (List.mem_filterMap.2 ⟨e, h1, hg⟩)
    · obtain ⟨e', _, rfl⟩ := List.mem_map.1 h1
      rw [Ent.view_ro] at hro; cases hro
/-- What it leaves: its own entries M', and those that it did not get to write. -/
theorem St.leave (h : St F w0 M w) (is js : List Nat) (hl : (is ++ js).all (fun i => Nat.blt i M.length) = true) (hn : nodupB (is ++ js) = true) (hw : (picks M is).all (fun e => !e.ro) = true)
    (hpost : St (blks (picks M is)) w M' w') (hro : M'.all (fun e => !e.ro) = true) : St F w0 (M' ++ picks M js) w' := by
  have hp := h.pick (is ++ js) hl hn
  have hpa : ∀ (a b : List Nat), picks M (a ++ b) = picks M a ++ picks M b := by
    intro a b; induction a with
    | nil => rfl
    | cons x a ih => simp [picks, ih]
  rw [hpa] at hp
  have hG : ∀ g ∈ blks (picks M is), g ∈ F ∨ w0.heap.size ≤ g := by
    intro g hg
    obtain ⟨e, he, hb⟩ := List.mem_filterMap.1 hg
    have := List.all_eq_true.1 hw e he
    exact hp.own e (List.mem_append_left _ he) (by simpa using this) g hb
  have hfar : ∀ e ∈ picks M js, ∀ g, e.blk? = some g → g ∉ blks (picks M is) := by
    intro e he g hg hin
    obtain ⟨x, hx, hb⟩ := List.mem_filterMap.1 hin
    obtain ⟨i, hi⟩ := List.getElem?_of_mem hx
    obtain ⟨j, hj⟩ := List.getElem?_of_mem he
    have hilt : i < (picks M is).length := by
      rcases Nat.lt_or_ge i (picks M is).length with h1 | h1
      · exact h1
      · rw [List.getElem?_eq_none h1] at hi; cases hi
    have hap := hp.ap i ((picks M is).length + j) x e (by omega) (by rw [List.getElem?_append_left hilt]; exact hi) (by rw [List.getElem?_append_right (by omega), Nat.add_sub_cancel_left]; exact hj)
    have hxw := List.all_eq_true.1 hw x hx
    rcases hap with h1 | h1 | h1 | h1
    · simp only [Bool.and_eq_true] at h1
      rw [h1.1] at hxw; cases hxw
    · rw [h1] at hb; cases hb
    · rw [h1] at hg; cases hg
    · exact h1 (by rw [hb, hg])
  have hold : ∀ e ∈ picks M js, ∀ g, e.blk? = some g → g < w.heap.size := fun e he g hg => Ent.ok_lt (hp.ok e (List.mem_append_right _ he)) hg
  have hokj : ∀ e ∈ picks M js, e.ok w' := fun e he =>
    Ent.ok_keep (hp.ok e (List.mem_append_right _ he)) hpost.kp.size fun g hg => hpost.kp.block g (hold e he g hg) (hfar e he g hg)
  have hmix : ∀ a ∈ M', ∀ b ∈ picks M js, a.apart b := by
    intro a ha b hb
    have har := List.all_eq_true.1 hro a ha
    cases hx : a.blk? with
    | none => exact .inr (.inl hx)
    | some g =>
      cases hy : b.blk? with
      | none => exact .inr (.inr (.inl hy))
      | some g' =>
        refine .inr (.inr (.inr ?_))
        rw [hx, hy]
        intro he; injection he with he; subst he
        rcases hpost.own a ha (by simpa using har) g hx with h1 | h1
        · exact hfar b hb g hy h1
        · have := hold b hb g hy; omega
  refine ⟨h.kp.step hpost.kp hG, fun e he => ?_, fun i j a b hij ha hb => ?_, fun e he hro' g hg => ?_⟩
  · rcases List.mem_append.1 he with h1 | h1
    · exact hpost.ok e h1
    · exact hokj e h1
  · by_cases hi : i < M'.length
    · rw [List.getElem?_append_left hi] at ha
      by_cases hj : j < M'.length
      · rw [List.getElem?_append_left hj] at hb
        exact hpost.ap i j a b hij ha hb
      · rw [List.getElem?_append_right (by omega)] at hb
        exact hmix a (mem_of_get ha) b (mem_of_get hb)
    · rw [List.getElem?_append_right (by omega)] at ha
      by_cases hj : j < M'.length
      · rw [List.getElem?_append_left hj] at hb
        exact Ent.apart_symm (hmix b (mem_of_get hb) a (mem_of_get ha))
      · rw [List.getElem?_append_right (by omega)] at hb
        exact hp.ap ((picks M is).length + (i - M'.length)) ((picks M is).length + (j - M'.length)) a b (by omega) (by rw [List.getElem?_append_right (by omega), Nat.add_sub_cancel_left]; exact ha) (by rw [List.getElem?_append_right (by omega), Nat.add_sub_cancel_left]; exact hb)
  · rcases List.mem_append.1 he with h1 | h1
    · rcases hpost.own e h1 hro' g hg with h2 | h2
      · exact hG g h2
      · exact .inr (Nat.le_trans h.kp.size h2)
    · exact hp.own e (List.mem_append_right _ h1) hro' g hg
variable {P : Program} {x y : Operand} {t t' ty : TypeId} {pos : String} {aft : Array Edge} {gd : Option (Nat × Bool)} {v : Value} {n : Nat} {f : Nat → Value} {K : Act → World → Prop} {Q : Exit → Act → World → Prop}
theorem ow_storeRs (h : St F w0 M w) (i : Nat) {g j s o m c sz : Nat} {t : TypeId} {xs : List Value} {ty' : TypeId} (hM : M[i]? = some (.row (.slice (some ⟨g, 0, none⟩) m c) t sz m xs)) (hz : (P.info? ty').map (·.size) = some 1) (hx : (act n f).eval x = .pointer (some ⟨g, 0 + j * s + o, none⟩)) (hy : (act n f).eval y = v) (h1 : v.oneCell' = true) (ho : j * s + o < xs.length)
    (hK : ∀ w', St F w0 (M.set i (.row (.slice (some ⟨g, 0, none⟩) m c) t sz m (xs.set (j * s + o) v))) w' → K (act n f) w') : OW P ⟨none, .store ty' x y, ty, pos, aft, gd⟩ (act n f) w K Q := by
  rw [Nat.add_assoc] at hx
  exact ow_storeR h i hM hz hx hy h1 ho hK
end
end Go.Proofs.Ytcobjneobdihkaa
/- The sizes and zero values of this program's types: closed facts. -/
namespace Go.Proofs.Ytcobjneobdihkaa
theorem ts_3 : (Try.prog.info? 3).map (·.size) = some 1 := by kernel_rfl
theorem ts_4 : (Try.prog.info? 4).map (·.size) = some 1 := by kernel_rfl
theorem tz_5 : (Try.prog.info? 5).map (fun i => (i.zero, i.size, i.bytes)) = some (some (.int .u8 0), 1, 1) := by kernel_rfl
theorem ts_5 : (Try.prog.info? 5).map (·.size) = some 1 := by kernel_rfl
theorem tz_22 : (Try.prog.info? 22).map (fun i => (i.zero, i.size, i.bytes)) = some (some (.slice none 0 0), 1, 24) := by kernel_rfl
theorem ts_22 : (Try.prog.info? 22).map (·.size) = some 1 := by kernel_rfl
theorem ts_24 : (Try.prog.info? 24).map (·.size) = some 1 := by kernel_rfl
theorem tz_26 : (Try.prog.info? 26).map (fun i => (i.zero, i.size, i.bytes)) = some (some (.agg #[.bool false, .int .u64 0, .int .u64 0]), 3, 24) := by kernel_rfl
theorem ts_26 : (Try.prog.info? 26).map (·.size) = some 3 := by kernel_rfl
theorem ts_27 : (Try.prog.info? 27).map (·.size) = some 1 := by kernel_rfl
theorem tz_29 : (Try.prog.info? 29).map (fun i => (i.zero, i.size, i.bytes)) = some (some (.agg #[.bool false, .int .u64 0, .int .u64 0, .bool false, .int .u64 0, .int .u64 0, .int .u16 0, .int .u16 0, .int .u8 0]), 9, 56) := by kernel_rfl
theorem ts_29 : (Try.prog.info? 29).map (·.size) = some 9 := by kernel_rfl
theorem ts_30 : (Try.prog.info? 30).map (·.size) = some 1 := by kernel_rfl
theorem tz_32 : (Try.prog.info? 32).map (fun i => (i.zero, i.size, i.bytes)) = some (some (.agg #[.bool false, .int .u64 0, .int .u64 0, .bool false, .int .u64 0, .int .u64 0, .int .u16 0, .int .u16 0, .int .u8 0, .int .u32 0, .bool false]), 11, 64) := by kernel_rfl
theorem ts_32 : (Try.prog.info? 32).map (·.size) = some 11 := by kernel_rfl
theorem tz_40 : (Try.prog.info? 40).map (fun i => (i.zero, i.size, i.bytes)) = some (some (.agg #[.int .u16 0, .int .u16 0, .int .u32 0, .int .u32 0, .int .u8 0, .int .u16 0, .int .u16 0, .int .u16 0, .slice none 0 0, .slice none 0 0]), 10, 72) := by kernel_rfl
theorem ts_40 : (Try.prog.info? 40).map (·.size) = some 10 := by kernel_rfl
theorem tz_42 : (Try.prog.info? 42).map (fun i => (i.zero, i.size, i.bytes)) = some (some (.agg #[.int .u16 0, .int .u16 0, .int .u16 0, .slice none 0 0]), 4, 32) := by kernel_rfl
theorem ts_42 : (Try.prog.info? 42).map (·.size) = some 4 := by kernel_rfl
theorem tz_44 : (Try.prog.info? 44).map (fun i => (i.zero, i.size, i.bytes)) = some (some (.agg #[.int .u8 0, .int .u8 0, .int .u16 0, .int .u32 0, .slice none 0 0]), 5, 32) := by kernel_rfl
theorem ts_44 : (Try.prog.info? 44).map (·.size) = some 5 := by kernel_rfl
theorem tz_46 : (Try.prog.info? 46).map (fun i => (i.zero, i.size, i.bytes)) = some (some (.agg #[.bool false, .bool false, .int .u8 0, .bool false, .int .u64 0, .int .u64 0, .bool false, .int .u64 0, .int .u64 0, .int .u16 0, .int .u16 0, .int .u8 0, .int .u16 0, .int .u16 0, .int .u32 0, .int .u32 0, .int .u8 0, .int .u16 0, .int .u16 0, .int .u16 0, .slice none 0 0, .slice none 0 0, .int .u16 0, .int .u16 0, .int .u16 0, .slice none 0 0, .int .u8 0, .int .u8 0, .int .u16 0, .int .u32 0, .slice none 0 0]), 31, 200) := by kernel_rfl
theorem ts_46 : (Try.prog.info? 46).map (·.size) = some 31 := by kernel_rfl
theorem tz_49 : (Try.prog.info? 49).map (fun i => (i.zero, i.size, i.bytes)) = some (some (.agg #[.int .u16 0, .int .u16 0, .int .u32 0, .int .u32 0, .int .u8 0, .int .u16 0, .int .u16 0, .int .u16 0, .slice none 0 0, .slice none 0 0]), 10, 72) := by kernel_rfl
theorem ts_49 : (Try.prog.info? 49).map (·.size) = some 10 := by kernel_rfl
theorem tz_50 : (Try.prog.info? 50).map (fun i => (i.zero, i.size, i.bytes)) = some (some (.agg #[.int .u16 0, .int .u16 0, .int .u16 0, .slice none 0 0]), 4, 32) := by kernel_rfl
theorem ts_50 : (Try.prog.info? 50).map (·.size) = some 4 := by kernel_rfl
theorem tz_51 : (Try.prog.info? 51).map (fun i => (i.zero, i.size, i.bytes)) = some (some (.agg #[.int .u8 0, .int .u8 0, .int .u16 0, .int .u32 0, .slice none 0 0]), 5, 32) := by kernel_rfl
theorem ts_51 : (Try.prog.info? 51).map (·.size) = some 5 := by kernel_rfl
theorem tz_53 : (Try.prog.info? 53).map (fun i => (i.zero, i.size, i.bytes)) = some (some (.agg #[.bool false, .bool false, .int .u8 0, .bool false, .int .u64 0, .int .u64 0, .bool false, .int .u64 0, .int .u64 0, .int .u16 0, .int .u16 0, .int .u8 0, .int .u16 0, .int .u16 0, .int .u32 0, .int .u32 0, .int .u8 0, .int .u16 0, .int .u16 0, .int .u16 0, .slice none 0 0, .slice none 0 0, .int .u16 0, .int .u16 0, .int .u16 0, .slice none 0 0, .int .u8 0, .int .u8 0, .int .u16 0, .int .u32 0, .slice none 0 0]), 31, 200) := by kernel_rfl
theorem ts_53 : (Try.prog.info? 53).map (·.size) = some 31 := by kernel_rfl
theorem tz_64 : (Try.prog.info? 64).map (fun i => (i.zero, i.size, i.bytes)) = some (some (.agg #[.int .u8 0, .int .i64 0, .int .u16 0, .bool false, .bool false, .int .i64 0, .int .u8 0, .int .u8 0, .int .u16 0, .bool false, .int .u64 0, .int .u64 0, .bool false, .int .u64 0, .int .u64 0, .slice none 0 0]), 16, 112) := by kernel_rfl
theorem ts_64 : (Try.prog.info? 64).map (·.size) = some 16 := by kernel_rfl
theorem tz_98 : (Try.prog.info? 98).map (fun i => (i.zero, i.size, i.bytes)) = some (some (.agg #[.int .u8 0, .int .u32 0, .int .i64 0, .int .u8 0, .int .u8 0, .bool false, .int .u64 0, .int .u64 0, .bool false, .int .u64 0, .int .u64 0]), 11, 72) := by kernel_rfl
theorem ts_98 : (Try.prog.info? 98).map (·.size) = some 11 := by kernel_rfl
theorem tz_102 : (Try.prog.info? 102).map (fun i => (i.zero, i.size, i.bytes)) = some (some (.agg #[.int .u8 0, .int .i64 0, .int .u16 0, .bool false, .bool false, .int .i64 0, .int .u8 0, .int .u8 0, .int .u16 0, .bool false, .int .u64 0, .int .u64 0, .bool false, .int .u64 0, .int .u64 0, .slice none 0 0]), 16, 112) := by kernel_rfl
theorem ts_102 : (Try.prog.info? 102).map (·.size) = some 16 := by kernel_rfl
theorem tz_132 : (Try.prog.info? 132).map (fun i => (i.zero, i.size, i.bytes)) = some (some (.agg #[.int .u8 0, .int .u32 0, .int .i64 0, .int .u8 0, .int .u8 0, .bool false, .int .u64 0, .int .u64 0, .bool false, .int .u64 0, .int .u64 0]), 11, 72) := by kernel_rfl
theorem ts_132 : (Try.prog.info? 132).map (·.size) = some 11 := by kernel_rfl
theorem mixed_ : Try.prog.follows .mixedOrders = true := by kernel_rfl
end Go.Proofs.Ytcobjneobdihkaa
/- Reading a law's arguments: slices of int. -/
namespace Go.Proofs.Ytcobjneobdihkaa
open Go.ChangeShapes Go.WideShapes Go.ChangeAt Go.RowKit
end Go.Proofs.Ytcobjneobdihkaa
/- The generic last step for a row whose law calls a function value. Conditions: none of its own. -/
namespace Go.Proofs.Ytcobjneobdihkaa
open Go.ChangeShapes Go.WideShapes Go.ChangeAt Go.RowKit
/-- A law's row, from its walk. -/
theorem law_saidW (uf rc : Bool) {pk : Bool} {s : ChangeSpec} {tb : TypeId} (fc : String) (f : FuncId) (fn : Func) (wargs : Array Value)
    (hfn : Try.pinned.checked.prog.funcNamed fc = some f) (hf : Try.pinned.checked.prog.funcs[f]? = some fn)
    (closed : joinedFacts Try.pinned.checked.prog f fn s { program := Try.pinned.name, sum := Try.pinned.sum, func := fc, spec := s.name, plainKeys := pk, apart := false, unfollowed := uf, recurses := rc } = true)
    (hinst : fn.isInstance Try.pinned.checked.prog "" []) (hwrap : fn.isWrapper Try.pinned.checked.prog false "")
    (noInit : Try.checked.prog.inits.idxOf? f = none)
    (hp : fn.params.toList.all (fun t => Try.checked.prog.readableRec t && decide (t < Try.checked.prog.types.size)) = true)
    (hr : fn.resultTypes = #[tb]) (hb : Try.checked.prog.underlying tb = some .bool) (hv : s.vars = [])
    (hs : ∀ (H : Type) (ds : List (DataW H)), ds.length = fn.params.toList.length → s.fn H ds = { results := [.lit (.bool true)], args := ds })
    (witness : ∀ (os : Os) (H : Type) (enc : TypeId × Value → H), ∃ (w : World) (tape : Tape) (i : Input), w.os = os ∧ (w.forCall tape i).Shaped Try.checked.prog ∧ i.vars = [] ∧ Input.okWide Try.checked.prog (w.forCall tape i) .any w.heap.size f i ∧
      s.pre6 enc Try.checked.prog fn [] false (w.forCall tape i).memory i.args ∧ ({} : Assume).holds Try.checked.prog (lone (Frame.enter Try.checked.prog f i.args .normal) [] (w.forCall tape i)))
    (walk : ∀ (H : Type) (enc : TypeId × Value → H) (W : World) (base : Nat) (args : Array Value) (ds : List (DataW H)) (ps : List MemPlace),
      (∀ (j : Nat) t v, fn.params[j]? = some t → args[j]? = some v → Value.okWide Try.prog W .any base t v) →
      DataW.TrodAll enc Try.prog W 0 (fun _ => true) true fn.params.toList args.toList ds ps →
      (∀ x ∈ ps, x.block < W.heap.size) → W.noneFrozen ps →
      (DataW.weightsEach Try.prog fn.params.toList ds).all (· ≤ reachBytes) = true →
      Calls Try.prog f args W fun e W' => e = .returned (.bool true) ∧ Below W.heap.size W W') :
    ({ program := Try.pinned.name, sum := Try.pinned.sum, func := fc, spec := s.name, plainKeys := pk, apart := false, unfollowed := uf, recurses := rc } : OpenClaim).holds Try.pinned (OpenSpec.ofChange s) :=
  OpenClaim.holds_of_wide f fn rfl rfl rfl rfl rfl rfl rfl ⟨rfl, rfl, rfl, rfl, rfl⟩ rfl rfl rfl rfl rfl hfn hf closed hinst hwrap
    (fun os started H enc _ => lift_law (C := Try.checked) own_ started noInit hf (witness os H enc) laidOut_ hp hr hb hv (hs H) (walk H enc))
end Go.Proofs.Ytcobjneobdihkaa
/- What the claims' closed facts ask of the program's own first word, read once as a list of characters (the kernel reads a long text too slowly). Conditions: none. -/
namespace Go.Proofs.Ytcobjneobdihkaa
open Go
set_option maxRecDepth 100000 in
theorem chars0_ : Try.pinned.checked.prog.initOrder.toByteArray = List.utf8Encode ['h', 'a', 'r', 'n', 'e', 's', 's', ' ', '4', '8', 'a', '1', 'c', 'f', '0', 'd', 'c', '9', 'f', '7', 'e', 'c', 'b', '8', 'c', 'a', '4', '2', '8', 'a', '4', 'f', '5', '4', '8', '9', 'b', '3', '8', 'b', 'c', '4', 'f', '9', '7', 'e', '8', 'a', '5', 'a', 'e', '9', 'd', '5', 'd', '1', 'c', 'e', 'f', '6', '2', 'e', 'f', '2', '5', '1', 'b', '2', '1', '9', 'a', 'b', ' ', 'c', 'u', 't', ' ', 'a', 't', ' ', 'c', 'o', 'u', 'n', 't', 'e', 'r', 'f', 'o', 'i', 'l', '/', 'c', 'o', 'u', 'n', 't', 'e', 'r', 'f', 'o', 'i', 'l', 'l', 'a', 'w', '2', '9', '.', 'S', 't', 'e', 'e', 'r', 'R', 'e', 'a', 'd', 's', ' ', 'c', 'o', 'u', 'n', 't', 'e', 'r', 'f', 'o', 'i', 'l', '/', 'c', 'o', 'u', 'n', 't', 'e', 'r', 'f', 'o', 'i', 'l', 'l', 'a', 'w', '2', '9', '.', 'S', 't', 'e', 'e', 'r', 'W', 'h', 'o', 'l', 'e'] := by kernel_rfl
set_option maxRecDepth 100000 in
theorem chars_ : Try.pinned.checked.prog.initOrder.toList = ['h', 'a', 'r', 'n', 'e', 's', 's', ' ', '4', '8', 'a', '1', 'c', 'f', '0', 'd', 'c', '9', 'f', '7', 'e', 'c', 'b', '8', 'c', 'a', '4', '2', '8', 'a', '4', 'f', '5', '4', '8', '9', 'b', '3', '8', 'b', 'c', '4', 'f', '9', '7', 'e', '8', 'a', '5', 'a', 'e', '9', 'd', '5', 'd', '1', 'c', 'e', 'f', '6', '2', 'e', 'f', '2', '5', '1', 'b', '2', '1', '9', 'a', 'b', ' ', 'c', 'u', 't', ' ', 'a', 't', ' ', 'c', 'o', 'u', 'n', 't', 'e', 'r', 'f', 'o', 'i', 'l', '/', 'c', 'o', 'u', 'n', 't', 'e', 'r', 'f', 'o', 'i', 'l', 'l', 'a', 'w', '2', '9', '.', 'S', 't', 'e', 'e', 'r', 'R', 'e', 'a', 'd', 's', ' ', 'c', 'o', 'u', 'n', 't', 'e', 'r', 'f', 'o', 'i', 'l', '/', 'c', 'o', 'u', 'n', 't', 'e', 'r', 'f', 'o', 'i', 'l', 'l', 'a', 'w', '2', '9', '.', 'S', 't', 'e', 'e', 'r', 'W', 'h', 'o', 'l', 'e'] := by
  rw [String.toByteArray_inj.1 (chars0_.trans String.toByteArray_ofList.symm), String.toList_ofList]
def rest_ : List (List Char) := (behindMainWord (wordsSigns ['h', 'a', 'r', 'n', 'e', 's', 's', ' ', '4', '8', 'a', '1', 'c', 'f', '0', 'd', 'c', '9', 'f', '7', 'e', 'c', 'b', '8', 'c', 'a', '4', '2', '8', 'a', '4', 'f', '5', '4', '8', '9', 'b', '3', '8', 'b', 'c', '4', 'f', '9', '7', 'e', '8', 'a', '5', 'a', 'e', '9', 'd', '5', 'd', '1', 'c', 'e', 'f', '6', '2', 'e', 'f', '2', '5', '1', 'b', '2', '1', '9', 'a', 'b', ' ', 'c', 'u', 't', ' ', 'a', 't', ' ', 'c', 'o', 'u', 'n', 't', 'e', 'r', 'f', 'o', 'i', 'l', '/', 'c', 'o', 'u', 'n', 't', 'e', 'r', 'f', 'o', 'i', 'l', 'l', 'a', 'w', '2', '9', '.', 'S', 't', 'e', 'e', 'r', 'R', 'e', 'a', 'd', 's', ' ', 'c', 'o', 'u', 'n', 't', 'e', 'r', 'f', 'o', 'i', 'l', '/', 'c', 'o', 'u', 'n', 't', 'e', 'r', 'f', 'o', 'i', 'l', 'l', 'a', 'w', '2', '9', '.', 'S', 't', 'e', 'e', 'r', 'W', 'h', 'o', 'l', 'e'])).tail
set_option maxRecDepth 100000 in
theorem words_ : behindMainWord (wordsSigns Try.pinned.checked.prog.initOrder.toList) = ['c', 'u', 't'] :: rest_ := by rw [chars_]; kernel_rfl
set_option maxRecDepth 100000 in
theorem strip_ (r : List (List Char)) : stripLifts liftWords (['c', 'u', 't'] :: r) = ([], ['c', 'u', 't'] :: r) := by kernel_rfl
set_option maxRecDepth 100000 in
theorem later_ : Try.pinned.checked.prog.laysLater = false := by kernel_rfl
set_option maxRecDepth 100000 in
theorem bears_ : Try.pinned.checked.prog.bearsReflect = false := by kernel_rfl
set_option maxRecDepth 100000 in
theorem door_ : Try.pinned.checked.prog.doorFits [] = true := by kernel_rfl
theorem enter_of (P : Program) (r : List (List Char)) (h : behindMainWord (wordsSigns P.initOrder.toList) = ['c', 'u', 't'] :: r) (l : P.laysLater = false) (b : P.bearsReflect = false) (d : P.doorFits [] = true) : P.mayEnter = true := by
  unfold Program.mayEnter
  rw [h]
  simp only [strip_, l, b, d]
  kernel_rfl
theorem lifts_of (P : Program) (r : List (List Char)) (h : behindMainWord (wordsSigns P.initOrder.toList) = ['c', 'u', 't'] :: r) : P.liftsFinal = false := by
  unfold Program.liftsFinal Program.headLifts
  rw [h, strip_]
  kernel_rfl
theorem make_of (P : Program) (r : List (List Char)) (h : behindMainWord (wordsSigns P.initOrder.toList) = ['c', 'u', 't'] :: r) : P.make = some .cut := by
  unfold Program.make
  rw [h]
  kernel_rfl
theorem enter_ : Try.pinned.checked.prog.mayEnter = true := enter_of _ _ words_ later_ bears_ door_
theorem lifts_ : Try.pinned.checked.prog.liftsFinal = false := lifts_of _ _ words_
theorem make_ : Try.pinned.checked.prog.make = some .cut := make_of _ _ words_
end Go.Proofs.Ytcobjneobdihkaa
/- The engine's sixth part: rows of bytes: copies, views of parts, strings. Any program. -/
namespace Go.Proofs.Ytcobjneobdihkaa
open Go.RowKit

section
variable {F : List Nat} {w0 w w' : World} {M : List Ent} {e : Ent} {i : Nat}
/-- The same memory, written otherwise. -/
theorem St.nm {M' : List Ent} (h : St F w0 M w) (e : M = M') : St F w0 M' w := e ▸ h
/-- From here on nothing writes it. -/
theorem St.freeze (h : St F w0 M w) (i : Nat) (hM : M[i]? = some e) : St F w0 (M.set i e.view) w := by
  have hget : ∀ (j : Nat) (b : Ent), (M.set i e.view)[j]? = some b → ∃ b', M[j]? = some b' ∧ (b = b' ∨ b = b'.view) := by
    intro j b hj
    rw [List.getElem?_set] at hj
    split at hj
    · next hij =>
      subst hij
      split at hj
      · injection hj with hj; exact ⟨e, hM, .inr hj.symm⟩
      · cases hj
    · exact ⟨b, hj, .inl rfl⟩
  refine ⟨h.kp, fun x hx => ?_, fun p q a b hpq ha hb => ?_, fun x hx hro g hg => ?_⟩
  · obtain ⟨j, hj⟩ := List.getElem?_of_mem hx
    obtain ⟨b', hb', rfl | rfl⟩ := hget j x hj
    · exact h.ok _ (mem_of_get hb')
    · exact Ent.view_ok (h.ok _ (mem_of_get hb'))
  · obtain ⟨a', ha', ra⟩ := hget p a ha
    obtain ⟨b', hb', rb⟩ := hget q b hb
    have hblk : ∀ (x y : Ent), (x = y ∨ x = y.view) → ∀ g, x.blk? = some g → y.blk? = some g := by
      rintro x y (rfl | rfl) g hg
      · exact hg
      · exact Ent.view_blk hg
    have hro : ∀ (x y : Ent), (x = y ∨ x = y.view) → y.ro = true → x.ro = true := by
      rintro x y (rfl | rfl) hg
      · exact hg
      · exact Ent.view_ro y
    rcases h.ap p q a' b' hpq ha' hb' with h1 | h1 | h1 | h1
    · simp only [Bool.and_eq_true] at h1
      exact .inl (by rw [hro a a' ra h1.1, hro b b' rb h1.2]; rfl)
    · cases hx : a.blk? with
      | none => exact .inr (.inl hx)
      | some g => rw [hblk a a' ra g hx] at h1; cases h1
    · cases hx : b.blk? with
      | none => exact .inr (.inr (.inl hx))
      | some g => rw [hblk b b' rb g hx] at h1; cases h1
    · cases hx : a.blk? with
      | none => exact .inr (.inl hx)
      | some g =>
        cases hy : b.blk? with
        | none => exact .inr (.inr (.inl hy))
        | some g' =>
          rw [hblk a a' ra g hx, hblk b b' rb g' hy] at h1
          exact .inr (.inr (.inr (by rw [hx, hy]; exact h1)))
  · obtain ⟨j, hj⟩ := List.getElem?_of_mem hx
    obtain ⟨b', hb', rfl | rfl⟩ := hget j x hj
    · exact h.own _ (mem_of_get hb') hro g hg
    · rw [Ent.view_ro] at hro; cases hro
/-- A part of what is only read. -/
theorem St.subv (h : St F w0 M w) (i : Nat) {A A' : Option Addr} {xs xs' : List Value} (hM : M[i]? = some (.vw A xs)) (hv : View w w.heap.size A' xs') (hb : ∀ g, (Ent.vw A' xs').blk? = some g → (Ent.vw A xs).blk? = some g) : St F w0 (.vw A' xs' :: M) w := by
  refine h.addv hv fun e' he' => ?_
  obtain ⟨j, hj⟩ := List.getElem?_of_mem he'
  by_cases hij : j = i
  · subst hij
    rw [hM] at hj; injection hj with hj; subst hj
    exact .inl rfl
  · rcases h.ap i j _ e' (fun x => hij x.symm) hM hj with h1 | h1 | h1 | h1
    · exact .inl h1
    · refine .inr (.inl ?_)
      cases hx : (Ent.vw A' xs').blk? with
      | none => rfl
      | some g => rw [hb g hx] at h1; cases h1
    · exact .inr (.inr (.inl h1))
    · cases hx : (Ent.vw A' xs').blk? with
      | none => exact .inr (.inl hx)
      | some g => exact .inr (.inr (.inr (by rw [hx, ← hb g hx]; exact h1)))
theorem nodupB_of {l : List Nat} (h : l.Nodup) : nodupB l = true := by
  induction l with
  | nil => rfl
  | cons a l ih =>
    rw [List.nodup_cons] at h
    simp only [nodupB, Bool.and_eq_true, Bool.not_eq_true']
    refine ⟨?_, ih h.2⟩
    cases hx : l.elem a with
    | false => rfl
    | true => exact absurd (List.mem_of_elem_eq_true hx) h.1
theorem picks_map (M : List Ent) (l : List Nat) : picks M l = l.map (fun i => M.getD i default) := by
  induction l with
  | nil => rfl
  | cons a l ih => simp only [picks, List.map_cons, ih]
theorem picks_all (M : List Ent) : picks M (List.range M.length) = M := by
  rw [picks_map]
  apply List.ext_getElem
  · simp
  · intro i h1 h2
    simp [h2]
/-- All that a call has made. -/
theorem St.adds {M2 : List Ent} (h : St F w0 M w) (h2 : St [] w M2 w') (hro : M2.all (fun e => !e.ro) = true) : St F w0 (M2 ++ M) w' := by
  have := h.leave [] (List.range M.length) (by simp [List.all_eq_true, Nat.blt_eq]) (nodupB_of List.nodup_range) rfl h2 hro
  rwa [picks_all] at this
/-- An entry turns by a call that wrote it alone. -/
theorem St.turn {e' : Ent} (h : St F w0 M w) (i : Nat) (hM : M[i]? = some e) (hro : e.ro = false) (hpost : St (blks [e]) w [e'] w') (hro' : e'.ro = false) : St F w0 (M.set i e') w' := by
  have hb : blks [e] = e.blk?.toList := by cases hx : e.blk? <;> simp [blks, hx]
  refine h.set_ hM hro (by rw [← hb]; exact hpost.kp) (hpost.ok e' (by simp)) hro' fun g hg => ?_
  rcases hpost.own e' (by simp) hro' g hg with h1 | h1
  · rw [hb] at h1
    exact .inl (by simpa using h1)
  · exact .inr h1
theorem cutA_map {A : Option Addr} {lo m sz : Nat} : (cutA A lo m sz).map (·.block) = A.map (·.block) := by
  unfold cutA
  split
  · rfl
  · cases A with
    | none => rfl
    | some a => simp [Addr.add]; split <;> rfl
theorem vw_blk {A A' : Option Addr} {xs xs' : List Value} (hA : A'.map (·.block) = A.map (·.block)) (hx : xs' ≠ [] → xs ≠ []) (g : Nat) (h : (Ent.vw A' xs').blk? = some g) : (Ent.vw A xs).blk? = some g := by
  cases xs' with
  | nil => cases h
  | cons x l =>
    cases xs with
    | nil => exact absurd rfl (hx (by simp))
    | cons y l' => simp only [Ent.blk?] at h ⊢; rw [← hA]; exact h
theorem View.cutA {w : World} {B : Nat} {A : Option Addr} {xs : List Value} {c : Nat} (h : View w B A xs) (hc : xs.length ≤ c) (lo k : Nat) : View w B (cutA A lo c 1) ((xs.drop lo).take k) := by
  have := (h.cut (k := lo) hc).take k
  unfold Go.Proofs.Ytcobjneobdihkaa.cutA
  rw [Nat.mul_one]
  exact this
theorem St.cutb (h : St F w0 M w) (i : Nat) (lo k : Nat) {A : Option Addr} {c : Nat} {l : List Nat} (hM : M[i]? = some (.vw A (l.map u8v))) (hc : l.length ≤ c) : St F w0 (.vw (cutA A lo c 1) (((l.drop lo).take k).map u8v) :: M) w := by
  have hv : View w w.heap.size A (l.map u8v) := h.ok _ (mem_of_get hM)
  have h2 := hv.cutA (c := c) (by simpa using hc) lo k
  rw [← List.map_drop, ← List.map_take] at h2
  refine h.subv i hM h2 fun g hg => vw_blk cutA_map (fun hx => ?_) g hg
  rintro h0
  rw [List.map_eq_nil_iff] at h0
  subst h0
  simp at hx
theorem cutb_drop {l : List Nat} {lo : Nat} : (l.drop lo).take (l.length - lo) = l.drop lo := by
  rw [List.take_of_length_le]; simp
theorem St.dropb (h : St F w0 M w) (i : Nat) (lo : Nat) {A : Option Addr} {c : Nat} {l : List Nat} (hM : M[i]? = some (.vw A (l.map u8v))) (hc : l.length ≤ c) : St F w0 (.vw (cutA A lo c 1) ((l.drop lo).map u8v) :: M) w := by
  have := h.cutb i lo (l.length - lo) hM hc
  rwa [cutb_drop] at this
end

section
variable {F : List Nat} {w0 w w' : World} {M : List Ent} {P : Program} {a : Act} {x y : Operand} {d : Nat} {t t' ty : TypeId} {pos : String} {aft : Array Edge} {gd : Option (Nat × Bool)} {v : Value} {n : Nat} {f : Nat → Value} {K : Act → World → Prop} {Q : Exit → Act → World → Prop}
theorem run_copyE {g o dl dc sl sc : Nat} {t : TypeId} {S D : Option Addr} {cur cs : List Value} {dT sT elem : TypeId} {B : Nat} (hA : Arr w g t cur) (hu : P.underlying dT = some (.slice elem)) (hsz : (P.info? elem).map (·.size) = some 1) (hsrc : View w B S cs) (hn : cs.length = min sl dl)
    (hD : 0 < cs.length → D = some ⟨g, o, none⟩) (hfit : o + cs.length ≤ cur.length) (h1 : ∀ v ∈ cs, v.oneCell' = true) :
    ∃ w', (Builtin.copy_ #[dT, sT] ty #[.slice D dl dc, .slice S sl sc]).run P w = .ok (goInt cs.length) w' ∧ Arr w' g t (splice cur o cs) ∧ Kp [g] w w' := by
  by_cases h0 : cs.length = 0
  · obtain rfl : cs = [] := List.eq_nil_of_length_eq_zero h0
    refine ⟨w, ?_, ?_, Kp.refl _ _⟩
    · exact run_copy_none (P := P) w dT sT ty elem D S dl dc sl sc hu hsz hn.symm
    · have e : splice cur o [] = cur := by simp [splice]
      rw [e]; exact hA
  · obtain rfl := hD (by omega)
    obtain ⟨b, o', rfl, _, hc⟩ := hsrc (by intro e; subst e; simp at h0)
    have hrun := run_copy_row (P := P) w dT sT ty elem g o dl dc ⟨b, o', none⟩ sl sc cur.toArray t cs hu hsz hA hn (fun j v hj => by rw [add_mk]; exact hc j v hj) (by simpa using hfit) h1
    refine ⟨_, hrun, ?_, Kp.setRow w g _⟩
    show _ = _
    simpa [splice] using setRow_heap w g _ _ t _ hA
theorem ow_copyE {dst : Option Tmp} {g o dl dc sl sc : Nat} {t : TypeId} {S D : Option Addr} {cur cs : List Value} {dT sT elem : TypeId} {B : Nat} (hA : Arr w g t cur) (hu : P.underlying dT = some (.slice elem)) (hsz : (P.info? elem).map (·.size) = some 1) (hx : a.eval x = .slice D dl dc) (hy : a.eval y = .slice S sl sc) (hsrc : View w B S cs) (hn : cs.length = min sl dl)
    (hD : 0 < cs.length → D = some ⟨g, o, none⟩) (hfit : o + cs.length ≤ cur.length) (h1 : ∀ v ∈ cs, v.oneCell' = true)
    (hK : ∀ w', Arr w' g t (splice cur o cs) → Kp [g] w w' → K (a.put dst (.int .i64 (cs.length : Int))) w') : OW P ⟨dst, .call { callee := .builtin .copy, args := #[x, y], argTypes := #[dT, sT] }, ty, pos, aft, gd⟩ a w K Q := by
  refine ⟨?_⟩
  obtain ⟨w', hr, hA', hk⟩ := run_copyE (P := P) (ty := ty) (dT := dT) (sT := sT) (dc := dc) (sc := sc) hA hu hsz hsrc hn hD hfit h1
  unfold Oper.wp execOp
  simp only [resolve, invoke, builtin, Sem.run_bind, Sem.run_pure, Result.andThen_ok, List.map_toArray, List.map_cons, List.map_nil, hx, hy, hr, Oper.upon]
  exact hK w' hA' hk
theorem rowArr {g m c : Nat} {t : TypeId} {s : Nat} {xs : List Value} (h : w.ownsRow 0 t s (.slice (some ⟨g, 0, none⟩) m c) m xs) : ∃ cur : List Value, Arr w g t cur ∧ cur.take xs.length = xs ∧ xs.length ≤ cur.length ∧
    ∀ w' (cs : List Value) (o : Nat), o + cs.length ≤ xs.length → Arr w' g t (splice cur o cs) → w'.ownsRow 0 t s (.slice (some ⟨g, 0, none⟩) m c) m (splice xs o cs) := by
  obtain ⟨hl, ⟨h0, _⟩ | ⟨g', cap, cur, e0, hb, hg, hnc, hcm, hcs, htk⟩⟩ := h
  · cases h0
  · injection e0 with e1 e2 e3
    injection e1 with e1
    injection e1 with e1
    subst e1; subst e3
    have hxl : xs.length ≤ cur.size := by rw [← htk]; simp; omega
    refine ⟨cur.toList, hg, by rw [hl]; exact htk, by simpa using hxl, fun w' cs o ho hA => ?_⟩
    have hlen : (splice xs o cs).length = xs.length := length_splice _ _ _ ho
    refine ⟨by rw [hlen]; exact hl, .inr ⟨g, c, (splice cur.toList o cs).toArray, rfl, Nat.zero_le _, hA, hnc, hcm, ?_, ?_⟩⟩
    · simp only [List.size_toArray]
      rw [length_splice _ _ _ (by simpa using (by omega : o + cs.length ≤ cur.size))]
      simpa using hcs
    · have hml : m * s = xs.length := hl.symm
      rw [hml] at htk ⊢
      have hcx : cur.toList = xs ++ cur.toList.drop xs.length := by
        conv => lhs; rw [← List.take_append_drop xs.length cur.toList, htk]
      rw [hcx]
      generalize cur.toList.drop xs.length = tl
      show (splice (xs ++ tl) o cs).take xs.length = splice xs o cs
      have h1 : splice (xs ++ tl) o cs = splice xs o cs ++ tl := by
        unfold splice
        rw [List.take_append_of_le_length (by omega), List.drop_append_of_le_length (by omega)]
        simp only [List.append_assoc]
      rw [h1, List.take_append_of_le_length (by omega), List.take_of_length_le (by omega)]
/-- A copy into a row of the call's own. -/
theorem ow_copyR (h : St F w0 M w) (i : Nat) {g m c s o dl dc sl sc : Nat} {t : TypeId} {S D : Option Addr} {xs cs : List Value} {dT sT elem : TypeId} (hM : M[i]? = some (.row (.slice (some ⟨g, 0, none⟩) m c) t s m xs)) (hu : P.underlying dT = some (.slice elem)) (hsz : (P.info? elem).map (·.size) = some 1) (hx : (act n f).eval x = .slice D dl dc) (hy : (act n f).eval y = .slice S sl sc) (hsrc : View w w.heap.size S cs) (hn : cs.length = min sl dl)
    (hD : 0 < cs.length → D = some ⟨g, 0 + o, none⟩) (hfit : o + cs.length ≤ xs.length) (h1 : ∀ v ∈ cs, v.oneCell' = true)
    (hK : ∀ w', St F w0 (M.set i (.row (.slice (some ⟨g, 0, none⟩) m c) t s m (splice xs o cs))) w' → K (act n (upd f d (.int .i64 (cs.length : Int)))) w') : OW P ⟨some d, .call { callee := .builtin .copy, args := #[x, y], argTypes := #[dT, sT] }, ty, pos, aft, gd⟩ (act n f) w K Q := by
  obtain ⟨cur, hA, htk, hle, hback⟩ := rowArr (h.ok _ (mem_of_get hM))
  refine ow_copyE hA hu hsz hx hy hsrc hn (o := o) (fun h0 => by rw [hD h0, Nat.zero_add]) (by omega) h1 fun w' hA' hk => ?_
  rw [act_put]
  exact hK w' (h.set_ hM rfl hk (hback w' cs o hfit hA') rfl fun g' hg => .inl hg)
end

section
variable {P : Program} {a : Act} {w : World} {x y : Operand} {d : Option Tmp} {t t' ty : TypeId} {pos : String} {aft : Array Edge} {g : Option (Nat × Bool)} {v u : Value}
end

section
variable {F : List Nat} {w0 w w' : World} {M : List Ent}
theorem row_cap {w : World} {A : Option Addr} {e : TypeId} {sz m n c : Nat} {xs : List Value} (h : w.ownsRow 0 e sz (.slice A m c) n xs) (h1 : 0 < sz) : m ≤ c := by
  rcases h.2 with ⟨e0, h0⟩ | ⟨g, cap, cur, e0, h2, h3, h4, _⟩
  · injection e0 with _ e1 e2; omega
  · injection e0 with e1 e2 e3; omega
end
/-! ### parts of rows, by their distance -/
/-- The address A lies p cells behind A0, where any of the n cells is left. -/
def Off (A0 : Option Addr) (p n : Nat) (A : Option Addr) : Prop := p < n → A = A0.map (·.add p)
theorem off_zero {A0 : Option Addr} {n : Nat} : Off A0 0 n A0 := fun _ => by
  cases A0 with
  | none => rfl
  | some a => simp [Addr.add]
theorem addr_add_add (a : Addr) (p k : Nat) : (a.add p).add k = a.add (p + k) := by
  obtain ⟨b, o, x⟩ := a
  unfold Addr.add
  by_cases h1 : p = 0
  · subst h1; simp
  · by_cases h2 : k = 0
    · subst h2; simp [h1]
    · simp [h1, h2, Nat.add_assoc]
theorem off_cut {A0 A : Option Addr} {p n k c : Nat} (h : Off A0 p n A) (hc : n - p ≤ c) : Off A0 (p + k) n (cutA A k c 1) := fun hlt => by
  rw [h (by omega)]
  unfold cutA
  rw [if_neg (by omega), Nat.mul_one]
  cases A0 with
  | none => rfl
  | some a => simp [addr_add_add]
theorem off_view {w : World} {B : Nat} {A0 A : Option Addr} {p n : Nat} {xs : List Value} (hv : View w B A0 xs) (hl : xs.length = n) (h : Off A0 p n A) (k : Nat) : View w B A ((xs.drop p).take k) := by
  by_cases hp : p < n
  · rw [h hp]
    have := (hv.cut (k := p) (c := p + n + 1) (by omega)).take k
    rw [if_neg (by omega)] at this
    exact this
  · rw [List.drop_eq_nil_of_le (by omega), List.take_nil]
    exact View.nil_
theorem off_blk {A0 A : Option Addr} {p n k : Nat} {xs : List Value} (hl : xs.length = n) (h : Off A0 p n A) (g : Nat) (hg : (Ent.vw A ((xs.drop p).take k)).blk? = some g) : (Ent.vw A0 xs).blk? = some g := by
  by_cases hp : p < n
  · rw [h hp] at hg
    refine vw_blk ?_ (fun hx => ?_) g hg
    · cases A0 with
      | none => rfl
      | some a => simp [Addr.add]; split <;> rfl
    · rintro rfl; simp at hx
  · rw [List.drop_eq_nil_of_le (by omega), List.take_nil] at hg; cases hg
/-- Seen, and newer than w. -/
def NewV (w w' : World) (A : Option Addr) (xs : List Value) : Prop := View w' w'.heap.size A xs ∧ ∀ g, (Ent.vw A xs).blk? = some g → w.heap.size ≤ g
section
variable {F : List Nat} {w0 w w' : World} {M : List Ent}
theorem St.addn (h : St F w0 M w) {A : Option Addr} {xs : List Value} (hk : Kp [] w w') (hn : NewV w w' A xs) : St F w0 (.vw A xs :: M) w' := by
  refine (h.kept hk).addv hn.1 fun e' he' => ?_
  cases hb : (Ent.vw A xs).blk? with
  | none => exact .inr (.inl hb)
  | some g =>
    cases hb' : e'.blk? with
    | none => exact .inr (.inr (.inl hb'))
    | some g' =>
      refine .inr (.inr (.inr ?_))
      rw [hb, hb']
      have h1 := hn.2 g hb
      have h2 := Ent.ok_lt (h.ok e' he') hb'
      intro he; injection he; omega
theorem St.offb (h : St F w0 M w) (i : Nat) {A0 A : Option Addr} {l : List Nat} {n p : Nat} (k : Nat) (hM : M[i]? = some (.vw A0 (l.map u8v))) (hl : l.length = n) (hA : Off A0 p n A) : St F w0 (.vw A (((l.drop p).take k).map u8v) :: M) w := by
  have hl' : (l.map u8v).length = n := by simpa using hl
  have h2 := off_view (h.ok _ (mem_of_get hM) : View w w.heap.size A0 (l.map u8v)) hl' hA k
  have h3 := off_blk (k := k) hl' hA
  rw [← List.map_drop, ← List.map_take] at h2 h3
  exact h.subv i hM h2 h3
theorem NewV.apart {A : Option Addr} {xs : List Value} (hn : NewV w w' A xs) (h : St F w0 M w) : ∀ e' ∈ M, (Ent.vw A xs).apart e' := fun e' he' => by
  cases hb : (Ent.vw A xs).blk? with
  | none => exact .inr (.inl hb)
  | some g =>
    cases hb' : e'.blk? with
    | none => exact .inr (.inr (.inl hb'))
    | some g' =>
      refine .inr (.inr (.inr ?_))
      rw [hb, hb']
      have h1 := hn.2 g hb
      have h2 := Ent.ok_lt (h.ok e' he') hb'
      intro he; injection he; omega
theorem St.addn2 (h : St F w0 M w) {A B : Option Addr} {xs ys : List Value} (hk : Kp [] w w') (hn : NewV w w' A xs) (hm : NewV w w' B ys) : St F w0 (.vw A xs :: .vw B ys :: M) w' := by
  refine (h.addn hk hm).addv hn.1 fun e' he' => ?_
  rcases List.mem_cons.1 he' with rfl | h1
  · exact .inl rfl
  · exact hn.apart h e' h1
theorem St.addn3 (h : St F w0 M w) {A B C : Option Addr} {xs ys zs : List Value} (hk : Kp [] w w') (hn : NewV w w' A xs) (hm : NewV w w' B ys) (hq : NewV w w' C zs) : St F w0 (.vw A xs :: .vw B ys :: .vw C zs :: M) w' := by
  refine (h.addn2 hk hm hq).addv hn.1 fun e' he' => ?_
  rcases List.mem_cons.1 he' with rfl | h1
  · exact .inl rfl
  · rcases List.mem_cons.1 h1 with rfl | h2
    · exact .inl rfl
    · exact hn.apart h e' h2
theorem NewV.nil_ (w w' : World) (A : Option Addr) : NewV w w' A [] := ⟨View.nil_, fun g hg => by cases hg⟩
theorem New.view {A : Option Addr} {e : TypeId} {sz m c : Nat} {xs : List Value} (h : New w w' (.row (.slice A m c) e sz m xs)) : NewV w w' A xs :=
  ⟨rowView h.1, fun g hg => h.2.2 g (Ent.view_blk (e := .row (.slice A m c) e sz m xs) hg)⟩
theorem NewV.off {A0 A : Option Addr} {xs : List Value} {n p : Nat} (h : NewV w w' A0 xs) (hl : xs.length = n) (hA : Off A0 p n A) (k : Nat) : NewV w w' A ((xs.drop p).take k) :=
  ⟨off_view h.1 hl hA k, fun g hg => h.2 g (off_blk hl hA g hg)⟩
theorem NewV.offb {A0 A : Option Addr} {l : List Nat} {n p : Nat} (h : NewV w w' A0 (l.map u8v)) (hl : l.length = n) (hA : Off A0 p n A) (k : Nat) : NewV w w' A (((l.drop p).take k).map u8v) := by
  have := NewV.off h (by simpa using hl) hA k
  rwa [← List.map_drop, ← List.map_take] at this
theorem NewV.back {w1 : World} {A : Option Addr} {xs : List Value} (h : NewV w w' A xs) (hk : Kp [] w1 w) : NewV w1 w' A xs := ⟨h.1, fun g hg => Nat.le_trans hk.size (h.2 g hg)⟩
/-- What the call itself has made is new. -/
theorem St.newv (h : St [] w0 M w) (i : Nat) {A : Option Addr} {e : TypeId} {sz m c : Nat} {xs : List Value} (hM : M[i]? = some (.row (.slice A m c) e sz m xs)) : NewV w0 w A xs := New.view (h.new i hM rfl)
end
section
variable {P : Program} {a : Act} {w : World} {x y : Operand} {d : Option Tmp} {t t' ty : TypeId} {pos : String} {aft : Array Edge} {g : Option (Nat × Bool)} {k k' : IntKind} {n j mx : Nat}
theorem x_sliceHM {s e : TypeId} {sz : Nat} {hi mo : Operand} {A : Option Addr} {c : Nat} (hs : P.underlying s = some (.slice e)) (hz : (P.info? e).map (·.size) = some sz) (hx : a.eval x = .slice A n c) (hh : a.eval hi = .int k (j : Int)) (hm : a.eval mo = .int k' (mx : Int)) (hb : j ≤ mx ∧ mx ≤ c) :
    (execOp a.eval ⟨d, .slice s x none (some hi) (some mo), ty, pos, aft, g⟩).run P w = .ok (.value (.slice A j mx)) w := by
  obtain ⟨ti, hi', hti⟩ : ∃ ti, P.info? e = some ti ∧ ti.size = sz := by
    cases h : P.info? e with
    | none => rw [h] at hz; cases hz
    | some ti => rw [h] at hz; exact ⟨ti, rfl, by simpa using hz⟩
  have h1 : ∀ w cd, (Instr.sliceBound (.int k (j : Int)) mx cd).run P w = .ok j w := fun w cd => run_bound rfl hb.1
  have h2 : ∀ w cd, (Instr.sliceBound (.int k' (mx : Int)) c cd).run P w = .ok mx w := fun w cd => run_bound rfl hb.2
  have e0 : (if mx = 0 then A else A.map (·.add 0)) = A := by
    split
    · rfl
    · cases A <;> simp [Addr.add]
  unfold execOp
  simp [hx, hh, hm, Instr.sliceAt, Instr.slice, Instr.sliceBounds, run_underlying hs, sizeOf, typeInfo, hi', hti, h1, h2, Addr.add]
end
/-! ### structs -/
section
variable {P : Program} {a : Act} {w : World} {x y : Operand} {d : Option Tmp} {t t' ty : TypeId} {pos : String} {aft : Array Edge} {g : Option (Nat × Bool)} {v u : Value}
def EqV (P : Program) (d : Nat) (t : TypeId) (x y : Value) (r : Bool) : Prop := ∀ w, (Op.equalIn d t x y).run P w = .ok r w
def FE (P : Program) (d : Nat) (xs ys : Array Value) (fs : List Field) (r : Bool) : Prop := ∀ w, (Op.eqFields d xs ys fs).run P w = .ok r w
theorem eqv_i {d : Nat} {k : IntKind} {m n : Int} (hu : P.underlying t = some (.int k)) : EqV P (d + 1) t (.int k m) (.int k n) (decide (m = n)) := fun w => by
  rw [run_equalIn_int w d t k k m n hu]
  congr 1
theorem eqv_b {d : Nat} {b c : Bool} (hu : P.underlying t = some .bool) : EqV P (d + 1) t (.bool b) (.bool c) (b == c) := fun w => run_equalIn_bool w d t b c hu
theorem fe_nil {d : Nat} {xs ys : Array Value} : FE P d xs ys [] true := fun w => by simp [Op.eqFields]
theorem fe_cons {d : Nat} {xs ys : Array Value} {f : Field} {fs : List Field} {p q : Value} {r r' : Bool} (hn : (f.name != "_") = true) (hp : ∀ w, (part f.type xs f.offset).run P w = .ok p w) (hq : ∀ w, (part f.type ys f.offset).run P w = .ok q w) (he : EqV P d f.type p q r) (h : FE P d xs ys fs r') : FE P d xs ys (f :: fs) (r && r') := fun w => by
  have hn' : f.name ≠ "_" := by simpa using hn
  simp only [Op.eqFields, Sem.run_bind, Sem.run_ite, hp, hq, he w, Result.andThen_ok]
  rw [if_pos hn']
  cases r
  · simp
  · simpa using h w
theorem pt_1 {l : List Value} {off : Nat} {ds : TypeDesc} (hu : P.underlying t = some ds) (hd : ds.isRow = false) (hv : l[off]? = some v) (w : World) : (part t l.toArray off).run P w = .ok v w := by
  have : l.toArray[off]? = some v := by simpa using hv
  cases ds <;> simp_all [TypeDesc.isRow, part, isAgg, run_underlying hu]
theorem pt_A {l cs : List Value} {off sz : Nat} {ds : TypeDesc} (hu : P.underlying t = some ds) (hd : ds.isRow = true) (hz : (P.info? t).map (·.size) = some sz) (hv : (l.drop off).take sz = cs) (w : World) : (part t l.toArray off).run P w = .ok (.agg cs.toArray) w := by
  obtain ⟨ti, hi, hti⟩ : ∃ ti, P.info? t = some ti ∧ ti.size = sz := by
    cases h : P.info? t with
    | none => rw [h] at hz; cases hz
    | some ti => rw [h] at hz; exact ⟨ti, rfl, by simpa using hz⟩
  have hx : (l.toArray.extract off (off + sz)) = cs.toArray := by
    rw [← hv, List.extract_toArray]
    simp [List.extract]
  cases ds <;> simp_all [TypeDesc.isRow, part, isAgg, run_underlying hu, sizeOf, typeInfo]
theorem eqv_A {d : Nat} {fs : Array Field} {l m : List Value} {r : Bool} (hu : P.underlying t = some (.struct fs)) (hp : P.stoodInHeld t = false) (h : FE P d l.toArray m.toArray fs.toList r) : EqV P (d + 1) t (.agg l.toArray) (.agg m.toArray) r := fun w => by
  have e : P.fieldsOf t = fs := by simp [Program.fieldsOf, hu]
  rw [run_equalIn_struct w d t _ _ (by rw [e]; exact hu) hp, e]
  exact h w
theorem x_Aeql {l m : List Value} {r : Bool} (hm : P.eqGuardType P.depth t = false) (hx : a.eval x = .agg l.toArray) (hy : a.eval y = .agg m.toArray) (he : EqV P 10000 t (.agg l.toArray) (.agg m.toArray) r) : (execOp a.eval ⟨d, .binOp .eql t x y t', ty, pos, aft, g⟩).run P w = .ok (.value (.bool r)) w :=
  x_eqv (.inl rfl) hx hy (fun w => run_eqGuard_agg w _ _ _ _ _ _ hm) fun w => by rw [run_eql_struct, he w]; rfl
theorem x_Aneq {l m : List Value} {r : Bool} (hm : P.eqGuardType P.depth t = false) (hx : a.eval x = .agg l.toArray) (hy : a.eval y = .agg m.toArray) (he : EqV P 10000 t (.agg l.toArray) (.agg m.toArray) r) : (execOp a.eval ⟨d, .binOp .neq t x y t', ty, pos, aft, g⟩).run P w = .ok (.value (.bool (!r))) w :=
  x_eqv (.inr rfl) hx hy (fun w => run_eqGuard_agg w _ _ _ _ _ _ hm) fun w => by rw [run_neq_struct, he w]; rfl
end
end Go.Proofs.Ytcobjneobdihkaa
/- Numbers in bytes, most significant byte first: mathematics only. -/
namespace Go.Proofs.Ytcobjneobdihkaa
open Go.RowKit

def be (n s : Nat) : List Nat := (List.range s).map fun i => n / 256 ^ (s - 1 - i) % 256
theorem be_length (n s : Nat) : (be n s).length = s := by simp [be]
theorem be_bytes (n s : Nat) : Bytes (be n s) := by
  intro x hx
  obtain ⟨i, _, rfl⟩ := List.mem_map.1 hx
  exact Nat.mod_lt _ (by omega)
theorem be_nth (N s k : Nat) (h : k < s) : nth (be N s) k = N / 256 ^ (s - 1 - k) % 256 := by
  unfold nth be
  rw [List.getD_eq_getElem?_getD, List.getElem?_map, List.getElem?_range h]; rfl
theorem nth_eq {l : List Nat} {k : Nat} (h : k < l.length) : l[k] = nth l k := by
  unfold nth; rw [List.getD_eq_getElem?_getD, List.getElem?_eq_getElem h]; rfl
theorem pow256 (k : Nat) : 2 ^ (8 * k) = 256 ^ k := by rw [Nat.pow_mul]
/-- A block that is filled from place p on: k of the numbers b are in. -/
def filled (p b : List Nat) (k : Nat) : List Nat := p ++ (b.take k ++ List.replicate (b.length - k) 0)
theorem filled_zero (p b : List Nat) : filled p b 0 = p ++ List.replicate b.length 0 := by simp [filled]
theorem filled_all (p b : List Nat) : filled p b b.length = p ++ b := by simp [filled]
theorem filled_length (p b : List Nat) (k : Nat) (h : k ≤ b.length) : (filled p b k).length = p.length + b.length := by simp [filled]; omega
theorem filled_set (p b : List Nat) (k : Nat) (h : k < b.length) : (filled p b k).set (p.length + k) (nth b k) = filled p b (k + 1) := by
  unfold filled
  rw [List.set_append_right _ _ (by omega), show p.length + k - p.length = k from by omega]
  congr 1
  have h1 : (b.take k).length = k := by simp; omega
  rw [List.set_append_right _ _ (by omega), h1, show k - k = 0 from by omega]
  obtain ⟨m, hm⟩ : ∃ m, b.length - k = m + 1 := ⟨b.length - k - 1, by omega⟩
  rw [hm, List.replicate_succ, List.set_cons_zero, show b.length - (k + 1) = m from by omega]
  rw [List.take_succ_eq_append_getElem h, List.append_assoc]
  congr 1
  rw [nth_eq h]; rfl
theorem map_set_u8v (l : List Nat) (i n : Nat) : (l.map u8v).set i (u8v n) = (l.set i n).map u8v := by rw [List.map_set]
theorem splice_fill (l b : List Nat) (n : Nat) (h : n = b.length) : splice (List.replicate (l.length + n) (Value.int .u8 0)) 0 (l.map u8v) = (filled l b 0).map u8v := by
  subst h
  simp [splice, filled_zero, u8v]
theorem splice_map (l b : List Nat) (o : Nat) : splice (l.map u8v) o (b.map u8v) = (splice l o b).map u8v := by
  simp [splice]
/-- A block that is filled from the end: the numbers from k on are in. -/
def filledDown (b : List Nat) (k : Nat) : List Nat := List.replicate k 0 ++ b.drop k
theorem filledDown_zero (b : List Nat) : filledDown b 0 = b := by simp [filledDown]
theorem filledDown_all (b : List Nat) : filledDown b b.length = List.replicate b.length 0 := by simp [filledDown]
theorem filledDown_length (b : List Nat) (k : Nat) (h : k ≤ b.length) : (filledDown b k).length = b.length := by simp [filledDown]; omega
theorem filledDown_set (b : List Nat) (j : Nat) (h : j < b.length) : (filledDown b (j + 1)).set j (nth b j) = filledDown b j := by
  unfold filledDown
  rw [List.set_append_left _ _ (by simp), List.replicate_succ', List.set_append_right _ _ (by simp)]
  simp only [List.length_replicate, Nat.sub_self, List.set_cons_zero, List.append_assoc, List.singleton_append]
  rw [List.drop_eq_getElem_cons h]
  congr 1
  rw [nth_eq h]

def numBE (l : List Nat) : Nat := l.foldl (fun a c => a * 256 + c) 0
theorem numBE_snoc (l : List Nat) (k : Nat) (h : k < l.length) : numBE (l.take (k + 1)) = numBE (l.take k) * 256 + nth l k := by
  unfold numBE
  rw [List.take_succ_eq_append_getElem h, List.foldl_append]
  simp only [List.foldl_cons, List.foldl_nil]
  rw [nth_eq h]
theorem numBE_lt {l : List Nat} (h : Bytes l) (k : Nat) (hk : k ≤ l.length) : numBE (l.take k) < 256 ^ k := by
  induction k with
  | zero => simp [numBE]
  | succ k ih =>
    rw [numBE_snoc l k (by omega), Nat.pow_succ]
    have := ih (by omega)
    have := nth_lt h k
    omega
theorem numBE_lt' {l : List Nat} (h : Bytes l) : numBE l < 256 ^ l.length := by
  have := numBE_lt h l.length (Nat.le_refl _)
  rwa [List.take_length] at this
theorem numBE_append (l m : List Nat) : numBE (l ++ m) = numBE l * 256 ^ m.length + numBE m := by
  unfold numBE
  rw [List.foldl_append]
  have : ∀ (m : List Nat) (a : Nat), m.foldl (fun a c => a * 256 + c) a = a * 256 ^ m.length + m.foldl (fun a c => a * 256 + c) 0 := by
    intro m
    induction m with
    | nil => intro a; simp
    | cons x m ih =>
      intro a
      rw [List.foldl_cons, ih, List.foldl_cons, ih (0 * 256 + x), List.length_cons, Nat.pow_succ, Nat.add_mul, Nat.zero_mul, Nat.zero_add]
      have : a * 256 * 256 ^ m.length = a * (256 ^ m.length * 256) := by rw [Nat.mul_assoc, Nat.mul_comm 256]
      omega
  exact this m _
theorem be_one (n : Nat) : be n 1 = [n % 256] := by simp [be]
end Go.Proofs.Ytcobjneobdihkaa
/- octet's Put and the reference's Bytes; bytes.Clone, by contract. Conditions: none but bounds. -/
namespace Go.Proofs.Ytcobjneobdihkaa
open Go.RowKit

set_option maxRecDepth 100000 in
set_option maxHeartbeats 4000000 in
theorem put_c (n : Nat) (A : Option Addr) (c : Nat) (l : List Nat) (N sz : Nat) (w0 : World) (hv : View w0 w0.heap.size A (l.map u8v)) (hl : l.length = n) (hn4 : n ≤ 1000000) (hN : N ≤ 18446744073709551615) (hz : sz ≤ 8) :
    Calls Try.prog 48 #[.slice A n c, .int .u64 (N : Int), .int .i64 (sz : Int)] w0 fun e w' => ∃ g, e = .returned (.slice (some ⟨g, 0, none⟩) (n + sz) (n + sz)) ∧ New w0 w' (.row (.slice (some ⟨g, 0, none⟩) (n + sz) (n + sz)) 5 1 (n + sz) ((l ++ be N sz).map u8v)) ∧ Kp [] w0 w' := by
  have hS := (St.sv w0).vcons rfl hv
  have hm1 : max sz 0 = sz := by omega
  have hm2 : min sz 8 = sz := by omega
  refine ent (n := 40) Try.func48 rfl rfl ?_
  refine wp_seq_k ?_; intro K1 hK1
  refine wlit ?_
  refine wl_v (x_assign ev_c) ?_
  refine wl_nil ?_
  refine then_n (hK1 _ _ ?_); clear hK1 K1
  refine wp_seq_k ?_; intro K2 hK2
  refine wlit ?_
  refine wl_v (x_move (tmI rfl rfl)) ?_
  refine wl_v (x_max (n := 0) (tmI rfl rfl) (ev_cN 0)) ?_
  refine wl_v (x_min (n := 8) (tmI rfl (congrArg (fun q : Nat => Value.int .i64 (q : Int)) hm1)) (ev_cN 8)) ?_
  refine wl_v (x_assign (tmI rfl (congrArg (fun q : Nat => Value.int .i64 (q : Int)) hm2))) ?_
  refine wl_nil ?_
  refine then_n (hK2 _ _ ?_); clear hK2 K2
  refine wp_seq_k ?_; intro K3 hK3
  refine wlit ?_
  refine wl_v (x_move (tmS rfl rfl)) ?_
  refine wl_v (x_len Try.underlying22 (tmS rfl rfl)) ?_
  refine wl_v (x_move (tmI rfl rfl)) ?_
  refine wl_v (x_addN (tmI rfl rfl) (tmI rfl rfl) (fit_i64 (by omega))) ?_
  refine wl_e rfl ?_; intro K hK
  refine ow_make hS Try.underlying22 tz_5 rfl (tmI rfl rfl) (tmI rfl rfl) rfl (by omega) (by simp only [maxLen]; omega) ?_
  clear hS; intro g2_4 w hg2_4 hS
  refine hK _ _ ?_; clear hK K
  refine wl_v (x_assign (tmS rfl rfl)) ?_
  refine wl_nil ?_
  refine then_n (hK3 _ _ ?_); clear hK3 K3
  refine wp_seq_k ?_; intro K4 hK4
  refine wlit ?_
  refine wl_v (x_move (tmS rfl rfl)) ?_
  refine wl_v (x_move (tmS rfl rfl)) ?_
  refine wl_e rfl ?_; intro K hK
  refine ow_copyR (o := 0) hS 0 rfl Try.underlying22 ts_5 (tmS rfl rfl) (tmS rfl rfl) (viewV hS.ok 1 rfl) (by first | rfl | (simp; done) | (simp; omega) | omega) (fun _ => by first | rfl | assumption | (simp only [Nat.add_zero]; rfl)) (by first | (simp; done) | (simp; omega) | omega) (u8v_one _) ?_
  clear hS; intro w hS
  refine hK _ _ ?_; clear hK K
  refine wl_nil ?_
  rw [← hl, splice_fill l (be N sz) sz (be_length _ _).symm] at hS
  refine then_n (hK4 _ _ ?_); clear hK4 K4
  refine wp_seq_k ?_; intro K5 hK5
  refine wp_seq_k ?_; intro K6 hK6
  refine wlit ?_
  refine wl_v (x_move (tmI rfl rfl)) ?_
  refine wl_v (x_move (ev_cN 0)) ?_
  refine wl_nil ?_
  refine then_n (hK6 _ _ ?_); clear hK6 K6
  refine wp_block ?_
  refine lp [8, 21, 22, 23, 24, 25, 26, 27, 28, 29, 30, 31, 32, 33, 34, 35, 36, 37, 38] (fun mz g w => ∃ (k : Nat), mz = sz - k ∧ g 21 = .int .i64 (k : Int) ∧ St [] w0 [.row (.slice (some ⟨g2_4, 0, none⟩) (n + sz) (n + sz)) 5 1 (n + sz) ((filled l (be N sz) k).map u8v), .vw A (l.map u8v)] w ∧ (k ≤ sz)) ?_ ?_
  · exact ⟨_, 0, rfl, (by first | rfl | go_num | exact congrArg (Value.int _) (by first | omega | (simp; done) | (simp; omega))), (by rw [hl] at hS; exact hS), (by omega)⟩
  · clear hS; intro mz g w hI
    obtain ⟨k, rfl, hs21, hS, hk⟩ := hI
    refine fr_know (d := 21) hs21 ?_; clear hs21
    refine wp_seq_k ?_; intro K7 hK7
    refine wlit ?_
    refine wl_v (x_lss (tmI rfl rfl) (tmI rfl rfl)) ?_
    refine wl_nil ?_
    refine then_n (hK7 _ _ ?_); clear hK7 K7
    refine wp_seq_k ?_; intro K8 hK8
    refine cnd (tm rfl) (fun hc0 => ?_) (fun hc0 => ?_)
    · skip
      try simp only [nrm] at hc0
      have hfl : (filled l (be N sz) k).length = n + sz := by rw [filled_length l (be N sz) k (by rw [be_length]; omega), be_length, hl]
      refine wp_skip ?_
      refine then_n (hK8 _ _ ?_); clear hK8 K8
      refine wp_seq_k ?_; intro K9 hK9
      refine wp_block ?_
      refine wp_seq_k ?_; intro K10 hK10
      refine wlit ?_
      refine wl_v (x_move (tmI rfl rfl)) ?_
      refine wl_v (x_assign (tmI rfl rfl)) ?_
      refine wl_nil ?_
      refine then_n (hK10 _ _ ?_); clear hK10 K10
      refine wlit ?_
      refine wl_v (x_move (tmS rfl rfl)) ?_
      refine wl_v (x_move (tmS rfl rfl)) ?_
      refine wl_v (x_len Try.underlying22 (tmS rfl rfl)) ?_
      refine wl_v (x_move (tmI rfl rfl)) ?_
      refine wl_v (x_addN (tmI rfl rfl) (tmI rfl rfl) (fit_i64 (by omega))) ?_
      refine wl_v (x_move (tmI rfl rfl)) ?_
      refine wl_v (x_move (tmI rfl rfl)) ?_
      refine wl_v (x_subN (tmI rfl rfl) (ev_cN 1) (fit_i64 (by omega)) (by omega)) ?_
      refine wl_v (x_move (tmI rfl rfl)) ?_
      refine wl_v (x_subN (tmI rfl rfl) (tmI rfl rfl) (fit_i64 (by omega)) (by omega)) ?_
      refine wl_v (x_mulN (ev_cN 8) (tmI rfl rfl) (fit_i64 (by omega))) ?_
      refine wl_v (x_shrN (tmI rfl rfl) (tmI rfl rfl) (fit_u64 (by omega))) ?_
      refine wl_v (x_convU Try.underlying24 Try.underlying5 (tmI rfl rfl) rfl) ?_
      refine wl_v (x_ixs1 Try.underlying22 ts_5 (tmS rfl rfl) (tmI rfl rfl) (by omega)) ?_
      refine wl_e rfl ?_; intro K hK
      refine ow_storeR hS 0 rfl ts_5 (tmP rfl rfl) (tmI rfl rfl) rfl (by first | omega | (simp; omega)) ?_
      clear hS; intro w hS
      refine hK _ _ ?_; clear hK K
      refine wl_nil ?_
      refine inb_n ?_
      refine then_n (hK9 _ _ ?_); clear hK9 K9
      refine wlit ?_
      refine wl_v (x_addN (tmI rfl rfl) (ev_cN 1) (fit_i64 (by omega))) ?_
      refine wl_v (x_move (tmI rfl rfl)) ?_
      refine wl_nil ?_
      have hx : ((filled l (be N sz) k).map u8v).set (n + k) (.int .u8 ((N / 2 ^ (8 * (sz - 1 - k)) % 2 ^ 8 : Nat) : Int)) = (filled l (be N sz) (k + 1)).map u8v := by rw [pow256, ← hl, ← filled_set l (be N sz) k (by rw [be_length]; omega), be_nth N sz k (by omega), ← map_set_u8v]; rfl
      exact then_n ⟨_, _, rfl, (by show _ < _; omega), (by repeat (first | exact agree_self | exact agree_refl | refine agree_upd rfl ?_ | refine agree_mix rfl ?_)), k + 1, rfl, (by first | rfl | go_num | exact congrArg (Value.int _) (by first | omega | (simp; done) | (simp; omega))), (by rw [← hx]; exact hS), (by omega)⟩
    try simp only [nrm] at hc0
    refine wp_exit ?_
    refine then_x ?_; clear hK8 K8
    refine then_x ?_
    refine inb_x ?_
    refine then_n (hK5 _ _ ?_); clear hK5 K5
    refine wp_seq_k ?_; intro K11 hK11
    refine wlit ?_
    refine wl_v (x_move (tmS rfl rfl)) ?_
    refine wl_v (x_assign (tmS rfl rfl)) ?_
    refine wl_nil ?_
    refine then_n (hK11 _ _ ?_); clear hK11 K11
    refine wp_ret ?_
    refine ret1 rfl (.tmp rfl (show _ = Value.slice _ _ _ from rfl)) ?_
    obtain rfl : sz = k := by omega
    have hf := filled_all l (be N sz)
    rw [be_length] at hf
    rw [hf] at hS
    exact ⟨_, rfl, hS.new 0 rfl rfl, hS.kp⟩

end Go.Proofs.Ytcobjneobdihkaa
/- octet's Reader, and the reference's Num and Get, by contract. Conditions: none but bounds. -/
namespace Go.Proofs.Ytcobjneobdihkaa
open Go.RowKit

def rdV (A : Option Addr) (n c : Nat) (bad : Bool) : List Value := [.slice A n c, .bool bad]
theorem or_low {x y : Nat} (h : y < 256) : x * 2 ^ 8 ||| y = x * 256 + y := by
  have := Nat.shiftLeft_add_eq_or_of_lt (i := 8) (b := y) (by omega) x
  rw [Nat.shiftLeft_eq] at this
  rw [← this]

set_option maxRecDepth 100000 in
set_option maxHeartbeats 4000000 in
theorem read_c (n : Nat) (A : Option Addr) (c : Nat) (l : List Nat) (w0 : World) (hv : View w0 w0.heap.size A (l.map u8v)) (hl : l.length = n) (hn4 : n ≤ 1000000) :
    Calls Try.prog 14 #[.slice A n c] w0 fun e w' => ∃ g A', e = .returned (.pointer (some ⟨g, 0, none⟩)) ∧ St [] w0 [.blk g 92 (rdV A' n n false), .row (.slice A' n n) 5 1 n (l.map u8v)] w' := by
  have hS := (St.sv w0).vcons rfl hv
  refine ent (n := 13) Try.func14 rfl rfl ?_
  refine wp_seq_k ?_; intro K1 hK1
  refine wlit ?_
  refine wl_v (x_assign ev_c) ?_
  refine wl_nil ?_
  refine then_n (hK1 _ _ ?_); clear hK1 K1
  refine wp_seq_k ?_; intro K2 hK2
  refine wlit ?_
  refine wl_v (x_move (tmS rfl rfl)) ?_
  refine wl_v (x_len Try.underlying22 (tmS rfl rfl)) ?_
  refine wl_e rfl ?_; intro K hK
  refine ow_make hS Try.underlying22 tz_5 rfl (tmI rfl rfl) (tmI rfl rfl) rfl (by omega) (by simp only [maxLen]; omega) ?_
  clear hS; intro g1_2 w hg1_2 hS
  refine hK _ _ ?_; clear hK K
  refine wl_v (x_assign (tmS rfl rfl)) ?_
  refine wl_nil ?_
  refine then_n (hK2 _ _ ?_); clear hK2 K2
  refine wp_seq_k ?_; intro K3 hK3
  refine wlit ?_
  refine wl_v (x_move (tmS rfl rfl)) ?_
  refine wl_v (x_move (tmS rfl rfl)) ?_
  refine wl_e rfl ?_; intro K hK
  refine ow_copyR (o := 0) hS 0 rfl Try.underlying22 ts_5 (tmS rfl rfl) (tmS rfl rfl) (viewV hS.ok 1 rfl) (by first | rfl | (simp; done) | (simp; omega) | omega) (fun _ => by first | rfl | assumption | (simp only [Nat.add_zero]; rfl)) (by first | (simp; done) | (simp; omega) | omega) (u8v_one _) ?_
  clear hS; intro w hS
  refine hK _ _ ?_; clear hK K
  refine wl_nil ?_
  rw [show List.replicate n (Value.int .u8 0) = List.replicate (l.length + 0) (Value.int .u8 0) by rw [hl]; rfl, splice_fill l [] 0 rfl, filled_zero, List.length_nil, List.replicate_zero, List.append_nil] at hS
  refine then_n (hK3 _ _ ?_); clear hK3 K3
  refine wp_seq_k ?_; intro K4 hK4
  refine wlit ?_
  refine wl_v (x_move (tmS rfl rfl)) ?_
  refine wl_v (x_build (bc_take (tmS rfl rfl) <| bc_skip (.bool false) <| bc_nil) (by kernel_rfl)) ?_
  refine wl_e rfl ?_; intro K hK
  refine ow_box hS (tmA rfl rfl) rfl ?_
  clear hS; intro g3_2 w hg3_2 hS
  refine hK _ _ ?_; clear hK K
  refine wl_v (x_assign (tmP rfl rfl)) ?_
  refine wl_nil ?_
  refine then_n (hK4 _ _ ?_); clear hK4 K4
  refine wp_ret ?_
  refine ret1 rfl (.tmp rfl (show _ = Value.pointer _ from rfl)) ?_
  exact ⟨_, _, rfl, hS.pick [0, 1] rfl rfl⟩

set_option maxRecDepth 100000 in
set_option maxHeartbeats 4000000 in
theorem take_c (gr : Nat) (A0 A : Option Addr) (p k n c : Nat) (l : List Nat) (bad : Bool) (F : List Nat) (w0 : World)
    (hS : St F w0 [.blk gr 92 (rdV A (n - p) c bad), .vw A0 (l.map u8v)] w0) (hA : Off A0 p n A) (hp : p + k ≤ n) (hc : n - p ≤ c) :
    Calls Try.prog 53 #[.pointer (some ⟨gr, 0, none⟩), .int .i64 (k : Int)] w0 fun e w' => ∃ A' c', e = .returned (.slice A k k) ∧
      St F w0 [.blk gr 92 (rdV A' (n - (p + k)) c' bad)] w' ∧ Off A0 (p + k) n A' ∧ n - (p + k) ≤ c' := by
  refine ent (n := 42) Try.func53 rfl rfl ?_
  refine wp_seq_k ?_; intro K1 hK1
  refine wlit ?_
  refine wl_v (x_assign ev_c) ?_
  refine wl_nil ?_
  refine then_n (hK1 _ _ ?_); clear hK1 K1
  refine wp_seq_k ?_; intro K2 hK2
  refine wp_seq_k ?_; intro K3 hK3
  refine wlit ?_
  refine wl_v (x_move (tmP rfl rfl)) ?_
  refine wl_v (x_peql Try.underlying67 (tmP rfl rfl) ev_c) ?_
  refine wl_nil ?_
  refine then_n (hK3 _ _ ?_); clear hK3 K3
  refine cnd (tm rfl) (fun hc0 => ?_) (fun hc0 => ?_)
  · exfalso
    simp at hc0
  try simp only [nrm] at hc0
  refine wp_skip ?_
  refine then_n (hK2 _ _ ?_); clear hK2 K2
  refine wp_seq_k ?_; intro K4 hK4
  refine wp_seq_k ?_; intro K5 hK5
  refine wlit ?_
  refine wl_v (x_move (tmI rfl rfl)) ?_
  refine wl_v (x_lss (tmI rfl rfl) (ev_cN 0)) ?_
  refine wl_v (x_move (tmB rfl rfl)) ?_
  refine gs_wl (tm (t := 10) rfl) (fun hg3_2 => ?_) (fun hg3_2 => ?_)
  · have hg3_2' := hg3_2; (try simp only [nrm] at hg3_2'); try (exfalso; first | with_reducible exact absurd hg3_2 Bool.false_ne_true | with_reducible exact absurd hg3_2.symm Bool.false_ne_true | omega | (simp at hg3_2; done))
  have hg3_2' := hg3_2; (try simp only [nrm] at hg3_2')
  refine wl_gv (want_y rfl rfl rfl rfl (by rw [hg3_2]; rfl)) (x_move (tmI rfl rfl)) ?_
  refine wl_gv (want_y rfl rfl rfl rfl (by rw [hg3_2]; rfl)) (x_move (tmP rfl rfl)) ?_
  refine wl_gv (want_y rfl rfl rfl rfl (by rw [hg3_2]; rfl)) (x_nil (A := none) (tmP rfl rfl)) ?_
  refine wl_gv (want_y rfl rfl rfl rfl (by rw [hg3_2]; rfl)) (x_fa 0 Try.underlying92 rfl rfl ts_22 (tmP rfl rfl)) ?_
  refine wl_gv (want_y rfl rfl rfl rfl (by rw [hg3_2]; rfl)) (x_load Try.underlying22 rfl (tmP rfl rfl) (cellB hS.ok 0 rfl rfl)) ?_
  refine wl_gv (want_y rfl rfl rfl rfl (by rw [hg3_2]; rfl)) (x_len Try.underlying22 (tmS rfl rfl)) ?_
  refine wl_gv (want_y rfl rfl rfl rfl (by rw [hg3_2]; rfl)) (x_gtr (tmI rfl rfl) (tmI rfl rfl)) ?_
  refine wl_v (x_pickF (tmB rfl rfl) hg3_2 (tmB rfl rfl)) ?_
  refine wl_nil ?_
  refine then_n (hK5 _ _ ?_); clear hK5 K5
  refine cnd (tm rfl) (fun hc1 => ?_) (fun hc1 => ?_)
  · exfalso
    simp at hc1
    omega
  try simp only [nrm] at hc1
  refine wp_skip ?_
  refine then_n (hK4 _ _ ?_); clear hK4 K4
  refine wp_seq_k ?_; intro K8 hK8
  refine wlit ?_
  refine wl_v (x_move (tmP rfl rfl)) ?_
  refine wl_v (x_nil (A := none) (tmP rfl rfl)) ?_
  refine wl_v (x_fa 0 Try.underlying92 rfl rfl ts_22 (tmP rfl rfl)) ?_
  refine wl_v (x_load Try.underlying22 rfl (tmP rfl rfl) (cellB hS.ok 0 rfl rfl)) ?_
  refine wl_v (x_move (tmI rfl rfl)) ?_
  refine wl_v (x_move (tmI rfl rfl)) ?_
  refine wl_v (x_sliceHM Try.underlying22 ts_5 (tmS rfl rfl) (tmI rfl rfl) (tmI rfl rfl) (by omega)) ?_
  refine wl_v (x_assign (tmS rfl rfl)) ?_
  refine wl_nil ?_
  refine then_n (hK8 _ _ ?_); clear hK8 K8
  refine wp_seq_k ?_; intro K9 hK9
  refine wlit ?_
  refine wl_v (x_move (tmP rfl rfl)) ?_
  refine wl_v (x_move (tmP rfl rfl)) ?_
  refine wl_v (x_nil (A := none) (tmP rfl rfl)) ?_
  refine wl_v (x_fa 0 Try.underlying92 rfl rfl ts_22 (tmP rfl rfl)) ?_
  refine wl_v (x_load Try.underlying22 rfl (tmP rfl rfl) (cellB hS.ok 0 rfl rfl)) ?_
  refine wl_v (x_move (tmI rfl rfl)) ?_
  refine wl_v (x_sliceL Try.underlying22 ts_5 (tmS rfl rfl) (tmI rfl rfl) (by omega)) ?_
  refine wl_v (x_nil (A := none) (tmP rfl rfl)) ?_
  refine wl_v (x_fa 0 Try.underlying92 rfl rfl ts_22 (tmP rfl rfl)) ?_
  refine wl_e rfl ?_; intro K hK
  refine ow_store hS 0 rfl ts_22 (tmP rfl rfl) (tmS rfl rfl) rfl rfl ?_
  clear hS; intro w hS
  refine hK _ _ ?_; clear hK K
  refine wl_nil ?_
  refine then_n (hK9 _ _ ?_); clear hK9 K9
  refine wp_seq_k ?_; intro K10 hK10
  refine wlit ?_
  refine wl_v (x_move (tmS rfl rfl)) ?_
  refine wl_v (x_assign (tmS rfl rfl)) ?_
  refine wl_nil ?_
  refine then_n (hK10 _ _ ?_); clear hK10 K10
  refine wp_ret ?_
  refine ret1 rfl (.tmp rfl (show _ = Value.slice _ _ _ from rfl)) ?_
  refine ⟨cutA A k c 1, c - k, rfl, ?_, off_cut hA hc, by omega⟩
  rw [← Nat.sub_sub]
  exact hS.pick [0] rfl rfl

set_option maxRecDepth 100000 in
set_option maxHeartbeats 4000000 in
theorem num_c (gr : Nat) (A0 A : Option Addr) (p k n c : Nat) (l : List Nat) (bad : Bool) (F : List Nat) (w0 : World)
    (hS : St F w0 [.blk gr 92 (rdV A (n - p) c bad), .vw A0 (l.map u8v)] w0) (hA : Off A0 p n A) (hp : p + k ≤ n) (hc : n - p ≤ c) (hl : l.length = n) (hb : Bytes l) (h8 : k ≤ 8) :
    Calls Try.prog 32 #[.pointer (some ⟨gr, 0, none⟩), .int .i64 (k : Int)] w0 fun e w' => ∃ A' c', e = .returned (.int .u64 ((numBE ((l.drop p).take k) : Nat) : Int)) ∧
      St F w0 [.blk gr 92 (rdV A' (n - (p + k)) c' bad)] w' ∧ Off A0 (p + k) n A' ∧ n - (p + k) ≤ c' := by
  have hlk : ((l.drop p).take k).length = k := by rw [List.length_take, List.length_drop]; omega
  have hbk : Bytes ((l.drop p).take k) := (hb.drop p).take k
  refine ent (n := 25) Try.func32 rfl rfl ?_
  refine wp_seq_k ?_; intro K1 hK1
  refine wlit ?_
  refine wl_v (x_assign (ev_cN 0)) ?_
  refine wl_nil ?_
  refine then_n (hK1 _ _ ?_); clear hK1 K1
  refine wp_seq_k ?_; intro K2 hK2
  refine wp_seq_k ?_; intro K3 hK3
  refine wlit ?_
  refine wl_v (x_move (tmI rfl rfl)) ?_
  refine wl_v (x_gtr (tmI rfl rfl) (ev_cN 8)) ?_
  refine wl_nil ?_
  refine then_n (hK3 _ _ ?_); clear hK3 K3
  refine cnd (tm rfl) (fun hc0 => ?_) (fun hc0 => ?_)
  · exfalso
    simp at hc0
    omega
  try simp only [nrm] at hc0
  refine wp_skip ?_
  refine then_n (hK2 _ _ ?_); clear hK2 K2
  refine wp_seq_k ?_; intro K4 hK4
  refine wlit ?_
  refine wl_v (x_assign (ev_cN 0)) ?_
  refine wl_nil ?_
  refine then_n (hK4 _ _ ?_); clear hK4 K4
  refine wp_seq_k ?_; intro K5 hK5
  refine wp_seq_k ?_; intro K6 hK6
  refine wlit ?_
  refine wl_v (x_move (tmP rfl rfl)) ?_
  refine wl_v (x_move (tmI rfl rfl)) ?_
  refine wl_e rfl ?_; intro K hK
  refine ow_call Try.func53 rfl rfl (evs_cons (tmP rfl rfl) <| evs_cons (tmI rfl rfl) <| evs_nil) (take_c gr A0 A p k n c l bad _ _ (hS.enter [0] [1] rfl rfl) hA hp hc) ?_
  rintro e w ⟨A', c', rfl, hS2, hA2, hc2⟩
  refine ⟨_, rfl, ?_⟩
  replace hS := hS.leave [0] [1] rfl rfl rfl hS2 rfl
  clear hS2
  replace hS := hS.offb 1 k rfl hl hA -- +1
  try replace hS := St.nm (M' := [_, _, .vw _ _]) hS rfl
  refine hK _ _ ?_; clear hK K
  refine wl_v (x_len Try.underlying22 (tmS rfl rfl)) ?_
  refine wl_v (x_move (ev_cN 0)) ?_
  refine wl_nil ?_
  refine then_n (hK6 _ _ ?_); clear hK6 K6
  refine wp_block ?_
  refine lp [5, 7, 14, 15, 16, 17, 18, 19, 20, 21, 22, 23] (fun mz g w => ∃ (j : Nat), mz = k - j ∧ g 14 = .int .i64 (j : Int) ∧ g 5 = .int .u64 ((numBE (((l.drop p).take k).take j) : Nat) : Int) ∧ St F w0 [.vw A (((l.drop p).take k).map u8v), .blk gr 92 (rdV A' (n - (p + k)) c' bad), .vw A0 (l.map u8v)] w ∧ (j ≤ k)) ?_ ?_
  · exact ⟨_, 0, rfl, (by first | rfl | go_num | exact congrArg (Value.int _) (by first | omega | (simp; done) | (simp; omega))), (by first | rfl | go_num | exact congrArg (Value.int _) (by first | omega | (simp; done) | (simp; omega))), hS, (by omega)⟩
  · clear hS; intro mz g w hI
    obtain ⟨j, rfl, hs14, hs5, hS, hj⟩ := hI
    refine fr_know (d := 14) hs14 ?_; clear hs14
    refine fr_know (d := 5) hs5 ?_; clear hs5
    refine wp_seq_k ?_; intro K7 hK7
    refine wlit ?_
    refine wl_v (x_lss (tmI rfl rfl) (tmI rfl rfl)) ?_
    refine wl_nil ?_
    refine then_n (hK7 _ _ ?_); clear hK7 K7
    refine wp_seq_k ?_; intro K8 hK8
    refine cnd (tm rfl) (fun hc1 => ?_) (fun hc1 => ?_)
    · skip
      try simp only [nrm] at hc1
      obtain ⟨b4, o4, rfl⟩ := view_some (viewV hS.ok 0 rfl) (by rw [List.length_map]; omega)
      have hbj := nth_lt hbk j
      have hbj' : ((l.drop p).take k).getD j 0 < 256 := hbj
      have hnl := numBE_lt hbk j (by omega)
      have hnl2 : numBE (((l.drop p).take k).take j) < 256 ^ 7 := Nat.lt_of_lt_of_le hnl (Nat.pow_le_pow_right (by omega) (by omega))
      have hx : numBE (((l.drop p).take k).take (j + 1)) = numBE (((l.drop p).take k).take j) * 2 ^ 8 ||| ((l.drop p).take k).getD j 0 := by
        rw [numBE_snoc _ j (by omega), or_low hbj']; rfl
      generalize hq : numBE (((l.drop p).take k).take j) = q at *
      refine wp_skip ?_
      refine then_n (hK8 _ _ ?_); clear hK8 K8
      refine wp_seq_k ?_; intro K9 hK9
      refine wp_block ?_
      refine wp_seq_k ?_; intro K10 hK10
      refine wlit ?_
      refine wl_v (x_ixs1 Try.underlying22 ts_5 (tmS rfl rfl) (tmI rfl rfl) (by omega)) ?_
      refine wl_v (x_load Try.underlying5 rfl (tmP rfl rfl) (cellV hS.ok 0 rfl (getm (by omega)))) ?_
      refine wl_v (x_assign (tmI rfl rfl)) ?_
      refine wl_nil ?_
      refine then_n (hK10 _ _ ?_); clear hK10 K10
      refine wlit ?_
      refine wl_v (x_move (tmI rfl rfl)) ?_
      refine wl_v (x_shlN (tmI rfl rfl) (ev_cN 8) (by decide) (fit_u64 (by omega))) ?_
      refine wl_v (x_move (tmI rfl rfl)) ?_
      refine wl_v (x_convN Try.underlying5 Try.underlying24 (tmI rfl rfl) (fit_u64 (by omega))) ?_
      refine wl_v (x_orN (tmI rfl rfl) (tmI rfl rfl) (fit_u64 (by omega)) (fit_u64 (by omega))) ?_
      refine wl_v (x_assign (tmI rfl rfl)) ?_
      refine wl_nil ?_
      refine inb_n ?_
      refine then_n (hK9 _ _ ?_); clear hK9 K9
      refine wlit ?_
      refine wl_v (x_addN (tmI rfl rfl) (ev_cN 1) (fit_i64 (by omega))) ?_
      refine wl_v (x_move (tmI rfl rfl)) ?_
      refine wl_nil ?_
      exact then_n ⟨_, _, rfl, (by show _ < _; omega), (by repeat (first | exact agree_self | exact agree_refl | refine agree_upd rfl ?_ | refine agree_mix rfl ?_)), j + 1, rfl, (by first | rfl | go_num | exact congrArg (Value.int _) (by first | omega | (simp; done) | (simp; omega))), (by first | rfl | (rw [hx]; done) | (rw [hx]; rfl) | (rw [hx]; go_num)), hS, (by omega)⟩
    try simp only [nrm] at hc1
    refine wp_exit ?_
    refine then_x ?_; clear hK8 K8
    refine then_x ?_
    refine inb_x ?_
    refine then_n (hK5 _ _ ?_); clear hK5 K5
    refine wp_seq_k ?_; intro K11 hK11
    refine wlit ?_
    refine wl_v (x_move (tmI rfl rfl)) ?_
    refine wl_v (x_assign (tmI rfl rfl)) ?_
    refine wl_nil ?_
    refine then_n (hK11 _ _ ?_); clear hK11 K11
    refine wp_ret ?_
    refine ret1 rfl (.tmp rfl (show _ = Value.int _ _ from rfl)) ?_
    obtain rfl : k = j := by omega
    rw [List.take_take, Nat.min_self]
    exact ⟨A', c', rfl, hS.pick [1] rfl rfl, hA2, hc2⟩
def getN (l : List Nat) (p k : Nat) : Nat := numBE ((l.drop p).take k)
theorem getN_lt {l : List Nat} (hb : Bytes l) (p k : Nat) : getN l p k < 256 ^ k := by
  have h := numBE_lt' ((hb.drop p).take k)
  have h2 : ((l.drop p).take k).length ≤ k := by rw [List.length_take]; omega
  exact Nat.lt_of_lt_of_le h (Nat.pow_le_pow_right (by omega) h2)
theorem getN_one {l : List Nat} {p : Nat} (h : p < l.length) : getN l p 1 = nth l p := by
  unfold getN
  rw [List.drop_eq_getElem_cons h, List.take_succ_cons, List.take_zero, nth_eq h]
  simp [numBE]

set_option maxRecDepth 100000 in
set_option maxHeartbeats 4000000 in
theorem byte_c (gr : Nat) (A0 A : Option Addr) (p n c : Nat) (l : List Nat) (bad : Bool) (F : List Nat) (w0 : World)
    (hS : St F w0 [.blk gr 92 (rdV A (n - p) c bad), .vw A0 (l.map u8v)] w0) (hA : Off A0 p n A) (hp : p + 1 ≤ n) (hc : n - p ≤ c) (hl : l.length = n) (hb : Bytes l) :
    Calls Try.prog 30 #[.pointer (some ⟨gr, 0, none⟩)] w0 fun e w' => ∃ A' c', e = .returned (.int .u8 ((getN l p 1 : Nat) : Int)) ∧
      St F w0 [.blk gr 92 (rdV A' (n - (p + 1)) c' bad)] w' ∧ Off A0 (p + 1) n A' ∧ n - (p + 1) ≤ c' := by
  have hbd : numBE ((l.drop p).take 1) < 256 ^ 1 := getN_lt hb p 1
  refine ent (n := 6) Try.func30 rfl rfl ?_
  refine wp_seq_k ?_; intro K1 hK1
  refine wlit ?_
  refine wl_v (x_assign (ev_cN 0)) ?_
  refine wl_nil ?_
  refine then_n (hK1 _ _ ?_); clear hK1 K1
  refine wp_seq_k ?_; intro K2 hK2
  refine wlit ?_
  refine wl_v (x_move (tmP rfl rfl)) ?_
  refine wl_e rfl ?_; intro K hK
  refine ow_call Try.func32 rfl rfl (evs_cons (tmP rfl rfl) <| evs_cons (ev_cN 1) <| evs_nil) (num_c gr A0 A p 1 n c l bad _ _ (hS.enter [0] [1] rfl rfl) hA hp hc hl hb (by omega)) ?_
  rintro e w ⟨A', c', rfl, hS2, hA2, hc2⟩
  refine ⟨_, rfl, ?_⟩
  replace hS := hS.leave [0] [1] rfl rfl rfl hS2 rfl
  clear hS2
  try replace hS := St.nm (M' := [_, .vw _ _]) hS rfl
  refine hK _ _ ?_; clear hK K
  refine wl_v (x_convN Try.underlying24 Try.underlying5 (tmI rfl rfl) (fit_u8 (by omega))) ?_
  refine wl_v (x_assign (tmI rfl rfl)) ?_
  refine wl_nil ?_
  refine then_n (hK2 _ _ ?_); clear hK2 K2
  refine wp_ret ?_
  refine ret1 rfl (.tmp rfl (show _ = Value.int _ _ from rfl)) ?_
  exact ⟨A', c', rfl, hS.pick [0] rfl rfl, hA2, hc2⟩
set_option maxRecDepth 100000 in
set_option maxHeartbeats 4000000 in
theorem word_c (gr : Nat) (A0 A : Option Addr) (p n c : Nat) (l : List Nat) (bad : Bool) (F : List Nat) (w0 : World)
    (hS : St F w0 [.blk gr 92 (rdV A (n - p) c bad), .vw A0 (l.map u8v)] w0) (hA : Off A0 p n A) (hp : p + 2 ≤ n) (hc : n - p ≤ c) (hl : l.length = n) (hb : Bytes l) :
    Calls Try.prog 15 #[.pointer (some ⟨gr, 0, none⟩)] w0 fun e w' => ∃ A' c', e = .returned (.int .u16 ((getN l p 2 : Nat) : Int)) ∧
      St F w0 [.blk gr 92 (rdV A' (n - (p + 2)) c' bad)] w' ∧ Off A0 (p + 2) n A' ∧ n - (p + 2) ≤ c' := by
  have hbd : numBE ((l.drop p).take 2) < 256 ^ 2 := getN_lt hb p 2
  refine ent (n := 6) Try.func15 rfl rfl ?_
  refine wp_seq_k ?_; intro K1 hK1
  refine wlit ?_
  refine wl_v (x_assign (ev_cN 0)) ?_
  refine wl_nil ?_
  refine then_n (hK1 _ _ ?_); clear hK1 K1
  refine wp_seq_k ?_; intro K2 hK2
  refine wlit ?_
  refine wl_v (x_move (tmP rfl rfl)) ?_
  refine wl_e rfl ?_; intro K hK
  refine ow_call Try.func32 rfl rfl (evs_cons (tmP rfl rfl) <| evs_cons (ev_cN 2) <| evs_nil) (num_c gr A0 A p 2 n c l bad _ _ (hS.enter [0] [1] rfl rfl) hA hp hc hl hb (by omega)) ?_
  rintro e w ⟨A', c', rfl, hS2, hA2, hc2⟩
  refine ⟨_, rfl, ?_⟩
  replace hS := hS.leave [0] [1] rfl rfl rfl hS2 rfl
  clear hS2
  try replace hS := St.nm (M' := [_, .vw _ _]) hS rfl
  refine hK _ _ ?_; clear hK K
  refine wl_v (x_convN Try.underlying24 Try.underlying27 (tmI rfl rfl) (fit_u16 (by omega))) ?_
  refine wl_v (x_assign (tmI rfl rfl)) ?_
  refine wl_nil ?_
  refine then_n (hK2 _ _ ?_); clear hK2 K2
  refine wp_ret ?_
  refine ret1 rfl (.tmp rfl (show _ = Value.int _ _ from rfl)) ?_
  exact ⟨A', c', rfl, hS.pick [0] rfl rfl, hA2, hc2⟩
set_option maxRecDepth 100000 in
set_option maxHeartbeats 4000000 in
theorem long_c (gr : Nat) (A0 A : Option Addr) (p n c : Nat) (l : List Nat) (bad : Bool) (F : List Nat) (w0 : World)
    (hS : St F w0 [.blk gr 92 (rdV A (n - p) c bad), .vw A0 (l.map u8v)] w0) (hA : Off A0 p n A) (hp : p + 4 ≤ n) (hc : n - p ≤ c) (hl : l.length = n) (hb : Bytes l) :
    Calls Try.prog 25 #[.pointer (some ⟨gr, 0, none⟩)] w0 fun e w' => ∃ A' c', e = .returned (.int .u32 ((getN l p 4 : Nat) : Int)) ∧
      St F w0 [.blk gr 92 (rdV A' (n - (p + 4)) c' bad)] w' ∧ Off A0 (p + 4) n A' ∧ n - (p + 4) ≤ c' := by
  have hbd : numBE ((l.drop p).take 4) < 256 ^ 4 := getN_lt hb p 4
  refine ent (n := 6) Try.func25 rfl rfl ?_
  refine wp_seq_k ?_; intro K1 hK1
  refine wlit ?_
  refine wl_v (x_assign (ev_cN 0)) ?_
  refine wl_nil ?_
  refine then_n (hK1 _ _ ?_); clear hK1 K1
  refine wp_seq_k ?_; intro K2 hK2
  refine wlit ?_
  refine wl_v (x_move (tmP rfl rfl)) ?_
  refine wl_e rfl ?_; intro K hK
  refine ow_call Try.func32 rfl rfl (evs_cons (tmP rfl rfl) <| evs_cons (ev_cN 4) <| evs_nil) (num_c gr A0 A p 4 n c l bad _ _ (hS.enter [0] [1] rfl rfl) hA hp hc hl hb (by omega)) ?_
  rintro e w ⟨A', c', rfl, hS2, hA2, hc2⟩
  refine ⟨_, rfl, ?_⟩
  replace hS := hS.leave [0] [1] rfl rfl rfl hS2 rfl
  clear hS2
  try replace hS := St.nm (M' := [_, .vw _ _]) hS rfl
  refine hK _ _ ?_; clear hK K
  refine wl_v (x_convN Try.underlying24 Try.underlying30 (tmI rfl rfl) (fit_u32 (by omega))) ?_
  refine wl_v (x_assign (tmI rfl rfl)) ?_
  refine wl_nil ?_
  refine then_n (hK2 _ _ ?_); clear hK2 K2
  refine wp_ret ?_
  refine ret1 rfl (.tmp rfl (show _ = Value.int _ _ from rfl)) ?_
  exact ⟨A', c', rfl, hS.pick [0] rfl rfl, hA2, hc2⟩

set_option maxRecDepth 100000 in
set_option maxHeartbeats 4000000 in
theorem left_c (gr : Nat) (A : Option Addr) (n c : Nat) (bad : Bool) (w0 : World) (hv : View w0 w0.heap.size (some ⟨gr, 0, none⟩) (rdV A n c bad)) :
    Calls Try.prog 71 #[.pointer (some ⟨gr, 0, none⟩)] w0 fun e w' => e = .returned (.int .i64 (n : Int)) ∧ Kp [] w0 w' := by
  have hS := (St.sv w0).vcons rfl hv
  refine ent (n := 10) Try.func71 rfl rfl ?_
  refine wp_seq_k ?_; intro K1 hK1
  refine wlit ?_
  refine wl_v (x_assign (ev_cN 0)) ?_
  refine wl_nil ?_
  refine then_n (hK1 _ _ ?_); clear hK1 K1
  refine wp_seq_k ?_; intro K2 hK2
  refine wp_seq_k ?_; intro K3 hK3
  refine wlit ?_
  refine wl_v (x_move (tmP rfl rfl)) ?_
  refine wl_v (x_peql Try.underlying67 (tmP rfl rfl) ev_c) ?_
  refine wl_nil ?_
  refine then_n (hK3 _ _ ?_); clear hK3 K3
  refine cnd (tm rfl) (fun hc0 => ?_) (fun hc0 => ?_)
  · exfalso
    simp at hc0
  try simp only [nrm] at hc0
  refine wp_skip ?_
  refine then_n (hK2 _ _ ?_); clear hK2 K2
  refine wp_seq_k ?_; intro K4 hK4
  refine wlit ?_
  refine wl_v (x_move (tmP rfl rfl)) ?_
  refine wl_v (x_nil (A := none) (tmP rfl rfl)) ?_
  refine wl_v (x_fa 0 Try.underlying92 rfl rfl ts_22 (tmP rfl rfl)) ?_
  refine wl_v (x_load Try.underlying22 rfl (tmP rfl rfl) (cellV hS.ok 0 rfl rfl)) ?_
  refine wl_v (x_len Try.underlying22 (tmS rfl rfl)) ?_
  refine wl_v (x_assign (tmI rfl rfl)) ?_
  refine wl_nil ?_
  refine then_n (hK4 _ _ ?_); clear hK4 K4
  refine wp_ret ?_
  refine ret1 rfl (.tmp rfl (show _ = Value.int _ _ from rfl)) ?_
  exact ⟨rfl, hS.kp⟩

set_option maxRecDepth 100000 in
set_option maxHeartbeats 4000000 in
theorem rest_c (gr : Nat) (A0 A : Option Addr) (p n c : Nat) (l : List Nat) (bad : Bool) (F : List Nat) (w0 : World)
    (hS : St F w0 [.blk gr 92 (rdV A (n - p) c bad), .vw A0 (l.map u8v)] w0) (hA : Off A0 p n A) (hp : p ≤ n) (hc : n - p ≤ c) :
    Calls Try.prog 55 #[.pointer (some ⟨gr, 0, none⟩)] w0 fun e w' => ∃ A' c', e = .returned (.slice A (n - p) (n - p)) ∧
      St F w0 [.blk gr 92 (rdV A' 0 c' bad)] w' := by
  refine ent (n := 7) Try.func55 rfl rfl ?_
  refine wp_seq_k ?_; intro K1 hK1
  refine wlit ?_
  refine wl_v (x_assign ev_c) ?_
  refine wl_nil ?_
  refine then_n (hK1 _ _ ?_); clear hK1 K1
  refine wp_seq_k ?_; intro K2 hK2
  refine wlit ?_
  refine wl_v (x_move (tmP rfl rfl)) ?_
  refine wl_v (x_move (tmP rfl rfl)) ?_
  refine wl_e rfl ?_; intro K hK
  refine ow_call Try.func71 rfl rfl (evs_cons (tmP rfl rfl) <| evs_nil) (left_c gr A (n - p) c bad _ (viewB hS.ok 0 rfl)) ?_
  rintro e w ⟨rfl, hk⟩
  refine ⟨_, rfl, ?_⟩
  replace hS := hS.kept hk
  clear hk
  refine hK _ _ ?_; clear hK K
  refine wl_e rfl ?_; intro K hK
  refine ow_call Try.func53 rfl rfl (evs_cons (tmP rfl rfl) <| evs_cons (tmI rfl rfl) <| evs_nil) (take_c gr A0 A p (n - p) n c l bad _ _ (hS.enter [0] [1] rfl rfl) hA (by omega) hc) ?_
  rintro e w ⟨A', c', rfl, hS2, hA2, hc2⟩
  refine ⟨_, rfl, ?_⟩
  replace hS := hS.leave [0] [1] rfl rfl rfl hS2 rfl
  clear hS2
  try replace hS := St.nm (M' := [_, .vw _ _]) hS rfl
  refine hK _ _ ?_; clear hK K
  refine wl_v (x_assign (tmS rfl rfl)) ?_
  refine wl_nil ?_
  refine then_n (hK2 _ _ ?_); clear hK2 K2
  refine wp_ret ?_
  refine ret1 rfl (.tmp rfl (show _ = Value.slice _ _ _ from rfl)) ?_
  rw [show n - (p + (n - p)) = 0 by omega] at hS
  exact ⟨A', c', rfl, hS.pick [0] rfl rfl⟩

set_option maxRecDepth 100000 in
set_option maxHeartbeats 4000000 in
theorem bytes_c (gr : Nat) (A0 A : Option Addr) (p k n c : Nat) (l : List Nat) (bad : Bool) (F : List Nat) (w0 : World)
    (hS : St F w0 [.blk gr 92 (rdV A (n - p) c bad), .vw A0 (l.map u8v)] w0) (hA : Off A0 p n A) (hp : p + k ≤ n) (hc : n - p ≤ c) :
    Calls Try.prog 29 #[.pointer (some ⟨gr, 0, none⟩), .int .i64 (k : Int)] w0 fun e w' => ∃ A' c', e = .returned (.slice A k k) ∧
      St F w0 [.blk gr 92 (rdV A' (n - (p + k)) c' bad)] w' ∧ Off A0 (p + k) n A' ∧ n - (p + k) ≤ c' := by
  refine ent (n := 8) Try.func29 rfl rfl ?_
  refine wp_seq_k ?_; intro K1 hK1
  refine wlit ?_
  refine wl_v (x_assign ev_c) ?_
  refine wl_nil ?_
  refine then_n (hK1 _ _ ?_); clear hK1 K1
  refine wp_seq_k ?_; intro K2 hK2
  refine wlit ?_
  refine wl_v (x_move (tmP rfl rfl)) ?_
  refine wl_v (x_move (tmI rfl rfl)) ?_
  refine wl_e rfl ?_; intro K hK
  refine ow_call Try.func53 rfl rfl (evs_cons (tmP rfl rfl) <| evs_cons (tmI rfl rfl) <| evs_nil) (take_c gr A0 A p k n c l bad _ _ (hS.enter [0] [1] rfl rfl) hA (by omega) hc) ?_
  rintro e w ⟨A', c', rfl, hS2, hA2, hc2⟩
  refine ⟨_, rfl, ?_⟩
  replace hS := hS.leave [0] [1] rfl rfl rfl hS2 rfl
  clear hS2
  try replace hS := St.nm (M' := [_, .vw _ _]) hS rfl
  refine hK _ _ ?_; clear hK K
  refine wl_v (x_assign (tmS rfl rfl)) ?_
  refine wl_nil ?_
  refine then_n (hK2 _ _ ?_); clear hK2 K2
  refine wp_ret ?_
  refine ret1 rfl (.tmp rfl (show _ = Value.slice _ _ _ from rfl)) ?_
  exact ⟨A', c', rfl, hS.pick [0] rfl rfl, hA2, hc2⟩

set_option maxRecDepth 100000 in
set_option maxHeartbeats 4000000 in
theorem rnum_c (n : Nat) (A : Option Addr) (c : Nat) (l : List Nat) (w0 : World) (hv : View w0 w0.heap.size A (l.map u8v)) (hl : l.length = n) (hb : Bytes l) (h8 : n ≤ 8) :
    Calls Try.prog 34 #[.slice A n c] w0 fun e w' => e = .returned (.int .u64 ((numBE l : Nat) : Int)) ∧ Kp [] w0 w' := by
  have hS := (St.sv w0).vcons rfl hv
  refine ent (n := 20) Try.func34 rfl rfl ?_
  refine wp_seq_k ?_; intro K1 hK1
  refine wlit ?_
  refine wl_v (x_assign (ev_cN 0)) ?_
  refine wl_nil ?_
  refine then_n (hK1 _ _ ?_); clear hK1 K1
  refine wp_seq_k ?_; intro K2 hK2
  refine wlit ?_
  refine wl_v (x_assign (ev_cN 0)) ?_
  refine wl_nil ?_
  refine then_n (hK2 _ _ ?_); clear hK2 K2
  refine wp_seq_k ?_; intro K3 hK3
  refine wp_seq_k ?_; intro K4 hK4
  refine wlit ?_
  refine wl_v (x_assign (ev_cN 0)) ?_
  refine wl_nil ?_
  refine then_n (hK4 _ _ ?_); clear hK4 K4
  refine wp_block ?_
  refine lp [3, 4, 5, 6, 7, 8, 9, 10, 11, 12, 13, 14, 15, 16, 17, 18] (fun mz g w => ∃ (j : Nat), mz = n - j ∧ g 4 = .int .i64 (j : Int) ∧ g 3 = .int .u64 ((numBE (l.take j) : Nat) : Int) ∧ St [] w0 [.vw A (l.map u8v)] w ∧ (j ≤ n)) ?_ ?_
  · exact ⟨_, 0, rfl, (by first | rfl | go_num | exact congrArg (Value.int _) (by first | omega | (simp; done) | (simp; omega))), (by first | rfl | go_num | exact congrArg (Value.int _) (by first | omega | (simp; done) | (simp; omega))), hS, (by omega)⟩
  · clear hS; intro mz g w hI
    obtain ⟨j, rfl, hs4, hs3, hS, hj⟩ := hI
    refine fr_know (d := 4) hs4 ?_; clear hs4
    refine fr_know (d := 3) hs3 ?_; clear hs3
    refine wp_seq_k ?_; intro K5 hK5
    refine wp_seq_k ?_; intro K6 hK6
    refine wlit ?_
    refine wl_v (x_move (tmI rfl rfl)) ?_
    refine wl_v (x_move (tmS rfl rfl)) ?_
    refine wl_v (x_len Try.underlying22 (tmS rfl rfl)) ?_
    refine wl_v (x_lss (tmI rfl rfl) (tmI rfl rfl)) ?_
    refine wl_nil ?_
    refine then_n (hK6 _ _ ?_); clear hK6 K6
    refine cnd (tm rfl) (fun hc0 => ?_) (fun hc0 => ?_)
    · skip
      try simp only [nrm] at hc0
      obtain ⟨b4, o4, rfl⟩ := view_some hv (by rw [List.length_map]; omega)
      have hbj' : l.getD j 0 < 256 := nth_lt hb j
      have hnl := numBE_lt hb j (by omega)
      have hnl2 : numBE (l.take j) < 256 ^ 7 := Nat.lt_of_lt_of_le hnl (Nat.pow_le_pow_right (by omega) (by omega))
      have hx : numBE (l.take (j + 1)) = numBE (l.take j) * 256 + l.getD j 0 := numBE_snoc _ j (by omega)
      generalize hq : numBE (l.take j) = q at *
      refine wp_skip ?_
      refine then_n (hK5 _ _ ?_); clear hK5 K5
      refine wp_seq_k ?_; intro K7 hK7
      refine wp_block ?_
      refine wlit ?_
      refine wl_v (x_move (tmI rfl rfl)) ?_
      refine wl_v (x_mulN (tmI rfl rfl) (ev_cN 256) (fit_u64 (by omega))) ?_
      refine wl_v (x_move (tmS rfl rfl)) ?_
      refine wl_v (x_move (tmI rfl rfl)) ?_
      refine wl_v (x_ixs1 Try.underlying22 ts_5 (tmS rfl rfl) (tmI rfl rfl) (by omega)) ?_
      refine wl_v (x_load Try.underlying5 rfl (tmP rfl rfl) (cellV hS.ok 0 rfl (getm (by omega)))) ?_
      refine wl_v (x_convN Try.underlying5 Try.underlying24 (tmI rfl rfl) (fit_u64 (by omega))) ?_
      refine wl_v (x_addN (tmI rfl rfl) (tmI rfl rfl) (fit_u64 (by omega))) ?_
      refine wl_v (x_assign (tmI rfl rfl)) ?_
      refine wl_nil ?_
      refine inb_n ?_
      refine then_n (hK7 _ _ ?_); clear hK7 K7
      refine wlit ?_
      refine wl_v (x_move (tmI rfl rfl)) ?_
      refine wl_v (x_addN (tmI rfl rfl) (ev_cN 1) (fit_i64 (by omega))) ?_
      refine wl_v (x_assign (tmI rfl rfl)) ?_
      refine wl_nil ?_
      exact then_n ⟨_, _, rfl, (by show _ < _; omega), (by repeat (first | exact agree_self | exact agree_refl | refine agree_upd rfl ?_ | refine agree_mix rfl ?_)), j + 1, rfl, (by first | rfl | go_num | exact congrArg (Value.int _) (by first | omega | (simp; done) | (simp; omega))), (by first | rfl | (rw [hx]; done) | (rw [hx]; rfl) | (rw [hx]; go_num)), hS, (by omega)⟩
    try simp only [nrm] at hc0
    refine wp_exit ?_
    refine then_x ?_; clear hK5 K5
    refine then_x ?_
    refine inb_x ?_
    refine then_n (hK3 _ _ ?_); clear hK3 K3
    refine wp_seq_k ?_; intro K8 hK8
    refine wlit ?_
    refine wl_v (x_move (tmI rfl rfl)) ?_
    refine wl_v (x_assign (tmI rfl rfl)) ?_
    refine wl_nil ?_
    refine then_n (hK8 _ _ ?_); clear hK8 K8
    refine wp_ret ?_
    refine ret1 rfl (.tmp rfl (show _ = Value.int _ _ from rfl)) ?_
    obtain rfl : n = j := by omega
    rw [List.take_of_length_le (by omega)]
    exact ⟨rfl, hS.kp⟩

set_option maxRecDepth 100000 in
set_option maxHeartbeats 4000000 in
theorem get_c (n : Nat) (A : Option Addr) (c : Nat) (l : List Nat) (p k : Nat) (w0 : World) (hv : View w0 w0.heap.size A (l.map u8v)) (hl : l.length = n) (hc : n ≤ c) (hn4 : n ≤ 1000000) (hb : Bytes l) (h8 : k ≤ 8) (hp : p + k ≤ n) :
    Calls Try.prog 17 #[.slice A n c, .int .i64 (p : Int), .int .i64 (k : Int)] w0 fun e w' => e = .returned (.int .u64 ((getN l p k : Nat) : Int)) ∧ Kp [] w0 w' := by
  have hS := (St.sv w0).vcons rfl hv
  refine ent (n := 28) Try.func17 rfl rfl ?_
  refine wp_seq_k ?_; intro K1 hK1
  refine wlit ?_
  refine wl_v (x_assign (ev_cN 0)) ?_
  refine wl_nil ?_
  refine then_n (hK1 _ _ ?_); clear hK1 K1
  refine wp_seq_k ?_; intro K2 hK2
  refine wp_seq_k ?_; intro K3 hK3
  refine wlit ?_
  refine wl_v (x_move (tmI rfl rfl)) ?_
  refine wl_v (x_lss (tmI rfl rfl) (ev_cN 0)) ?_
  refine wl_v (x_move (tmB rfl rfl)) ?_
  refine gs_wl (tm (t := 9) rfl) (fun hg1_2 => ?_) (fun hg1_2 => ?_)
  · have hg1_2' := hg1_2; (try simp only [nrm] at hg1_2'); try (exfalso; first | with_reducible exact absurd hg1_2 Bool.false_ne_true | with_reducible exact absurd hg1_2.symm Bool.false_ne_true | omega | (simp at hg1_2; done))
  have hg1_2' := hg1_2; (try simp only [nrm] at hg1_2')
  refine wl_gv (want_y rfl rfl rfl rfl (by rw [hg1_2]; rfl)) (x_move (tmI rfl rfl)) ?_
  refine wl_gv (want_y rfl rfl rfl rfl (by rw [hg1_2]; rfl)) (x_lss (tmI rfl rfl) (ev_cN 0)) ?_
  refine wl_v (x_pickF (tmB rfl rfl) hg1_2 (tmB rfl rfl)) ?_
  refine wl_v (x_move (tmB rfl rfl)) ?_
  refine gs_wl (tm (t := 13) rfl) (fun hg1_6 => ?_) (fun hg1_6 => ?_)
  · have hg1_6' := hg1_6; (try simp only [nrm] at hg1_6'); try (exfalso; first | with_reducible exact absurd hg1_6 Bool.false_ne_true | with_reducible exact absurd hg1_6.symm Bool.false_ne_true | omega | (simp at hg1_6; done))
  have hg1_6' := hg1_6; (try simp only [nrm] at hg1_6')
  refine wl_gv (want_y rfl rfl rfl rfl (by rw [hg1_6]; rfl)) (x_move (tmI rfl rfl)) ?_
  refine wl_gv (want_y rfl rfl rfl rfl (by rw [hg1_6]; rfl)) (x_move (tmI rfl rfl)) ?_
  refine wl_gv (want_y rfl rfl rfl rfl (by rw [hg1_6]; rfl)) (x_addN (tmI rfl rfl) (tmI rfl rfl) (fit_i64 (by omega))) ?_
  refine wl_gv (want_y rfl rfl rfl rfl (by rw [hg1_6]; rfl)) (x_move (tmS rfl rfl)) ?_
  refine wl_gv (want_y rfl rfl rfl rfl (by rw [hg1_6]; rfl)) (x_len Try.underlying22 (tmS rfl rfl)) ?_
  refine wl_gv (want_y rfl rfl rfl rfl (by rw [hg1_6]; rfl)) (x_gtr (tmI rfl rfl) (tmI rfl rfl)) ?_
  refine wl_v (x_pickF (tmB rfl rfl) hg1_6 (tmB rfl rfl)) ?_
  refine wl_nil ?_
  refine then_n (hK3 _ _ ?_); clear hK3 K3
  refine cnd (tm rfl) (fun hc0 => ?_) (fun hc0 => ?_)
  · exfalso
    simp at hc0
    omega
  try simp only [nrm] at hc0
  refine wp_skip ?_
  refine then_n (hK2 _ _ ?_); clear hK2 K2
  refine wp_seq_k ?_; intro K6 hK6
  refine wlit ?_
  refine wl_v (x_move (tmS rfl rfl)) ?_
  refine wl_v (x_move (tmI rfl rfl)) ?_
  refine wl_v (x_move (tmI rfl rfl)) ?_
  refine wl_v (x_move (tmI rfl rfl)) ?_
  refine wl_v (x_addN (tmI rfl rfl) (tmI rfl rfl) (fit_i64 (by omega))) ?_
  refine wl_v (x_sliceLH Try.underlying22 ts_5 (tmS rfl rfl) (tmI rfl rfl) (tmI rfl rfl) (by omega)) ?_
  replace hS := hS.cutb 0 p (p + k - p) rfl (by omega : l.length ≤ c)
  refine wl_e rfl ?_; intro K hK
  refine ow_call Try.func34 rfl rfl (evs_cons (tmS rfl rfl) <| evs_nil) (rnum_c _ _ _ _ _ (viewV hS.ok 0 rfl) (by rw [List.length_take, List.length_drop]; omega) ((hb.drop p).take _) (by omega)) ?_
  rintro e w ⟨rfl, hk⟩
  refine ⟨_, rfl, ?_⟩
  replace hS := hS.kept hk
  clear hk
  refine hK _ _ ?_; clear hK K
  refine wl_v (x_assign (tmI rfl rfl)) ?_
  refine wl_nil ?_
  refine then_n (hK6 _ _ ?_); clear hK6 K6
  refine wp_ret ?_
  refine ret1 rfl (.tmp rfl (show _ = Value.int _ _ from rfl)) ?_
  rw [Nat.add_sub_cancel_left]
  exact ⟨rfl, hS.kp⟩


end Go.Proofs.Ytcobjneobdihkaa
/- The reference's Bytes and Join, by contract. Conditions: none but bounds. -/
namespace Go.Proofs.Ytcobjneobdihkaa
open Go.RowKit

set_option maxRecDepth 100000 in
set_option maxHeartbeats 4000000 in
theorem rbytes_c (N sz : Nat) (w0 : World) (hN : N ≤ 18446744073709551615) (hz : sz ≤ 8) :
    Calls Try.prog 73 #[.int .u64 (N : Int), .int .i64 (sz : Int)] w0 fun e w' => ∃ g, e = .returned (.slice (some ⟨g, 0, none⟩) sz sz) ∧ New w0 w' (.row (.slice (some ⟨g, 0, none⟩) sz sz) 5 1 sz ((be N sz).map u8v)) ∧ Kp [] w0 w' := by
  have hS := St.sv w0
  refine ent (n := 28) Try.func73 rfl rfl ?_
  refine wp_seq_k ?_; intro K1 hK1
  refine wlit ?_
  refine wl_v (x_assign ev_c) ?_
  refine wl_nil ?_
  refine then_n (hK1 _ _ ?_); clear hK1 K1
  refine wp_seq_k ?_; intro K2 hK2
  refine wp_seq_k ?_; intro K3 hK3
  refine wlit ?_
  refine wl_v (x_move (tmI rfl rfl)) ?_
  refine wl_v (x_lss (tmI rfl rfl) (ev_cN 0)) ?_
  refine wl_nil ?_
  refine then_n (hK3 _ _ ?_); clear hK3 K3
  refine cnd (tm rfl) (fun hc0 => ?_) (fun hc0 => ?_)
  · exfalso
    simp at hc0
    omega
  try simp only [nrm] at hc0
  refine wp_skip ?_
  refine then_n (hK2 _ _ ?_); clear hK2 K2
  refine wp_seq_k ?_; intro K4 hK4
  refine wp_seq_k ?_; intro K5 hK5
  refine wlit ?_
  refine wl_v (x_move (tmI rfl rfl)) ?_
  refine wl_v (x_gtr (tmI rfl rfl) (ev_cN 8)) ?_
  refine wl_nil ?_
  refine then_n (hK5 _ _ ?_); clear hK5 K5
  refine cnd (tm rfl) (fun hc1 => ?_) (fun hc1 => ?_)
  · exfalso
    simp at hc1
    omega
  try simp only [nrm] at hc1
  refine wp_skip ?_
  refine then_n (hK4 _ _ ?_); clear hK4 K4
  refine wp_seq_k ?_; intro K6 hK6
  refine wlit ?_
  refine wl_v (x_move (tmI rfl rfl)) ?_
  refine wl_e rfl ?_; intro K hK
  refine ow_make hS Try.underlying22 tz_5 rfl (tmI rfl rfl) (tmI rfl rfl) rfl (by omega) (by simp only [maxLen]; omega) ?_
  clear hS; intro g5_1 w hg5_1 hS
  refine hK _ _ ?_; clear hK K
  refine wl_v (x_assign (tmS rfl rfl)) ?_
  refine wl_nil ?_
  refine then_n (hK6 _ _ ?_); clear hK6 K6
  refine wp_seq_k ?_; intro K7 hK7
  refine wp_seq_k ?_; intro K8 hK8
  refine wlit ?_
  refine wl_v (x_move (tmI rfl rfl)) ?_
  refine wl_v (x_subI (tmI rfl rfl) (ev_cN 1) (IntWalk.i64_in _ (by omega))) ?_
  refine wl_v (x_assign (tmI rfl rfl)) ?_
  refine wl_nil ?_
  refine then_n (hK8 _ _ ?_); clear hK8 K8
  refine wp_block ?_
  refine lp [0, 6, 15, 16, 17, 18, 19, 20, 21, 22, 23, 24, 25, 26] (fun mz g w => ∃ (k : Nat), mz = sz - k ∧ g 6 = .int .i64 ((sz : Int) - 1 - (k : Int)) ∧ g 0 = .int .u64 ((N / 256 ^ k : Nat) : Int) ∧ St [] w0 [.row (.slice (some ⟨g5_1, 0, none⟩) sz sz) 5 1 sz ((filledDown (be N sz) (sz - k)).map u8v)] w ∧ (k ≤ sz)) ?_ ?_
  · exact ⟨_, 0, rfl, (by first | rfl | go_num | exact congrArg (Value.int _) (by first | omega | (simp; done) | (simp; omega))), (by first | rfl | go_num | exact congrArg (Value.int _) (by first | omega | (simp; done) | (simp; omega))), (by have h := filledDown_all (be N sz); rw [be_length] at h; rw [Nat.sub_zero, h]; simpa [u8v] using hS), (by omega)⟩
  · clear hS; intro mz g w hI
    obtain ⟨k, rfl, hs6, hs0, hS, hk⟩ := hI
    refine fr_know (d := 6) hs6 ?_; clear hs6
    refine fr_know (d := 0) hs0 ?_; clear hs0
    refine wp_seq_k ?_; intro K9 hK9
    refine wp_seq_k ?_; intro K10 hK10
    refine wlit ?_
    refine wl_v (x_move (tmI rfl rfl)) ?_
    refine wl_v (x_geq (tmI rfl rfl) (ev_cN 0)) ?_
    refine wl_nil ?_
    refine then_n (hK10 _ _ ?_); clear hK10 K10
    refine cnd (tm rfl) (fun hc2 => ?_) (fun hc2 => ?_)
    · skip
      try simp only [nrm] at hc2
      have hix : (sz : Int) - 1 - (k : Int) = ((sz - 1 - k : Nat) : Int) := by omega
      have hfl : (filledDown (be N sz) (sz - k)).length = sz := by rw [filledDown_length _ _ (by rw [be_length]; omega), be_length]
      have hx : N / 256 ^ (k + 1) = N / 256 ^ k / 256 := by rw [Nat.div_div_eq_div_mul, Nat.pow_succ]
      have hNk : N / 256 ^ k ≤ N := Nat.div_le_self _ _
      have hm : ((filledDown (be N sz) (sz - k)).map u8v).set (sz - 1 - k) (.int .u8 ((N / 256 ^ k % 256 : Nat) : Int)) = (filledDown (be N sz) (sz - (k + 1))).map u8v := by
        have h1 := filledDown_set (be N sz) (sz - 1 - k) (by rw [be_length]; omega)
        rw [be_nth N sz _ (by omega), show sz - 1 - (sz - 1 - k) = k by omega, show sz - 1 - k + 1 = sz - k by omega] at h1
        rw [show sz - (k + 1) = sz - 1 - k by omega, ← h1, ← map_set_u8v]; rfl
      refine wp_skip ?_
      refine then_n (hK9 _ _ ?_); clear hK9 K9
      refine wp_seq_k ?_; intro K11 hK11
      refine wp_block ?_
      refine wp_seq_k ?_; intro K12 hK12
      refine wlit ?_
      refine wl_v (x_move (tmS rfl rfl)) ?_
      refine wl_v (x_move (tmI rfl rfl)) ?_
      refine wl_v (x_move (tmI rfl rfl)) ?_
      refine wl_v (x_remN (tmI rfl rfl) (ev_cN 256) (by omega)) ?_
      refine wl_v (x_convN Try.underlying24 Try.underlying5 (tmI rfl rfl) (fit_u8 (by omega))) ?_
      refine wl_v (x_ixs1 Try.underlying22 ts_5 (tmS rfl rfl) (tmI rfl (congrArg (Value.int .i64) hix)) (by omega)) ?_
      refine wl_e rfl ?_; intro K hK
      refine ow_storeR hS 0 rfl ts_5 (tmP rfl rfl) (tmI rfl rfl) rfl (by first | omega | (simp; omega)) ?_
      clear hS; intro w hS
      refine hK _ _ ?_; clear hK K
      refine wl_nil ?_
      refine then_n (hK12 _ _ ?_); clear hK12 K12
      refine wlit ?_
      refine wl_v (x_move (tmI rfl rfl)) ?_
      refine wl_v (x_quoN (tmI rfl rfl) (ev_cN 256) (by omega) (fit_u64 (by omega))) ?_
      refine wl_v (x_assign (tmI rfl rfl)) ?_
      refine wl_nil ?_
      refine inb_n ?_
      refine then_n (hK11 _ _ ?_); clear hK11 K11
      refine wlit ?_
      refine wl_v (x_move (tmI rfl rfl)) ?_
      refine wl_v (x_subI (tmI rfl rfl) (ev_cN 1) (IntWalk.i64_in _ (by omega))) ?_
      refine wl_v (x_assign (tmI rfl rfl)) ?_
      refine wl_nil ?_
      exact then_n ⟨_, _, rfl, (by show _ < _; omega), (by repeat (first | exact agree_self | exact agree_refl | refine agree_upd rfl ?_ | refine agree_mix rfl ?_)), k + 1, rfl, (by first | rfl | go_num | exact congrArg (Value.int _) (by first | omega | (simp; done) | (simp; omega))), (by first | rfl | (rw [hx]; done) | (rw [hx]; rfl) | (rw [hx]; go_num)), (by rw [← hm]; exact hS), (by omega)⟩
    try simp only [nrm] at hc2
    refine wp_exit ?_
    refine then_x ?_; clear hK9 K9
    refine then_x ?_
    refine inb_x ?_
    refine then_n (hK7 _ _ ?_); clear hK7 K7
    refine wp_seq_k ?_; intro K13 hK13
    refine wlit ?_
    refine wl_v (x_move (tmS rfl rfl)) ?_
    refine wl_v (x_assign (tmS rfl rfl)) ?_
    refine wl_nil ?_
    refine then_n (hK13 _ _ ?_); clear hK13 K13
    refine wp_ret ?_
    refine ret1 rfl (.tmp rfl (show _ = Value.slice _ _ _ from rfl)) ?_
    obtain rfl : k = sz := by omega
    rw [Nat.sub_self, filledDown_zero] at hS
    exact ⟨_, rfl, hS.new 0 rfl rfl, hS.kp⟩

def rowV (r : Option Addr × List Nat × Nat) : Value := .slice r.1 r.2.1.length r.2.2
def joined (rows : List (Option Addr × List Nat × Nat)) : List Nat := (rows.map fun r => r.2.1).flatten
instance : Inhabited (Option Addr × List Nat × Nat) := ⟨(none, [], 0)⟩
theorem joined_snoc (rows : List (Option Addr × List Nat × Nat)) (k : Nat) (h : k < rows.length) : joined (rows.take (k + 1)) = joined (rows.take k) ++ (rows.getD k default).2.1 := by
  unfold joined
  rw [List.take_succ_eq_append_getElem h, List.map_append, List.flatten_append, List.getD_eq_getElem?_getD, List.getElem?_eq_getElem h]
  simp
theorem joined_le (rows : List (Option Addr × List Nat × Nat)) (k : Nat) : (joined (rows.take k)).length ≤ (joined rows).length := by
  conv => rhs; rw [← List.take_append_drop k rows]
  unfold joined
  rw [List.map_append, List.flatten_append, List.length_append]
  omega
def SeenRows (w : World) (rows : List (Option Addr × List Nat × Nat)) : Prop := ∀ k, k < rows.length → View w w.heap.size (rows.getD k default).1 ((rows.getD k default).2.1.map u8v)
theorem SeenRows.kept {w w' : World} {rows : List (Option Addr × List Nat × Nat)} (h : SeenRows w rows) (hk : Kp [] w w') : SeenRows w' rows := fun k hlt => ((h k hlt).below hk.below).more hk.size
theorem seen_nil {w : World} : SeenRows w [] := fun k hk => by simp at hk
theorem seen_cons {w : World} {A : Option Addr} {l : List Nat} {c : Nat} {rows : List (Option Addr × List Nat × Nat)} (h : View w w.heap.size A (l.map u8v)) (hs : SeenRows w rows) : SeenRows w ((A, l, c) :: rows) := fun k hk => by
  cases k with
  | zero => exact h
  | succ k => exact hs k (by simpa using hk)
set_option maxRecDepth 100000 in
set_option maxHeartbeats 4000000 in
theorem join_c (n : Nat) (A : Option Addr) (c : Nat) (rows : List (Option Addr × List Nat × Nat)) (w0 : World) (hv : View w0 w0.heap.size A (rows.map rowV)) (hr : SeenRows w0 rows) (hl : rows.length = n) (hn4 : n ≤ 1000000) (hj4 : (joined rows).length ≤ 1000000) :
    Calls Try.prog 57 #[.slice A n c] w0 fun e w' => ∃ A' m c', m = (joined rows).length ∧ e = .returned (.slice A' m c') ∧ New w0 w' (.row (.slice A' m c') 5 1 m ((joined rows).map u8v)) ∧ Kp [] w0 w' := by
  have hS := (St.sv w0).vcons rfl hv
  refine ent (n := 18) Try.func57 rfl rfl ?_
  refine wp_seq_k ?_; intro K1 hK1
  refine wlit ?_
  refine wl_v (x_assign ev_c) ?_
  refine wl_nil ?_
  refine then_n (hK1 _ _ ?_); clear hK1 K1
  refine wp_seq_k ?_; intro K2 hK2
  refine wlit ?_
  refine wl_v (x_assign ev_c) ?_
  refine wl_nil ?_
  refine then_n (hK2 _ _ ?_); clear hK2 K2
  refine wp_seq_k ?_; intro K3 hK3
  refine wp_seq_k ?_; intro K4 hK4
  refine wlit ?_
  refine wl_v (x_assign (ev_cN 0)) ?_
  refine wl_nil ?_
  refine then_n (hK4 _ _ ?_); clear hK4 K4
  refine wp_block ?_
  have hS := hS.nilrow 5 1
  refine lp [3, 4, 5, 6, 7, 8, 9, 10, 11, 12, 13, 14, 15, 16] (fun mz g w => ∃ (k : Nat), ∃ (A' : Option Addr), ∃ (m : Nat), ∃ (c' : Nat), mz = n - k ∧ g 4 = .int .i64 (k : Int) ∧ g 3 = .slice A' m c' ∧ St [] w0 [.row (.slice A' m c') 5 1 m ((joined (rows.take k)).map u8v), .vw A (rows.map rowV)] w ∧ (k ≤ n) ∧ (m = (joined (rows.take k)).length)) ?_ ?_
  · exact ⟨_, 0, none, 0, 0, rfl, (by first | rfl | go_num | exact congrArg (Value.int _) (by first | omega | (simp; done) | (simp; omega))), (by first | rfl | go_num | exact congrArg (Value.int _) (by first | omega | (simp; done) | (simp; omega))), hS, (by omega), (by first | rfl | (rw [hx, List.length_append, ← hm]))⟩
  · clear hS; intro mz g w hI
    obtain ⟨k, A', m, c', rfl, hs4, hs3, hS, hk, hm⟩ := hI
    refine fr_know (d := 4) hs4 ?_; clear hs4
    refine fr_know (d := 3) hs3 ?_; clear hs3
    refine wp_seq_k ?_; intro K5 hK5
    refine wp_seq_k ?_; intro K6 hK6
    refine wlit ?_
    refine wl_v (x_move (tmI rfl rfl)) ?_
    refine wl_v (x_move (tmS rfl rfl)) ?_
    refine wl_v (x_len Try.underlying126 (tmS rfl rfl)) ?_
    refine wl_v (x_lss (tmI rfl rfl) (tmI rfl rfl)) ?_
    refine wl_nil ?_
    refine then_n (hK6 _ _ ?_); clear hK6 K6
    refine cnd (tm rfl) (fun hc0 => ?_) (fun hc0 => ?_)
    · skip
      try simp only [nrm] at hc0
      obtain ⟨b4, o4, rfl⟩ := view_some hv (by rw [List.length_map]; omega)
      have hvk := hr.kept hS.kp k (by omega)
      have hx := joined_snoc rows k (by omega)
      have hle := joined_le rows (k + 1)
      rw [hx, List.length_append, ← hm] at hle
      have hrow : (rows.map rowV)[0 + k]? = some (.slice (rows.getD k default).1 (rows.getD k default).2.1.length (rows.getD k default).2.2) := by
        rw [Nat.zero_add, List.getElem?_map, List.getD_eq_getElem?_getD, List.getElem?_eq_getElem (by omega)]; rfl
      generalize rows.getD k default = r at *
      refine wp_skip ?_
      refine then_n (hK5 _ _ ?_); clear hK5 K5
      refine wp_seq_k ?_; intro K7 hK7
      refine wp_block ?_
      refine wlit ?_
      refine wl_v (x_move (tmS rfl rfl)) ?_
      refine wl_v (x_move (tmS rfl rfl)) ?_
      refine wl_v (x_move (tmI rfl rfl)) ?_
      refine wl_v (x_ixs1 Try.underlying126 ts_22 (tmS rfl rfl) (tmI rfl rfl) (by omega)) ?_
      refine wl_v (x_load Try.underlying22 rfl (tmP rfl rfl) (cellV hS.ok 1 rfl (by rw [← hrow, Nat.zero_add]))) ?_
      refine wl_e rfl ?_; intro K hK
      refine ow_appendV hS 0 rfl hvk Try.underlying22 tz_5 rfl (tmS rfl rfl) (tmS rfl rfl) (u8v_one _) ⟨by decide, by simp⟩ (by simp only [maxLen]; omega) (by omega) ?_
      clear hS; intro g5_5 cg5_5 w hA hC hS
      refine hK _ _ ?_; clear hK K
      refine wl_v (x_assign (tmS rfl rfl)) ?_
      refine wl_nil ?_
      refine inb_n ?_
      refine then_n (hK7 _ _ ?_); clear hK7 K7
      refine wlit ?_
      refine wl_v (x_move (tmI rfl rfl)) ?_
      refine wl_v (x_addN (tmI rfl rfl) (ev_cN 1) (fit_i64 (by omega))) ?_
      refine wl_v (x_assign (tmI rfl rfl)) ?_
      refine wl_nil ?_
      exact then_n ⟨_, _, rfl, (by show _ < _; omega), (by repeat (first | exact agree_self | exact agree_refl | refine agree_upd rfl ?_ | refine agree_mix rfl ?_)), k + 1, _, _, _, rfl, (by first | rfl | go_num | exact congrArg (Value.int _) (by first | omega | (simp; done) | (simp; omega))), (by first | rfl | go_num | exact congrArg (Value.int _) (by first | omega | (simp; done) | (simp; omega))), (by rw [hx, List.map_append]; exact hS), (by omega), (by first | rfl | (rw [hx, List.length_append, ← hm]))⟩
    try simp only [nrm] at hc0
    refine wp_exit ?_
    refine then_x ?_; clear hK5 K5
    refine then_x ?_
    refine inb_x ?_
    refine then_n (hK3 _ _ ?_); clear hK3 K3
    refine wp_seq_k ?_; intro K8 hK8
    refine wlit ?_
    refine wl_v (x_move (tmS rfl rfl)) ?_
    refine wl_v (x_assign (tmS rfl rfl)) ?_
    refine wl_nil ?_
    refine then_n (hK8 _ _ ?_); clear hK8 K8
    refine wp_ret ?_
    refine ret1 rfl (.tmp rfl (show _ = Value.slice _ _ _ from rfl)) ?_
    obtain rfl : k = n := by omega
    rw [List.take_of_length_le (by omega)] at hS hm
    exact ⟨_, _, _, hm, rfl, hS.new 0 rfl rfl, hS.kp⟩
end Go.Proofs.Ytcobjneobdihkaa
/- Reading a law's arguments: structs, slices, by cells. Any program. -/
namespace Go.Proofs.Ytcobjneobdihkaa
open Go.ChangeShapes Go.WideShapes Go.ChangeAt Go.RowKit

/-- A slice: where it lies, what it holds, its capacity. -/
structure Sl (α : Type) where
  a : Option Addr
  l : List α
  c : Nat
instance {α : Type} : Inhabited (Sl α) := ⟨⟨none, [], 0⟩⟩
def okB (w : World) (s : Sl Nat) : Prop := s.l.length ≤ s.c ∧ s.c ≤ maxLen ∧ Bytes s.l ∧ View w w.heap.size s.a (s.l.map u8v)
theorem okB.len {w : World} {s : Sl Nat} (h : okB w s) : s.l.length ≤ s.c := h.1
theorem okB.bytes {w : World} {s : Sl Nat} (h : okB w s) : Bytes s.l := h.2.2.1
theorem okB.view {w : World} {s : Sl Nat} (h : okB w s) : View w w.heap.size s.a (s.l.map u8v) := h.2.2.2

section
variable {H : Type} {enc : TypeId × Value → H} {P : Program} {w : World} {t e : TypeId} {fuel : Nat} {cs : List Value} {x : DataW H × List MemPlace}
end
end Go.Proofs.Ytcobjneobdihkaa
/- addr: Bytes, Of, Right and the references', by contract. Conditions: none but bounds. -/
namespace Go.Proofs.Ytcobjneobdihkaa
open Go.ChangeShapes Go.WideShapes Go.ChangeAt Go.RowKit
structure Ad where
  six : Bool
  high : Nat
  low : Nat
def Ad.V (s : Ad) : List Value := [.bool s.six, .int .u64 (s.high : Int), .int .u64 (s.low : Int)]
theorem Ad.len (s : Ad) : s.V.length = 3 := rfl
def Ad.ok (w : World) (s : Ad) : Prop := True ∧ s.high < 18446744073709551616 ∧ s.low < 18446744073709551616
instance : Inhabited Ad := ⟨⟨false, 0, 0⟩⟩
def adB (a : Ad) : List Nat := cond a.six (be a.high 8 ++ be a.low 8) (be a.low 4)
def adN (a : Ad) : Nat := cond a.six 16 4
theorem adB_len (a : Ad) : (adB a).length = adN a := by unfold adB adN; cases a.six <;> simp [be_length]
theorem adB_bytes (a : Ad) : Bytes (adB a) := by
  unfold adB
  cases a.six
  · exact be_bytes _ _
  · exact (be_bytes _ _).append (be_bytes _ _)
def adRight (a : Ad) : Prop := a.six = true ∨ a.high = 0 ∧ a.low ≤ 4294967295
instance (a : Ad) : Decidable (adRight a) := by unfold adRight; exact inferInstance
def adLim (a : Ad) : Prop := a.high ≤ 18446744073709551615 ∧ a.low ≤ 18446744073709551615

set_option maxRecDepth 100000 in
set_option maxHeartbeats 4000000 in
theorem ad_bytes_c (a : Ad) (w0 : World) (hl : adLim a) :
    Calls Try.prog 50 #[.agg a.V.toArray] w0 fun e w' => ∃ A' n c', n = adN a ∧ e = .returned (.slice A' n c') ∧ New w0 w' (.row (.slice A' n c') 5 1 n ((adB a).map u8v)) ∧ Kp [] w0 w' := by
  obtain ⟨six, high, low⟩ := a
  have hl1 : high ≤ 18446744073709551615 := hl.1
  have hl2 : low ≤ 18446744073709551615 := hl.2
  have hS := St.sv w0
  refine ent (n := 14) Try.func50 rfl rfl ?_
  refine wp_seq_k ?_; intro K1 hK1
  refine wlit ?_
  refine wl_e rfl ?_; intro K hK
  refine ow_box hS (tmA rfl rfl) rfl ?_
  clear hS; intro g0_0 w hg0_0 hS
  refine hK _ _ ?_; clear hK K
  refine wl_v (x_assign ev_c) ?_
  refine wl_nil ?_
  refine then_n (hK1 _ _ ?_); clear hK1 K1
  refine wp_seq_k ?_; intro K2 hK2
  refine wp_seq_k ?_; intro K3 hK3
  refine wlit ?_
  refine wl_v (x_fa 0 Try.underlying26 rfl rfl ts_4 (tmP rfl rfl)) ?_
  refine wl_v (x_load Try.underlying4 rfl (tmP rfl rfl) (cellB hS.ok 0 rfl rfl)) ?_
  refine wl_nil ?_
  refine then_n (hK3 _ _ ?_); clear hK3 K3
  refine cnd (tm rfl) (fun hc0 => ?_) (fun hc0 => ?_)
  · skip
    try simp only [nrm] at hc0
    subst hc0
    refine wp_seq_k ?_; intro K4 hK4
    refine rg_startk 0 hS mixed_ ?_
    clear hS; intro w hS
    refine rg_take 0 rfl rfl (by kernel_rfl) (by kernel_rfl) (by kernel_rfl) (want_0) (fun w hok => x_fa 1 Try.underlying26 rfl rfl ts_24 (tmP rfl rfl)) ?_
    refine rg_take 1 rfl rfl (by kernel_rfl) (by kernel_rfl) (by kernel_rfl) (want_0) (fun w hok => x_load Try.underlying24 rfl (tmP rfl rfl) (cellB hok 0 rfl rfl)) ?_
    refine rg_take 3 rfl rfl (by kernel_rfl) (by kernel_rfl) (by kernel_rfl) (want_0) (fun w hok => x_fa 2 Try.underlying26 rfl rfl ts_24 (tmP rfl rfl)) ?_
    refine rg_take 4 rfl rfl (by kernel_rfl) (by kernel_rfl) (by kernel_rfl) (want_0) (fun w hok => x_load Try.underlying24 rfl (tmP rfl rfl) (cellB hok 0 rfl rfl)) ?_
    refine rg_step 2 rfl (by kernel_rfl) (want_0) (oks_drop hS 0 rfl) ?_; intro K hK
    refine ow_call Try.func48 rfl rfl (evs_cons ev_c <| evs_cons (tmI rfl rfl) <| evs_cons (ev_cN 8) <| evs_nil) (put_c 0 none 0 [] high 8 _ View.nil_ rfl (by omega) (by omega) (by omega)) ?_
    rintro e w ⟨g1, rfl, hn, hk⟩
    refine ⟨_, rfl, ?_⟩
    replace hS := hS.add hk hn -- +rowa
    clear hn hk
    refine hK _ _ ?_; clear hK K
    refine rg_step 5 rfl (by kernel_rfl) (want_0) (oks_drop hS 1 rfl) ?_; intro K hK
    refine ow_call Try.func48 rfl rfl (evs_cons (tmS rfl rfl) <| evs_cons (tmI rfl rfl) <| evs_cons (ev_cN 8) <| evs_nil) (put_c _ _ _ _ low 8 _ (viewR hS.ok 0 rfl) (by simp [be_length]) (by omega) (by omega) (by omega)) ?_
    rintro e w ⟨g2, rfl, hn, hk⟩
    refine ⟨_, rfl, ?_⟩
    replace hS := hS.add hk hn -- +rowb
    clear hn hk
    refine hK _ _ ?_; clear hK K
    refine rg_take 6 rfl rfl (by kernel_rfl) (by kernel_rfl) (by kernel_rfl) (want_0) (fun w hok => x_assign (tmS rfl rfl)) ?_
    refine rg_done (oks_drop hS 2 rfl) (by kernel_rfl) ?_
    refine then_n (hK4 _ _ ?_); clear hK4 K4
    refine wp_ret ?_
    refine then_r ?_
    refine ret1 rfl (.tmp rfl (show _ = Value.slice _ _ _ from rfl)) ?_
    exact ⟨_, _, _, by rfl, rfl, hS.new 0 rfl rfl, hS.kp⟩
  try simp only [nrm] at hc0
  subst hc0
  refine wp_skip ?_
  refine then_n (hK2 _ _ ?_); clear hK2 K2
  refine wp_seq_k ?_; intro K5 hK5
  refine wlit ?_
  refine wl_v (x_fa 2 Try.underlying26 rfl rfl ts_24 (tmP rfl rfl)) ?_
  refine wl_v (x_load Try.underlying24 rfl (tmP rfl rfl) (cellB hS.ok 0 rfl rfl)) ?_
  refine wl_e rfl ?_; intro K hK
  refine ow_call Try.func48 rfl rfl (evs_cons ev_c <| evs_cons (tmI rfl rfl) <| evs_cons (ev_cN 4) <| evs_nil) (put_c 0 none 0 [] low 4 _ View.nil_ rfl (by omega) (by omega) (by omega)) ?_
  rintro e w ⟨g1, rfl, hn, hk⟩
  refine ⟨_, rfl, ?_⟩
  replace hS := hS.add hk hn -- +rowb
  clear hn hk
  refine hK _ _ ?_; clear hK K
  refine wl_v (x_assign (tmS rfl rfl)) ?_
  refine wl_nil ?_
  refine then_n (hK5 _ _ ?_); clear hK5 K5
  refine wp_ret ?_
  refine ret1 rfl (.tmp rfl (show _ = Value.slice _ _ _ from rfl)) ?_
  exact ⟨_, _, _, by rfl, rfl, hS.new 0 rfl rfl, hS.kp⟩

set_option maxRecDepth 100000 in
set_option maxHeartbeats 4000000 in
theorem rad_bytes_c (a : Ad) (w0 : World) (hl : adLim a) :
    Calls Try.prog 74 #[.agg a.V.toArray] w0 fun e w' => ∃ A' n c', n = adN a ∧ e = .returned (.slice A' n c') ∧ New w0 w' (.row (.slice A' n c') 5 1 n ((adB a).map u8v)) ∧ Kp [] w0 w' := by
  obtain ⟨six, high, low⟩ := a
  have hl1 : high ≤ 18446744073709551615 := hl.1
  have hl2 : low ≤ 18446744073709551615 := hl.2
  have hS := St.sv w0
  refine ent (n := 16) Try.func74 rfl rfl ?_
  refine wp_seq_k ?_; intro K1 hK1
  refine wlit ?_
  refine wl_e rfl ?_; intro K hK
  refine ow_box hS (tmA rfl rfl) rfl ?_
  clear hS; intro g0_0 w hg0_0 hS
  refine hK _ _ ?_; clear hK K
  refine wl_v (x_assign ev_c) ?_
  refine wl_nil ?_
  refine then_n (hK1 _ _ ?_); clear hK1 K1
  refine wp_seq_k ?_; intro K2 hK2
  refine wp_seq_k ?_; intro K3 hK3
  refine wlit ?_
  refine wl_v (x_fa 0 Try.underlying26 rfl rfl ts_4 (tmP rfl rfl)) ?_
  refine wl_v (x_load Try.underlying4 rfl (tmP rfl rfl) (cellB hS.ok 0 rfl rfl)) ?_
  refine wl_v (x_not (tmB rfl rfl)) ?_
  refine wl_nil ?_
  refine then_n (hK3 _ _ ?_); clear hK3 K3
  refine cnd (tm rfl) (fun hc0 => ?_) (fun hc0 => ?_)
  · skip
    try simp only [nrm] at hc0
    obtain rfl : six = false := hc0
    refine wp_seq_k ?_; intro K4 hK4
    refine wlit ?_
    refine wl_v (x_fa 2 Try.underlying26 rfl rfl ts_24 (tmP rfl rfl)) ?_
    refine wl_v (x_load Try.underlying24 rfl (tmP rfl rfl) (cellB hS.ok 0 rfl rfl)) ?_
    refine wl_e rfl ?_; intro K hK
    refine ow_call Try.func73 rfl rfl (evs_cons (tmI rfl rfl) <| evs_cons (ev_cN 4) <| evs_nil) (rbytes_c low 4 _ (by omega) (by omega)) ?_
    rintro e w ⟨g1, rfl, hn, hk⟩
    refine ⟨_, rfl, ?_⟩
    replace hS := hS.add hk hn -- +rowa
    clear hn hk
    refine hK _ _ ?_; clear hK K
    refine wl_v (x_assign (tmS rfl rfl)) ?_
    refine wl_nil ?_
    refine then_n (hK4 _ _ ?_); clear hK4 K4
    refine wp_ret ?_
    refine then_r ?_
    refine ret1 rfl (.tmp rfl (show _ = Value.slice _ _ _ from rfl)) ?_
    exact ⟨_, _, _, by rfl, rfl, hS.new 0 rfl rfl, hS.kp⟩
  try simp only [nrm] at hc0
  obtain rfl : six = true := hc0
  refine wp_skip ?_
  refine then_n (hK2 _ _ ?_); clear hK2 K2
  refine wp_seq_k ?_; intro K5 hK5
  refine rg_startk 0 hS mixed_ ?_
  clear hS; intro w hS
  refine rg_take 0 rfl rfl (by kernel_rfl) (by kernel_rfl) (by kernel_rfl) (want_0) (fun w hok => x_fa 1 Try.underlying26 rfl rfl ts_24 (tmP rfl rfl)) ?_
  refine rg_take 1 rfl rfl (by kernel_rfl) (by kernel_rfl) (by kernel_rfl) (want_0) (fun w hok => x_load Try.underlying24 rfl (tmP rfl rfl) (cellB hok 0 rfl rfl)) ?_
  refine rg_take 3 rfl rfl (by kernel_rfl) (by kernel_rfl) (by kernel_rfl) (want_0) (fun w hok => x_fa 2 Try.underlying26 rfl rfl ts_24 (tmP rfl rfl)) ?_
  refine rg_take 4 rfl rfl (by kernel_rfl) (by kernel_rfl) (by kernel_rfl) (want_0) (fun w hok => x_load Try.underlying24 rfl (tmP rfl rfl) (cellB hok 0 rfl rfl)) ?_
  refine rg_step 2 rfl (by kernel_rfl) (want_0) (oks_drop hS 0 rfl) ?_; intro K hK
  refine ow_call Try.func73 rfl rfl (evs_cons (tmI rfl rfl) <| evs_cons (ev_cN 8) <| evs_nil) (rbytes_c high 8 _ (by omega) (by omega)) ?_
  rintro e w ⟨g1, rfl, hn, hk⟩
  refine ⟨_, rfl, ?_⟩
  replace hS := hS.add hk hn -- +rowa
  clear hn hk
  refine hK _ _ ?_; clear hK K
  refine rg_step 5 rfl (by kernel_rfl) (want_0) (oks_drop hS 1 rfl) ?_; intro K hK
  refine ow_call Try.func73 rfl rfl (evs_cons (tmI rfl rfl) <| evs_cons (ev_cN 8) <| evs_nil) (rbytes_c low 8 _ (by omega) (by omega)) ?_
  rintro e w ⟨g2, rfl, hn, hk⟩
  refine ⟨_, rfl, ?_⟩
  replace hS := (hS.add hk hn).freeze 0 rfl -- +vb
  clear hn hk
  refine hK _ _ ?_; clear hK K
  refine rg_step 6 rfl (by kernel_rfl) (want_0) (oks_drop hS 2 rfl) ?_; intro K hK
  refine ow_appendV hS 1 rfl (viewV hS.ok 0 rfl) Try.underlying22 tz_5 rfl (tmS rfl rfl) (tmS rfl rfl) (by first | exact u8v_one _ | (intro u hu; simp at hu; first | (rcases hu with rfl | rfl <;> rfl) | (obtain ⟨_, _, rfl⟩ := hu; rfl))) ⟨by decide, by first | rfl | (simp; done) | (simp; omega)⟩ (by simp only [maxLen]; omega) (by omega) ?_; clear hS; intro g3_6 cg3_6 w hAg3_6 hCg3_6 hS
  refine hK _ _ ?_; clear hK K
  refine rg_take 7 rfl rfl (by kernel_rfl) (by kernel_rfl) (by kernel_rfl) (want_0) (fun w hok => x_assign (tmS rfl rfl)) ?_
  refine rg_done (oks_drop hS 2 rfl) (by kernel_rfl) ?_
  rw [← List.map_append] at hS
  refine then_n (hK5 _ _ ?_); clear hK5 K5
  refine wp_ret ?_
  refine ret1 rfl (.tmp rfl (show _ = Value.slice _ _ _ from rfl)) ?_
  exact ⟨_, _, _, by rfl, rfl, hS.new 1 rfl rfl, hS.kp⟩

set_option maxRecDepth 100000 in
set_option maxHeartbeats 4000000 in
theorem ad_right_c_ (six : Bool) (high low : Nat) (w0 : World) :
    Calls Try.prog 69 #[.agg [.bool six, .int .u64 (high : Int), .int .u64 (low : Int)].toArray] w0 fun e w' => e = .returned (.bool (decide (six = true ∨ high = 0 ∧ low ≤ 4294967295))) ∧ Kp [] w0 w' := by
  have hS := St.sv w0
  refine ent (n := 15) Try.func69 rfl rfl ?_
  refine wp_seq_k ?_; intro K1 hK1
  refine wlit ?_
  refine wl_e rfl ?_; intro K hK
  refine ow_box hS (tmA rfl rfl) rfl ?_
  clear hS; intro g0_0 w hg0_0 hS
  refine hK _ _ ?_; clear hK K
  refine wl_v (x_assign ev_c) ?_
  refine wl_nil ?_
  refine then_n (hK1 _ _ ?_); clear hK1 K1
  refine wp_seq_k ?_; intro K2 hK2
  refine wlit ?_
  refine wl_v (x_fa 0 Try.underlying26 rfl rfl ts_4 (tmP rfl rfl)) ?_
  refine wl_v (x_load Try.underlying4 rfl (tmP rfl rfl) (cellB hS.ok 0 rfl rfl)) ?_
  refine wl_v (x_move (tmB rfl rfl)) ?_
  refine gs_wl (tm (t := 5) rfl) (fun hg1_2 => ?_) (fun hg1_2 => ?_)
  · have hg1_2' := hg1_2; (try simp only [nrm] at hg1_2')
    refine wl_s rfl (want_n rfl rfl rfl rfl (by rw [hg1_2]; rfl)) ?_
    refine wl_s rfl (want_n rfl rfl rfl rfl (by rw [hg1_2]; rfl)) ?_
    refine wl_s rfl (want_n rfl rfl rfl rfl (by rw [hg1_2]; rfl)) ?_
    refine wl_s rfl (want_n rfl rfl rfl rfl (by rw [hg1_2]; rfl)) ?_
    refine wl_s rfl (want_u rfl rfl rfl rfl) ?_
    refine wl_s rfl (want_u rfl rfl rfl rfl) ?_
    refine wl_s rfl (want_u rfl rfl rfl rfl) ?_
    refine wl_s rfl (want_n rfl rfl rfl rfl (by rw [hg1_2]; rfl)) ?_
    refine wl_v (x_pickT (tmB rfl rfl) hg1_2 ev_c) ?_
    refine wl_v (x_assign (tmB rfl rfl)) ?_
    refine wl_nil ?_
    refine then_n (hK2 _ _ ?_); clear hK2 K2
    refine wp_ret ?_
    refine ret1 rfl (.tmp rfl (show _ = Value.bool _ from rfl)) ?_
    refine ⟨ret_bool (Bool.eq_iff_iff.2 ?_), hS.kp⟩
    clear hS
    simp only [decide_eq_true_eq, nrm]
    constructor <;> intro h <;> first
      | trivial
      | exact .inl hg1_2
      | exact hg1_2
      | exact .inr ⟨by omega, by omega⟩
      | omega
      | exact absurd h (by decide)
      | (rcases h with h | h <;> first | exact absurd (h.symm.trans hg1_2) (by decide) | omega)
  have hg1_2' := hg1_2; (try simp only [nrm] at hg1_2')
  refine wl_gv (want_y rfl rfl rfl rfl (by rw [hg1_2]; rfl)) (x_fa 1 Try.underlying26 rfl rfl ts_24 (tmP rfl rfl)) ?_
  refine wl_gv (want_y rfl rfl rfl rfl (by rw [hg1_2]; rfl)) (x_load Try.underlying24 rfl (tmP rfl rfl) (cellB hS.ok 0 rfl rfl)) ?_
  refine wl_gv (want_y rfl rfl rfl rfl (by rw [hg1_2]; rfl)) (x_eql (tmI rfl rfl) (ev_cN 0)) ?_
  refine wl_gv (want_y rfl rfl rfl rfl (by rw [hg1_2]; rfl)) (x_move (tmB rfl rfl)) ?_
  refine gs_wl (tm (t := 9) rfl) (fun hg1_6 => ?_) (fun hg1_6 => ?_)
  · have hg1_6' := hg1_6; (try simp only [nrm] at hg1_6')
    refine wl_gv (want_y rfl rfl rfl rfl (by rw [hg1_6]; rfl)) (x_fa 2 Try.underlying26 rfl rfl ts_24 (tmP rfl rfl)) ?_
    refine wl_gv (want_y rfl rfl rfl rfl (by rw [hg1_6]; rfl)) (x_load Try.underlying24 rfl (tmP rfl rfl) (cellB hS.ok 0 rfl rfl)) ?_
    refine wl_gv (want_y rfl rfl rfl rfl (by rw [hg1_6]; rfl)) (x_lss (tmI rfl rfl) (ev_cN 4294967296)) ?_
    refine wl_gv (want_y rfl rfl rfl rfl (by rw [hg1_2]; rfl)) (x_pickT (tmB rfl rfl) hg1_6 (tmB rfl rfl)) ?_
    refine wl_v (x_pickF (tmB rfl rfl) hg1_2 (tmB rfl rfl)) ?_
    refine wl_v (x_assign (tmB rfl rfl)) ?_
    refine wl_nil ?_
    refine then_n (hK2 _ _ ?_); clear hK2 K2
    refine wp_ret ?_
    refine ret1 rfl (.tmp rfl (show _ = Value.bool _ from rfl)) ?_
    refine ⟨ret_bool (Bool.eq_iff_iff.2 ?_), hS.kp⟩
    clear hS
    simp only [decide_eq_true_eq, nrm]
    constructor <;> intro h <;> first
      | trivial
      | exact .inl hg1_2
      | exact hg1_2
      | exact .inr ⟨by omega, by omega⟩
      | omega
      | exact absurd h (by decide)
      | (rcases h with h | h <;> first | exact absurd (h.symm.trans hg1_2) (by decide) | omega)
  have hg1_6' := hg1_6; (try simp only [nrm] at hg1_6')
  refine wl_s rfl (want_n rfl rfl rfl rfl (by rw [hg1_6]; rfl)) ?_
  refine wl_s rfl (want_n rfl rfl rfl rfl (by rw [hg1_6]; rfl)) ?_
  refine wl_s rfl (want_n rfl rfl rfl rfl (by rw [hg1_6]; rfl)) ?_
  refine wl_gv (want_y rfl rfl rfl rfl (by rw [hg1_2]; rfl)) (x_pickF (tmB rfl rfl) hg1_6 ev_c) ?_
  refine wl_v (x_pickF (tmB rfl rfl) hg1_2 (tmB rfl rfl)) ?_
  refine wl_v (x_assign (tmB rfl rfl)) ?_
  refine wl_nil ?_
  refine then_n (hK2 _ _ ?_); clear hK2 K2
  refine wp_ret ?_
  refine ret1 rfl (.tmp rfl (show _ = Value.bool _ from rfl)) ?_
  refine ⟨ret_bool (Bool.eq_iff_iff.2 ?_), hS.kp⟩
  clear hS
  simp only [decide_eq_true_eq, nrm]
  constructor <;> intro h <;> first
    | trivial
    | exact .inl hg1_2
    | exact hg1_2
    | exact .inr ⟨by omega, by omega⟩
    | omega
    | exact absurd h (by decide)
    | (rcases h with h | h <;> first | exact absurd (h.symm.trans hg1_2) (by decide) | omega)
theorem ad_right_c (a : Ad) (w0 : World) :
    Calls Try.prog 69 #[.agg a.V.toArray] w0 fun e w' => e = .returned (.bool (decide (adRight a))) ∧ Kp [] w0 w' := ad_right_c_ a.six a.high a.low w0

set_option maxRecDepth 100000 in
set_option maxHeartbeats 4000000 in
theorem ad_of4_c (A : Option Addr) (c : Nat) (l : List Nat) (w0 : World) (hv : View w0 w0.heap.size A (l.map u8v)) (hl : l.length = 4) (hb : Bytes l) :
    Calls Try.prog 31 #[.slice A 4 c] w0 fun e w' => e = .returned (.tuple #[.agg (Ad.V ⟨false, 0, numBE l⟩).toArray, .int .i64 0]) ∧ Kp [] w0 w' := by
  have hS := (St.sv w0).vcons rfl hv
  refine ent (n := 24) Try.func31 rfl rfl ?_
  refine wp_seq_k ?_; intro K1 hK1
  refine wlit ?_
  refine wl_e rfl ?_; intro K hK
  refine ow_alloc hS tz_26 rfl ?_
  clear hS; intro g0_0 w hg0_0 hS
  refine hK _ _ ?_; clear hK K
  refine wl_v (x_assign (ev_cN 0)) ?_
  refine wl_nil ?_
  refine then_n (hK1 _ _ ?_); clear hK1 K1
  refine wp_seq_k ?_; intro K2 hK2
  refine wlit ?_
  refine wl_v (x_move (tmS rfl rfl)) ?_
  refine wl_e rfl ?_; intro K hK
  refine ow_call Try.func14 rfl rfl (evs_cons (tmS rfl rfl) <| evs_nil) (read_c 4 A c l _ (viewV hS.ok 1 rfl) hl (by omega)) ?_
  rintro e w ⟨gr, A0, rfl, hS2⟩
  refine ⟨_, rfl, ?_⟩
  replace hS := hS.adds hS2 rfl -- +gr,rowb
  clear hS2
  refine hK _ _ ?_; clear hK K
  refine wl_v (x_assign (tmP rfl rfl)) ?_
  refine wl_nil ?_
  refine then_n (hK2 _ _ ?_); clear hK2 K2
  refine wp_seq_k ?_; intro K3 hK3
  refine wp_seq_k ?_; intro K4 hK4
  refine wlit ?_
  refine wl_v (x_move (tmS rfl rfl)) ?_
  refine wl_v (x_len Try.underlying22 (tmS rfl rfl)) ?_
  refine wl_nil ?_
  refine then_n (hK4 _ _ ?_); clear hK4 K4
  refine wp_block ?_
  refine wp_seq_k ?_; intro K5 hK5
  refine wlit ?_
  refine wl_v (x_eql (tmI rfl rfl) (ev_cN 4)) ?_
  refine wl_v (x_assign (tmB rfl rfl)) ?_
  refine wl_nil ?_
  refine then_n (hK5 _ _ ?_); clear hK5 K5
  refine cnds (tm rfl) (fun hc0 => ?_) (fun hc0 => ?_)
  · exfalso
    simp at hc0
  try simp only [nrm] at hc0
  refine wp_seq_k ?_; intro K6 hK6
  refine wlit ?_
  refine wl_v (x_move (tmP rfl rfl)) ?_
  refine wl_e rfl ?_; intro K hK
  refine ow_call Try.func32 rfl rfl (evs_cons (tmP rfl rfl) <| evs_cons (ev_cN 4) <| evs_nil) (num_c gr A0 A0 0 4 4 4 l false _ _ (hS.enter [0] [1] rfl rfl) off_zero (by omega) (by omega) hl hb (by omega)) ?_
  rintro e w ⟨A1, c1, rfl, hS2, hA, hcp⟩
  refine ⟨_, rfl, ?_⟩
  replace hS := hS.turn 0 rfl rfl hS2 rfl
  clear hS2
  try replace hS := St.nm (M' := [_, .row _ _ _ _ _, .blk _ _ [_, _, _], .vw _ _]) hS rfl
  refine hK _ _ ?_; clear hK K
  refine wl_v (x_build (bc_skip (.bool false) <| bc_skip (.int .u64 0) <| bc_take (tmI rfl rfl) <| bc_nil) (by kernel_rfl)) ?_
  refine wl_e rfl ?_; intro K hK
  refine ow_storeA hS 2 rfl ts_26 (tmP rfl rfl) (tmA rfl rfl) rfl rfl rfl ?_
  clear hS; intro w hS
  try replace hS := St.nm (M' := [_, .row _ _ _ _ _, .blk _ _ [_, _, _], .vw _ _]) hS rfl
  refine hK _ _ ?_; clear hK K
  refine wl_v (x_assign (ev_cN 0)) ?_
  refine wl_nil ?_
  refine then_n (hK6 _ _ ?_); clear hK6 K6
  refine wp_ret ?_
  refine inb_r ?_
  refine then_r ?_
  refine ret2 rfl (.cell rfl rfl (load_rowB (cs := [_, _, _]) hS.ok 2 rfl Try.underlying26 rfl ts_26 rfl)) (.tmp rfl (show _ = Value.int _ _ from rfl)) ?_
  rw [List.drop_zero, List.take_of_length_le (by omega)]
  exact ⟨rfl, hS.kp⟩

set_option maxRecDepth 100000 in
set_option maxHeartbeats 4000000 in
theorem ad_v6_c (h l : Nat) (w0 : World) :
    Calls Try.prog 54 #[.int .u64 (h : Int), .int .u64 (l : Int)] w0 fun e w' => e = .returned (.agg (Ad.V ⟨true, h, l⟩).toArray) ∧ Kp [] w0 w' := by
  have hS := St.sv w0
  refine ent (n := 8) Try.func54 rfl rfl ?_
  refine wp_seq_k ?_; intro K1 hK1
  refine wlit ?_
  refine wl_e rfl ?_; intro K hK
  refine ow_alloc hS tz_26 rfl ?_
  clear hS; intro g0_0 w hg0_0 hS
  refine hK _ _ ?_; clear hK K
  refine wl_nil ?_
  refine then_n (hK1 _ _ ?_); clear hK1 K1
  refine wp_seq_k ?_; intro K2 hK2
  refine wlit ?_
  refine wl_v (x_move (tmI rfl rfl)) ?_
  refine wl_v (x_move (tmI rfl rfl)) ?_
  refine wl_v (x_build (bc_take ev_c <| bc_take (tmI rfl rfl) <| bc_take (tmI rfl rfl) <| bc_nil) (by kernel_rfl)) ?_
  refine wl_e rfl ?_; intro K hK
  refine ow_storeA hS 0 rfl ts_26 (tmP rfl rfl) (tmA rfl rfl) rfl rfl rfl ?_
  clear hS; intro w hS
  try replace hS := St.nm (M' := [.blk _ _ [_, _, _], _]) hS rfl
  refine hK _ _ ?_; clear hK K
  refine wl_nil ?_
  refine then_n (hK2 _ _ ?_); clear hK2 K2
  refine wp_ret ?_
  refine ret1 rfl (.cell rfl rfl (load_rowB (cs := [_, _, _]) hS.ok 0 rfl Try.underlying26 rfl ts_26 rfl)) ?_
  exact ⟨rfl, hS.kp⟩

set_option maxRecDepth 100000 in
set_option maxHeartbeats 4000000 in
theorem ad_of16_c (A : Option Addr) (c : Nat) (l : List Nat) (w0 : World) (hv : View w0 w0.heap.size A (l.map u8v)) (hl : l.length = 16) (hb : Bytes l) :
    Calls Try.prog 31 #[.slice A 16 c] w0 fun e w' => e = .returned (.tuple #[.agg (Ad.V ⟨true, getN l 0 8, getN l 8 8⟩).toArray, .int .i64 0]) ∧ Kp [] w0 w' := by
  have hS := (St.sv w0).vcons rfl hv
  refine ent (n := 24) Try.func31 rfl rfl ?_
  refine wp_seq_k ?_; intro K1 hK1
  refine wlit ?_
  refine wl_e rfl ?_; intro K hK
  refine ow_alloc hS tz_26 rfl ?_
  clear hS; intro g0_0 w hg0_0 hS
  refine hK _ _ ?_; clear hK K
  refine wl_v (x_assign (ev_cN 0)) ?_
  refine wl_nil ?_
  refine then_n (hK1 _ _ ?_); clear hK1 K1
  refine wp_seq_k ?_; intro K2 hK2
  refine wlit ?_
  refine wl_v (x_move (tmS rfl rfl)) ?_
  refine wl_e rfl ?_; intro K hK
  refine ow_call Try.func14 rfl rfl (evs_cons (tmS rfl rfl) <| evs_nil) (read_c 16 A c l _ (viewV hS.ok 1 rfl) hl (by omega)) ?_
  rintro e w ⟨gr, A0, rfl, hS2⟩
  refine ⟨_, rfl, ?_⟩
  replace hS := hS.adds hS2 rfl -- +gr,rowb
  clear hS2
  refine hK _ _ ?_; clear hK K
  refine wl_v (x_assign (tmP rfl rfl)) ?_
  refine wl_nil ?_
  refine then_n (hK2 _ _ ?_); clear hK2 K2
  refine wp_seq_k ?_; intro K3 hK3
  refine wp_seq_k ?_; intro K4 hK4
  refine wlit ?_
  refine wl_v (x_move (tmS rfl rfl)) ?_
  refine wl_v (x_len Try.underlying22 (tmS rfl rfl)) ?_
  refine wl_nil ?_
  refine then_n (hK4 _ _ ?_); clear hK4 K4
  refine wp_block ?_
  refine wp_seq_k ?_; intro K5 hK5
  refine wlit ?_
  refine wl_v (x_eql (tmI rfl rfl) (ev_cN 4)) ?_
  refine wl_v (x_assign (tmB rfl rfl)) ?_
  refine wl_nil ?_
  refine then_n (hK5 _ _ ?_); clear hK5 K5
  refine cnd (tm rfl) (fun hc0 => ?_) (fun hc0 => ?_)
  · exfalso
    simp at hc0
  try simp only [nrm] at hc0
  refine wp_seq_k ?_; intro K6 hK6
  refine wlit ?_
  refine wl_v (x_eql (tmI rfl rfl) (ev_cN 16)) ?_
  refine wl_v (x_assign (tmB rfl rfl)) ?_
  refine wl_nil ?_
  refine then_n (hK6 _ _ ?_); clear hK6 K6
  refine cnds (tm rfl) (fun hc1 => ?_) (fun hc1 => ?_)
  · exfalso
    simp at hc1
  try simp only [nrm] at hc1
  refine wp_seq_k ?_; intro K7 hK7
  refine wlit ?_
  refine wl_v (x_move (tmP rfl rfl)) ?_
  refine wl_e rfl ?_; intro K hK
  refine ow_call Try.func32 rfl rfl (evs_cons (tmP rfl rfl) <| evs_cons (ev_cN 8) <| evs_nil) (num_c gr A0 A0 0 8 16 16 l false _ _ (hS.enter [0] [1] rfl rfl) off_zero (by omega) (by omega) hl hb (by omega)) ?_
  rintro e w ⟨A1, c1, rfl, hS2, hA, hcp⟩
  refine ⟨_, rfl, ?_⟩
  replace hS := hS.turn 0 rfl rfl hS2 rfl
  clear hS2
  try replace hS := St.nm (M' := [_, .row _ _ _ _ _, .blk _ _ [_, _, _], .vw _ _]) hS rfl
  refine hK _ _ ?_; clear hK K
  refine wl_v (x_assign (tmI rfl rfl)) ?_
  refine wl_nil ?_
  refine then_n (hK7 _ _ ?_); clear hK7 K7
  refine wp_seq_k ?_; intro K8 hK8
  refine wlit ?_
  refine wl_v (x_move (tmI rfl rfl)) ?_
  refine wl_v (x_move (tmP rfl rfl)) ?_
  refine wl_e rfl ?_; intro K hK
  refine ow_call Try.func32 rfl rfl (evs_cons (tmP rfl rfl) <| evs_cons (ev_cN 8) <| evs_nil) (num_c gr A0 A1 (0 + 8) 8 16 c1 l false _ _ (hS.enter [0] [1] rfl rfl) hA (by omega) hcp hl hb (by omega)) ?_
  rintro e w ⟨A2, c2, rfl, hS2, hA, hcp⟩
  refine ⟨_, rfl, ?_⟩
  replace hS := hS.turn 0 rfl rfl hS2 rfl
  clear hS2
  try replace hS := St.nm (M' := [_, .row _ _ _ _ _, .blk _ _ [_, _, _], .vw _ _]) hS rfl
  refine hK _ _ ?_; clear hK K
  refine wl_e rfl ?_; intro K hK
  refine ow_call Try.func54 rfl rfl (evs_cons (tmI rfl rfl) <| evs_cons (tmI rfl rfl) <| evs_nil) (ad_v6_c _ _ _) ?_
  rintro e w ⟨rfl, hk⟩
  refine ⟨_, rfl, ?_⟩
  replace hS := hS.kept hk
  clear hk
  refine hK _ _ ?_; clear hK K
  refine wl_e rfl ?_; intro K hK
  refine ow_storeA hS 2 rfl ts_26 (tmP rfl rfl) (tmA rfl rfl) rfl rfl rfl ?_
  clear hS; intro w hS
  try replace hS := St.nm (M' := [_, .row _ _ _ _ _, .blk _ _ [_, _, _], .vw _ _]) hS rfl
  refine hK _ _ ?_; clear hK K
  refine wl_v (x_assign (ev_cN 0)) ?_
  refine wl_nil ?_
  refine then_n (hK8 _ _ ?_); clear hK8 K8
  refine wp_ret ?_
  refine inb_r ?_
  refine then_r ?_
  refine ret2 rfl (.cell rfl rfl (load_rowB (cs := [_, _, _]) hS.ok 2 rfl Try.underlying26 rfl ts_26 rfl)) (.tmp rfl (show _ = Value.int _ _ from rfl)) ?_
  exact ⟨rfl, hS.kp⟩

set_option maxRecDepth 100000 in
set_option maxHeartbeats 4000000 in
theorem rad_of16_c (A : Option Addr) (c : Nat) (l : List Nat) (w0 : World) (hv : View w0 w0.heap.size A (l.map u8v)) (hl : l.length = 16) (hc : 16 ≤ c) (hb : Bytes l) :
    Calls Try.prog 18 #[.slice A 16 c] w0 fun e w' => e = .returned (.tuple #[.agg (Ad.V ⟨true, getN l 0 8, getN l 8 8⟩).toArray, .bool true]) ∧ Kp [] w0 w' := by
  have hS := (St.sv w0).vcons rfl hv
  refine ent (n := 21) Try.func18 rfl rfl ?_
  refine wp_seq_k ?_; intro K1 hK1
  refine wlit ?_
  refine wl_e rfl ?_; intro K hK
  refine ow_alloc hS tz_26 rfl ?_
  clear hS; intro g0_0 w hg0_0 hS
  refine hK _ _ ?_; clear hK K
  refine wl_v (x_assign ev_c) ?_
  refine wl_nil ?_
  refine then_n (hK1 _ _ ?_); clear hK1 K1
  refine wp_seq_k ?_; intro K2 hK2
  refine wp_seq_k ?_; intro K3 hK3
  refine wlit ?_
  refine wl_v (x_move (tmS rfl rfl)) ?_
  refine wl_v (x_len Try.underlying22 (tmS rfl rfl)) ?_
  refine wl_v (x_eql (tmI rfl rfl) (ev_cN 4)) ?_
  refine wl_nil ?_
  refine then_n (hK3 _ _ ?_); clear hK3 K3
  refine cnd (tm rfl) (fun hc0 => ?_) (fun hc0 => ?_)
  · exfalso
    simp at hc0
  try simp only [nrm] at hc0
  refine wp_skip ?_
  refine then_n (hK2 _ _ ?_); clear hK2 K2
  refine wp_seq_k ?_; intro K4 hK4
  refine wp_seq_k ?_; intro K5 hK5
  refine wlit ?_
  refine wl_v (x_move (tmS rfl rfl)) ?_
  refine wl_v (x_len Try.underlying22 (tmS rfl rfl)) ?_
  refine wl_v (x_neq (tmI rfl rfl) (ev_cN 16)) ?_
  refine wl_nil ?_
  refine then_n (hK5 _ _ ?_); clear hK5 K5
  refine cnd (tm rfl) (fun hc1 => ?_) (fun hc1 => ?_)
  · exfalso
    simp at hc1
  try simp only [nrm] at hc1
  refine wp_skip ?_
  refine then_n (hK4 _ _ ?_); clear hK4 K4
  refine wp_seq_k ?_; intro K6 hK6
  replace hS := ((hS.cutb 1 0 8 rfl (by omega : l.length ≤ c)).dropb 2 8 rfl (by omega : l.length ≤ c)).pick [2, 0, 1, 3] rfl rfl
  try replace hS := St.nm (M' := [.blk _ _ [_, _, _], .vw _ _, .vw _ _, .vw _ _]) hS rfl
  refine rg_startk 1 hS mixed_ ?_
  clear hS; intro w hS
  refine rg_take 0 rfl rfl (by kernel_rfl) (by kernel_rfl) (by kernel_rfl) (want_0) (fun w hok => x_move (tmS rfl rfl)) ?_
  refine rg_take 1 rfl rfl (by kernel_rfl) (by kernel_rfl) (by kernel_rfl) (want_0) (fun w hok => x_sliceH Try.underlying22 ts_5 (tmS rfl rfl) (ev_cN 8) (by omega)) ?_
  refine rg_take 3 rfl rfl (by kernel_rfl) (by kernel_rfl) (by kernel_rfl) (want_0) (fun w hok => x_move (tmS rfl rfl)) ?_
  refine rg_take 4 rfl rfl (by kernel_rfl) (by kernel_rfl) (by kernel_rfl) (want_0) (fun w hok => x_sliceL Try.underlying22 ts_5 (tmS rfl rfl) (ev_cN 8) (by omega)) ?_
  refine rg_step 2 rfl (by kernel_rfl) (want_0) (oks_drop hS 1 rfl) ?_; intro K hK
  refine ow_call Try.func34 rfl rfl (evs_cons (tmS rfl rfl) <| evs_nil) (rnum_c 8 _ _ _ _ (viewV hS.ok 2 rfl) (by rw [List.length_take, List.length_drop]; omega) ((hb.drop 0).take 8) (by omega)) ?_
  rintro e w ⟨rfl, hk⟩
  refine ⟨_, rfl, ?_⟩
  replace hS := hS.kept hk
  clear hk
  refine hK _ _ ?_; clear hK K
  refine rg_step 5 rfl (by kernel_rfl) (want_0) (oks_drop hS 1 rfl) ?_; intro K hK
  refine ow_call Try.func34 rfl rfl (evs_cons (tmS rfl rfl) <| evs_nil) (rnum_c 8 _ _ _ _ (viewV hS.ok 1 rfl) (by rw [List.length_drop]; omega) (hb.drop 8) (by omega)) ?_
  rintro e w ⟨rfl, hk⟩
  refine ⟨_, rfl, ?_⟩
  replace hS := hS.kept hk
  clear hk
  refine hK _ _ ?_; clear hK K
  refine rg_take 6 rfl rfl (by kernel_rfl) (by kernel_rfl) (by kernel_rfl) (want_0) (fun w hok => x_build (bc_take ev_c <| bc_take (tmI rfl rfl) <| bc_take (tmI rfl rfl) <| bc_nil) (by kernel_rfl)) ?_
  refine rg_step 7 rfl (by kernel_rfl) (want_0) (oks_drop hS 1 rfl) ?_; intro K hK
  refine ow_storeA hS 0 rfl ts_26 (tmP rfl rfl) (tmA rfl rfl) rfl rfl rfl ?_
  clear hS; intro w hS
  try replace hS := St.nm (M' := [.blk _ _ [_, _, _], .vw _ _, .vw _ _, .vw _ _]) hS rfl
  refine hK _ _ ?_; clear hK K
  refine rg_take 8 rfl rfl (by kernel_rfl) (by kernel_rfl) (by kernel_rfl) (want_0) (fun w hok => x_assign ev_c) ?_
  refine rg_done (oks_drop hS 1 rfl) (by kernel_rfl) ?_
  refine then_n (hK6 _ _ ?_); clear hK6 K6
  refine wp_ret ?_
  refine ret2 rfl (.cell rfl rfl (load_rowB (cs := [_, _, _]) hS.ok 0 rfl Try.underlying26 rfl ts_26 rfl)) (.tmp rfl (show _ = Value.bool _ from rfl)) ?_
  refine ⟨?_, hS.kp⟩
  have e8 : getN l 8 8 = numBE (l.drop 8) := by unfold getN; rw [List.take_of_length_le (by rw [List.length_drop]; omega)]
  rw [e8]
  rfl
end Go.Proofs.Ytcobjneobdihkaa
/- octet's Set and the reference's Set, by contract. Conditions: none but bounds. -/
namespace Go.Proofs.Ytcobjneobdihkaa
open Go.RowKit

set_option maxRecDepth 100000 in
set_option maxHeartbeats 4000000 in
theorem set_c (n : Nat) (A : Option Addr) (c : Nat) (l : List Nat) (p N sz : Nat) (w0 : World) (hv : View w0 w0.heap.size A (l.map u8v)) (hl : l.length = n) (hn4 : n ≤ 1000000) (hN : N ≤ 18446744073709551615) (hz1 : 1 ≤ sz) (hz : sz ≤ 8) (hp : p + sz ≤ n) :
    Calls Try.prog 51 #[.slice A n c, .int .i64 (p : Int), .int .u64 (N : Int), .int .i64 (sz : Int)] w0 fun e w' => ∃ g, e = .returned (.tuple #[.slice (some ⟨g, 0, none⟩) n n, .int .i64 0]) ∧ New w0 w' (.row (.slice (some ⟨g, 0, none⟩) n n) 5 1 n ((splice l p (be N sz)).map u8v)) ∧ Kp [] w0 w' := by
  have hS := (St.sv w0).vcons rfl hv
  have hcut : ∀ g : Nat, cutA (some ⟨g, 0, none⟩) p n 1 = some ⟨g, 0 + p, none⟩ := fun g => by
    unfold cutA
    rw [if_neg (by omega), Nat.mul_one]
    simp [add_mk]
  refine ent (n := 43) Try.func51 rfl rfl ?_
  refine wp_seq_k ?_; intro K1 hK1
  refine wlit ?_
  refine wl_v (x_assign ev_c) ?_
  refine wl_v (x_assign (ev_cN 0)) ?_
  refine wl_nil ?_
  refine then_n (hK1 _ _ ?_); clear hK1 K1
  refine wp_seq_k ?_; intro K2 hK2
  refine wp_seq_k ?_; intro K3 hK3
  refine wlit ?_
  refine wl_v (x_move (tmI rfl rfl)) ?_
  refine wl_v (x_lss (tmI rfl rfl) (ev_cN 1)) ?_
  refine wl_v (x_move (tmB rfl rfl)) ?_
  refine gs_wl (tm (t := 13) rfl) (fun hg1_2 => ?_) (fun hg1_2 => ?_)
  · have hg1_2' := hg1_2; (try simp only [nrm] at hg1_2'); try (exfalso; first | with_reducible exact absurd hg1_2 Bool.false_ne_true | with_reducible exact absurd hg1_2.symm Bool.false_ne_true | omega | (simp at hg1_2; done))
  have hg1_2' := hg1_2; (try simp only [nrm] at hg1_2')
  refine wl_gv (want_y rfl rfl rfl rfl (by rw [hg1_2]; rfl)) (x_move (tmI rfl rfl)) ?_
  refine wl_gv (want_y rfl rfl rfl rfl (by rw [hg1_2]; rfl)) (x_gtr (tmI rfl rfl) (ev_cN 8)) ?_
  refine wl_v (x_pickF (tmB rfl rfl) hg1_2 (tmB rfl rfl)) ?_
  refine wl_v (x_move (tmB rfl rfl)) ?_
  refine gs_wl (tm (t := 17) rfl) (fun hg1_6 => ?_) (fun hg1_6 => ?_)
  · have hg1_6' := hg1_6; (try simp only [nrm] at hg1_6'); try (exfalso; first | with_reducible exact absurd hg1_6 Bool.false_ne_true | with_reducible exact absurd hg1_6.symm Bool.false_ne_true | omega | (simp at hg1_6; done))
  have hg1_6' := hg1_6; (try simp only [nrm] at hg1_6')
  refine wl_gv (want_y rfl rfl rfl rfl (by rw [hg1_6]; rfl)) (x_move (tmI rfl rfl)) ?_
  refine wl_gv (want_y rfl rfl rfl rfl (by rw [hg1_6]; rfl)) (x_lss (tmI rfl rfl) (ev_cN 0)) ?_
  refine wl_v (x_pickF (tmB rfl rfl) hg1_6 (tmB rfl rfl)) ?_
  refine wl_v (x_move (tmB rfl rfl)) ?_
  refine gs_wl (tm (t := 21) rfl) (fun hg1_10 => ?_) (fun hg1_10 => ?_)
  · have hg1_10' := hg1_10; (try simp only [nrm] at hg1_10'); try (exfalso; first | with_reducible exact absurd hg1_10 Bool.false_ne_true | with_reducible exact absurd hg1_10.symm Bool.false_ne_true | omega | (simp at hg1_10; done))
  have hg1_10' := hg1_10; (try simp only [nrm] at hg1_10')
  refine wl_gv (want_y rfl rfl rfl rfl (by rw [hg1_10]; rfl)) (x_move (tmI rfl rfl)) ?_
  refine wl_gv (want_y rfl rfl rfl rfl (by rw [hg1_10]; rfl)) (x_move (tmS rfl rfl)) ?_
  refine wl_gv (want_y rfl rfl rfl rfl (by rw [hg1_10]; rfl)) (x_len Try.underlying22 (tmS rfl rfl)) ?_
  refine wl_gv (want_y rfl rfl rfl rfl (by rw [hg1_10]; rfl)) (x_move (tmI rfl rfl)) ?_
  refine wl_gv (want_y rfl rfl rfl rfl (by rw [hg1_10]; rfl)) (x_subN (tmI rfl rfl) (tmI rfl rfl) (fit_i64 (by omega)) (by omega)) ?_
  refine wl_gv (want_y rfl rfl rfl rfl (by rw [hg1_10]; rfl)) (x_gtr (tmI rfl rfl) (tmI rfl rfl)) ?_
  refine wl_v (x_pickF (tmB rfl rfl) hg1_10 (tmB rfl rfl)) ?_
  refine wl_nil ?_
  refine then_n (hK3 _ _ ?_); clear hK3 K3
  refine cnd (tm rfl) (fun hc0 => ?_) (fun hc0 => ?_)
  · exfalso
    simp at hc0
    omega
  try simp only [nrm] at hc0
  refine wp_skip ?_
  refine then_n (hK2 _ _ ?_); clear hK2 K2
  refine wp_seq_k ?_; intro K7 hK7
  refine wlit ?_
  refine wl_v (x_move (tmS rfl rfl)) ?_
  refine wl_v (x_len Try.underlying22 (tmS rfl rfl)) ?_
  refine wl_e rfl ?_; intro K hK
  refine ow_make hS Try.underlying22 tz_5 rfl (tmI rfl rfl) (tmI rfl rfl) rfl (by omega) (by simp only [maxLen]; omega) ?_
  clear hS; intro g3_2 w hg3_2 hS
  refine hK _ _ ?_; clear hK K
  refine wl_v (x_assign (tmS rfl rfl)) ?_
  refine wl_nil ?_
  refine then_n (hK7 _ _ ?_); clear hK7 K7
  refine wp_seq_k ?_; intro K8 hK8
  refine wlit ?_
  refine wl_v (x_move (tmS rfl rfl)) ?_
  refine wl_v (x_move (tmS rfl rfl)) ?_
  refine wl_e rfl ?_; intro K hK
  refine ow_copyR (o := 0) hS 0 rfl Try.underlying22 ts_5 (tmS rfl rfl) (tmS rfl rfl) (viewV hS.ok 1 rfl) (by first | rfl | (simp; done) | (simp; omega) | omega) (fun _ => by first | rfl | assumption | (simp only [Nat.add_zero]; rfl)) (by first | (simp; done) | (simp; omega) | omega) (u8v_one _) ?_
  clear hS; intro w hS
  refine hK _ _ ?_; clear hK K
  refine wl_nil ?_
  rw [show List.replicate n (Value.int .u8 0) = List.replicate (l.length + 0) (Value.int .u8 0) by rw [hl]; rfl, splice_fill l [] 0 rfl, filled_zero, List.length_nil, List.replicate_zero, List.append_nil] at hS
  refine then_n (hK8 _ _ ?_); clear hK8 K8
  refine wp_seq_k ?_; intro K9 hK9
  have hcu := hcut g3_2
  refine rg_startk 1 hS mixed_ ?_
  clear hS; intro w hS
  refine rg_take 0 rfl rfl (by kernel_rfl) (by kernel_rfl) (by kernel_rfl) (want_0) (fun w hok => x_move (tmS rfl rfl)) ?_
  refine rg_take 1 rfl rfl (by kernel_rfl) (by kernel_rfl) (by kernel_rfl) (want_0) (fun w hok => x_move (tmI rfl rfl)) ?_
  refine rg_take 2 rfl rfl (by kernel_rfl) (by kernel_rfl) (by kernel_rfl) (want_0) (fun w hok => x_sliceL Try.underlying22 ts_5 (tmS rfl rfl) (tmI rfl rfl) (by omega)) ?_
  refine rg_take 3 rfl rfl (by kernel_rfl) (by kernel_rfl) (by kernel_rfl) (want_0) (fun w hok => x_move (tmI rfl rfl)) ?_
  refine rg_take 4 rfl rfl (by kernel_rfl) (by kernel_rfl) (by kernel_rfl) (want_0) (fun w hok => x_move (tmI rfl rfl)) ?_
  refine rg_step 5 rfl (by kernel_rfl) (want_0) (oks_drop hS 1 rfl) ?_; intro K hK
  refine ow_call Try.func48 rfl rfl (evs_cons ev_c <| evs_cons (tmI rfl rfl) <| evs_cons (tmI rfl rfl) <| evs_nil) (put_c 0 none 0 [] N sz _ View.nil_ rfl (by omega) hN hz) ?_
  rintro e w ⟨g1, rfl, hn, hk⟩
  refine ⟨_, rfl, ?_⟩
  rw [Nat.zero_add, List.nil_append] at hn
  rw [Nat.zero_add]
  replace hS := (hS.add hk hn).freeze 0 rfl -- +vp
  clear hn hk
  refine hK _ _ ?_; clear hK K
  refine rg_step 6 rfl (by kernel_rfl) (want_0) (oks_drop hS 2 rfl) ?_; intro K hK
  refine ow_copyR (o := p) hS 1 rfl Try.underlying22 ts_5 (tmS rfl rfl) (tmS rfl rfl) (viewV hS.ok 0 rfl) (by rw [List.length_map, be_length]; omega) (fun _ => hcu) (by rw [List.length_map, List.length_map, be_length]; omega) (u8v_one _) ?_
  clear hS; intro w hS
  rw [splice_map] at hS
  refine hK _ _ ?_; clear hK K
  refine rg_done (oks_drop hS 2 rfl) (by kernel_rfl) ?_
  refine then_n (hK9 _ _ ?_); clear hK9 K9
  refine wp_seq_k ?_; intro K10 hK10
  refine wlit ?_
  refine wl_v (x_move (tmS rfl rfl)) ?_
  refine wl_v (x_assign (tmS rfl rfl)) ?_
  refine wl_v (x_assign (ev_cN 0)) ?_
  refine wl_nil ?_
  refine then_n (hK10 _ _ ?_); clear hK10 K10
  refine wp_ret ?_
  refine ret2 rfl (.tmp rfl (show _ = Value.slice _ _ _ from rfl)) (.tmp rfl (show _ = Value.int _ _ from rfl)) ?_
  exact ⟨_, rfl, hS.new 1 rfl rfl, hS.kp⟩

end Go.Proofs.Ytcobjneobdihkaa
/- ip6: Right, Bytes and the references', by contract. Conditions: none but bounds. -/
namespace Go.Proofs.Ytcobjneobdihkaa
open Go.RowKit

def hd6V (cl lb : Nat) (len : Int) (nx hp : Nat) (s d : Ad) : List Value :=
  [.int .u8 (cl : Int), .int .u32 (lb : Int), .int .i64 len, .int .u8 (nx : Int), .int .u8 (hp : Int), .bool s.six, .int .u64 (s.high : Int), .int .u64 (s.low : Int), .bool d.six, .int .u64 (d.high : Int), .int .u64 (d.low : Int)]
def hd6Right (lb : Nat) (len : Int) (s d : Ad) : Prop := lb ≤ 1048575 ∧ 0 ≤ len ∧ len ≤ 65535 ∧ s.six = true ∧ d.six = true
instance (lb : Nat) (len : Int) (s d : Ad) : Decidable (hd6Right lb len s d) := by unfold hd6Right; exact inferInstance
theorem adN_six {a : Ad} (h : a.six = true) : adN a = 16 := by unfold adN; rw [h]; rfl
theorem be4 (n : Nat) : be n 4 = [n / 16777216 % 256, n / 65536 % 256, n / 256 % 256, n % 256] := by simp [be, List.range, List.range.loop]
theorem be2 (n : Nat) : be n 2 = [n / 256 % 256, n % 256] := by simp [be, List.range, List.range.loop]
end Go.Proofs.Ytcobjneobdihkaa
