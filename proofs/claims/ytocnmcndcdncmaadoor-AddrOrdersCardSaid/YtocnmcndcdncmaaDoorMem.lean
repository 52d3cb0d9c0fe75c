
/- Words for memory: a slice that reads as a list ('View'), a block that is known whole ('Arr'), bytes as natural numbers, and the operations make, copy, append and the conversion of bytes to a string in these words. Any program. -/
import Derived.WalkKit
import Derived.Laws.CopyOwn
import Derived.Deep.RegionLaw
import Derived.Laws.BytesArg
import Derived.Deep.Draws
import Derived.Lib.Hide
import Derived.OwnWalk
import Derived.SizedLaws
import Derived.ProofKit
import Derived.Laws.AppendOwnNone
namespace Go.Proofs.YtocnmcndcdncmaaDoor
open Go.RowKit

/-- The slice at A holds the cells xs, below block B. -/
def View (w : World) (B : Nat) (A : Option Addr) (xs : List Value) : Prop :=
  xs ≠ [] → ∃ b o, A = some ⟨b, o, none⟩ ∧ b < B ∧ ∀ j u, xs[j]? = some u → w.cell? ⟨b, o + j, none⟩ = some u

/-- Block g is just the cells l, none frozen. -/
def Arr (w : World) (g : Nat) (t : TypeId) (l : List Value) : Prop := w.heap[g]? = some (.cells l.toArray t (0, 0))

section
variable {w w' : World} {B B' : Nat} {A : Option Addr} {xs : List Value}
theorem View.nil_ : View w B A [] := fun h => absurd rfl h
theorem View.keep (h : View w B A xs) (hk : ∀ p : Addr, p.block < B → w'.cell? p = w.cell? p) : View w' B A xs := fun hn => by
  obtain ⟨b, o, e, hb, hc⟩ := h hn
  exact ⟨b, o, e, hb, fun j u hu => (hk _ hb).trans (hc j u hu)⟩
theorem View.more (h : View w B A xs) (hB : B ≤ B') : View w B' A xs := fun hn => by
  obtain ⟨b, o, e, hb, hc⟩ := h hn
  exact ⟨b, o, e, by omega, hc⟩
theorem View.below (h : View w B A xs) (hb : Below B w w') : View w' B A xs := h.keep fun _ hp => hb.cell hp
theorem View.drew (h : View w B A xs) : View w.drew B A xs := h
theorem View.drewN (h : View w B A xs) (k : Nat) : View (w.drewN k) B A xs := h
theorem View.alloc (h : View w B A xs) (hB : B ≤ w.heap.size) (o : Obj) : View (w.alloc o) B A xs := h.keep fun p hp => World.cell?_alloc_lt w o p (by omega)
theorem View.setCell (h : View w B A xs) {p : Addr} (hB : B ≤ p.block) (u : Value) : View (w.setCell p u) B A xs :=
  h.keep fun q hq => World.cell?_setCell_other w p q u (fun e => by subst e; omega)
/-- 's[k:]' at a capacity 'c': the model keeps the address where nothing is left. -/
theorem View.cut (h : View w B A xs) {k c : Nat} (hc : xs.length ≤ c) : View w B (if c = k then A else A.map (·.add k)) (xs.drop k) := by
  intro hn
  have hl : k < xs.length := by
    rcases Nat.lt_or_ge k xs.length with h1 | h1
    · exact h1
    · exact absurd (List.drop_eq_nil_of_le h1) hn
  obtain ⟨b, o, rfl, hb, hcell⟩ := h (by rintro rfl; simp at hl)
  rw [if_neg (by omega)]
  refine ⟨b, o + k, ?_, hb, fun j u hu => ?_⟩
  · simp only [Option.map_some, Addr.add]
    split
    · next h0 => subst h0; simp
    · rfl
  · rw [Nat.add_assoc]
    exact hcell _ u (by rw [← hu, List.getElem?_drop])
theorem View.take (h : View w B A xs) (k : Nat) : View w B A (xs.take k) := by
  intro hn
  obtain ⟨b, o, rfl, hb, hcell⟩ := h (by rintro rfl; simp at hn)
  refine ⟨b, o, rfl, hb, fun j u hu => hcell j u ?_⟩
  rw [List.getElem?_take] at hu
  split at hu
  · exact hu
  · cases hu

theorem Arr.lt {g t l} (h : Arr w g t l) : g < w.heap.size := by
  rcases Nat.lt_or_ge g w.heap.size with hlt | hge
  · exact hlt
  · unfold Arr at h; rw [Array.getElem?_eq_none hge] at h; cases h
theorem Arr.cell {g t l} (h : Arr w g t l) (i : Nat) : w.cell? ⟨g, i, none⟩ = l[i]? := by
  unfold Arr at h
  simp [World.cell?, h]
theorem Arr.frozen {g t l} (h : Arr w g t l) (i : Nat) : w.frozen? ⟨g, i, none⟩ = false := by
  unfold Arr at h
  simp [World.frozen?, h]
theorem Arr.drew {g t l} (h : Arr w g t l) : Arr w.drew g t l := h
theorem Arr.drewN {g t l} (h : Arr w g t l) (n : Nat) : Arr (w.drewN n) g t l := h
theorem Arr.alloc {g t l} (h : Arr w g t l) (o : Obj) : Arr (w.alloc o) g t l := (Below.heap_alloc w o g h.lt).trans h
theorem Arr.set_ {g t l} (h : Arr w g t l) (i : Nat) (u : Value) : Arr (w.setCell ⟨g, i, none⟩ u) g t (l.set i u) := by
  unfold Arr at h ⊢
  simp [World.setCell, Array.getElem?_modify, h]
theorem Arr.far {g t l} (h : Arr w g t l) {p : Addr} (hp : g ≠ p.block) (u : Value) : Arr (w.setCell p u) g t l := (Below.heap_setCell w p u g hp).trans h
theorem Arr.below {g t l} (h : Arr w g t l) (hb : Below B w w') (hg : g < B) : Arr w' g t l := (hb.block g hg).trans h
theorem Arr.new (w : World) (t : TypeId) (l : List Value) : Arr (w.alloc (.cells l.toArray t)) w.heap.size t l := by
  unfold Arr
  show (w.heap.push _)[_]? = _
  simp
theorem Arr.view {g t l} (h : Arr w g t l) (hB : g < B) : View w B (some ⟨g, 0, none⟩) l := fun _ => ⟨g, 0, rfl, hB, fun j u hu => by rw [Nat.zero_add, h.cell]; exact hu⟩
end

/-! ### bytes -/
/-- A byte's cell. -/
def u8v (n : Nat) : Value := .int .u8 (n : Int)
def u64v (n : Nat) : Value := .int .u64 (n : Int)
/-- Every number is a byte. -/
def Bytes (l : List Nat) : Prop := ∀ x ∈ l, x < 256
def nth (l : List Nat) (j : Nat) : Nat := l.getD j 0

theorem nth_lt {l : List Nat} (h : Bytes l) (j : Nat) : nth l j < 256 := by
  unfold nth
  rw [List.getD_eq_getElem?_getD]
  cases e : l[j]? with
  | none => simp
  | some x => exact h x (List.mem_of_getElem? e)
theorem nth_get {l : List Nat} {j : Nat} (h : j < l.length) : l[j]? = some (nth l j) := by
  unfold nth; rw [List.getD_eq_getElem?_getD, List.getElem?_eq_getElem h]; rfl
theorem Bytes.take {l : List Nat} (h : Bytes l) (k : Nat) : Bytes (l.take k) := fun x hx => h x (List.mem_of_mem_take hx)
theorem Bytes.drop {l : List Nat} (h : Bytes l) (k : Nat) : Bytes (l.drop k) := fun x hx => h x (List.mem_of_mem_drop hx)
theorem Bytes.append {l m : List Nat} (h : Bytes l) (h' : Bytes m) : Bytes (l ++ m) := fun x hx => by
  rcases List.mem_append.1 hx with hx | hx
  · exact h x hx
  · exact h' x hx
theorem Bytes.set_ {l : List Nat} (h : Bytes l) (i x : Nat) (hx : x < 256) : Bytes (l.set i x) := fun y hy => by
  rcases List.mem_or_eq_of_mem_set hy with h1 | h1
  · exact h y h1
  · omega
theorem Bytes.nil : Bytes [] := fun _ h => by cases h
theorem Bytes.replicate (n : Nat) : Bytes (List.replicate n 0) := fun x hx => by rw [List.eq_of_mem_replicate hx]; omega
theorem Bytes.cons {a : Nat} {l : List Nat} (h : a < 256) (h' : Bytes l) : Bytes (a :: l) := fun x hx => by
  rcases List.mem_cons.1 hx with hx | hx
  · omega
  · exact h' x hx

/-- A slice of bytes reads as the list l. -/
def BView (w : World) (B : Nat) (A : Option Addr) (l : List Nat) : Prop := Bytes l ∧ View w B A (l.map u8v)
section
variable {w w' : World} {B B' : Nat} {A : Option Addr} {l : List Nat}
theorem BView.bytes (h : BView w B A l) : Bytes l := h.1
theorem BView.view (h : BView w B A l) : View w B A (l.map u8v) := h.2
theorem BView.nil_ : BView w B A [] := ⟨Bytes.nil, View.nil_⟩
theorem BView.below (h : BView w B A l) (hb : Below B w w') : BView w' B A l := ⟨h.1, h.2.below hb⟩
theorem BView.more (h : BView w B A l) (hB : B ≤ B') : BView w B' A l := ⟨h.1, h.2.more hB⟩
theorem BView.setCell (h : BView w B A l) {p : Addr} (hB : B ≤ p.block) (u : Value) : BView (w.setCell p u) B A l := ⟨h.1, h.2.setCell hB u⟩
/-- Seen in a world, it is seen in every later one. -/
theorem BView.step (h : BView w w.heap.size A l) (hb : Below w.heap.size w w') : BView w' w'.heap.size A l := (h.below hb).more hb.size
theorem BView.at_ (h : BView w B A l) {k : Nat} (hk : k < l.length) :
    ∃ b o, A = some ⟨b, o, none⟩ ∧ b < B ∧ ∀ j, j < l.length → w.cell? ⟨b, o + j, none⟩ = some (.int .u8 (nth l j : Nat)) := by
  obtain ⟨b, o, e, hb, hc⟩ := h.2 (by intro e; rw [List.map_eq_nil_iff] at e; subst e; simp at hk)
  exact ⟨b, o, e, hb, fun j hj => hc j _ (by rw [List.getElem?_map, nth_get hj]; rfl)⟩
theorem BView.cut (h : BView w B A l) {k c : Nat} (hc : l.length ≤ c) : BView w B (if c = k then A else A.map (·.add k)) (l.drop k) :=
  ⟨h.1.drop k, by rw [List.map_drop]; exact h.2.cut (by simpa using hc)⟩
theorem BView.take (h : BView w B A l) (k : Nat) : BView w B A (l.take k) := ⟨h.1.take k, by rw [List.map_take]; exact h.2.take k⟩
theorem BView.of_arr {g : Nat} {t : TypeId} {l : List Nat} (hb : Bytes l) (h : Arr w g t (l.map u8v)) (hB : g < B) : BView w B (some ⟨g, 0, none⟩) l := ⟨hb, h.view hB⟩
end

/-! ### operations -/
theorem hid_arr {w : World} {g : Nat} {t : TypeId} {l : List Value} (h : Arr w g t l) : Hid (Arr w g t l) := h

/-- 'make([]T, n)' of a type of one cell. -/
theorem wp_make1 {P : Program} (w : World) {ops : Array Oper} {rest : List Oper} {o : Oper} {a : Act} {Q : Exit → Act → World → Prop}
    (hg : o.guard = none) (l c : Operand) (t : TypeId) (hop : o.op = Op.makeSlice t l c)
    (e : TypeId) (z : Value) (by_ : Nat) (hz1 : z.cells = #[z]) (h1 : P.underlying t = some (.slice e)) (h2 : (P.info? e).map (fun i => (i.zero, i.size, i.bytes)) = some (some z, 1, by_))
    (kl kc : IntKind) (L C : Int) (n : Nat) (hl : a.eval l = .int kl L) (hc : a.eval c = .int kc C) (hL : L = (n : Int)) (hC : C = (n : Int)) (b2 : by_ * n ≤ 281474976710656) (b3 : n ≤ maxLen)
    (hK : ∀ (g : Nat) (w' : World), w.heap.size ≤ g → g < w'.heap.size → Hid (Arr w' g e (List.replicate n z)) → Below w.heap.size w w' → wpList P ops Q rest (a.put o.dst (.slice (some ⟨g, 0, none⟩) n n)) w') :
    wpList P ops Q (o :: rest) a w := by
  obtain ⟨i, hi, hz, hs, hb⟩ := info_parts h2
  subst hb
  refine wpList_make_full w hg l c t hop w.heap.size e i z 1 h1 hi hz hs kl kc L C n hl hc hL hC b2 b3 (Nat.le_refl _) ?_
  intro w' hown hgr
  have hbel : Below w.heap.size w w' := (Below.refl _ _).grown hgr (Nat.le_refl _) (by intro k hk; cases hk)
  obtain ⟨hlen, h0 | ⟨g, cap, cur, hv, hbg, hh, hnc, hcm, hcs, htk⟩⟩ := hown
  · have := h0.1; simp at this
  · injection hv with hv1 hv2 hv3
    injection hv1 with hv1
    injection hv1 with hv1
    subst hv1; subst hv3
    refine hK _ w' (Nat.le_refl _) ?_ ?_ hbel
    · rcases Nat.lt_or_ge w.heap.size w'.heap.size with hlt | hge
      · exact hlt
      · rw [Array.getElem?_eq_none hge] at hh; cases hh
    · show w'.heap[w.heap.size]? = _
      rw [hh]
      have : cur.toList = List.replicate n z := by
        rw [Nat.mul_one] at htk hcs
        rw [hz1, toList_madeCells_one, List.take_of_length_le (by simp [hcs])] at htk
        exact htk
      rw [← this]

/-- 'copy(out[off:], src)', out a block of the call's own, src whatever. -/
theorem wp_copy1 {P : Program} {w : World} {ops : Array Oper} {rest : List Oper} {o : Oper} {a : Act} {Q : Exit → Act → World → Prop} (hgd : o.guard = none) (d s : Operand) (dT sT : TypeId)
    (ho : o.op = .call { callee := .builtin .copy, args := #[d, s], argTypes := #[dT, sT] }) (elem : TypeId) (hu : P.underlying dT = some (.slice elem)) (hsz : (P.info? elem).map (·.size) = some 1)
    (dp sp : Option Addr) (dLen dCap sLen sCap : Nat) (hd : a.eval d = .slice dp dLen dCap) (hs : a.eval s = .slice sp sLen sCap)
    (g off : Nat) (cur : List Value) (t : TypeId) (hg : Arr w g t cur) (cs : List Value) (hn : cs.length = sLen) (hle : sLen ≤ dLen) (B : Nat)
    (hsrc : View w B sp cs) (hdp : 0 < sLen → dp = some ⟨g, off, none⟩)
    (hfit : off + cs.length ≤ cur.length) (h1 : ∀ v ∈ cs, v.oneCell' = true) (B0 : Nat) (w0 : World) (hb : Below B0 w0 w) (hBg : B0 ≤ g)
    (h : ∀ w', Hid (Arr w' g t (splice cur off cs)) → Below B0 w0 w' → wpList P ops Q rest (a.put o.dst (goInt cs.length)) w') :
    wpList P ops Q (o :: rest) a w := by
  refine wpList_copy_splice hgd d s dT sT ho elem hu hsz dp sp dLen dCap sLen sCap hd hs g off cur t hg cs (by rw [hn]; exact (Nat.min_eq_left hle).symm) ?_ hfit h1 B0 w0 hb hBg h
  intro hpos
  obtain ⟨b, o', e, _, hc⟩ := hsrc (by intro e; subst e; simp at hpos)
  refine ⟨hdp (by omega), ⟨b, o', none⟩, e, fun j v hj => ?_⟩
  have := hc j v hj
  unfold Addr.add
  split
  · next h0 => subst h0; simpa using this
  · exact this

theorem step_copy1 {P : Program} {ops : Array Oper} {o : Oper} {a : Act} {w : World} {K : Act → World → Prop} {Q : Exit → Act → World → Prop} {E : Prop} (hgd : o.guard = none) (d s : Operand) (dT sT : TypeId)
    (ho : o.op = .call { callee := .builtin .copy, args := #[d, s], argTypes := #[dT, sT] }) (elem : TypeId) (hu : P.underlying dT = some (.slice elem)) (hsz : (P.info? elem).map (·.size) = some 1)
    (dp sp : Option Addr) (dLen dCap sLen sCap : Nat) (hd : a.eval d = .slice dp dLen dCap) (hs : a.eval s = .slice sp sLen sCap)
    (g off : Nat) (cur : List Value) (t : TypeId) (hg : Arr w g t cur) (cs : List Value) (hn : cs.length = sLen) (hle : sLen ≤ dLen) (B : Nat)
    (hsrc : View w B sp cs) (hdp : 0 < sLen → dp = some ⟨g, off, none⟩)
    (hfit : off + cs.length ≤ cur.length) (h1 : ∀ v ∈ cs, v.oneCell' = true) (B0 : Nat) (w0 : World) (hb : Below B0 w0 w) (hBg : B0 ≤ g)
    (h : ∀ w', Hid (Arr w' g t (splice cur off cs)) → Below B0 w0 w' → K (a.put o.dst (goInt cs.length)) w') :
    if Region.wanted o (yielded ops a.tmps) = true then Oper.wp P o a w K Q else E := by
  refine step_copy_splice hgd d s dT sT ho elem hu hsz dp sp dLen dCap sLen sCap hd hs g off cur t hg cs (by rw [hn]; exact (Nat.min_eq_left hle).symm) ?_ hfit h1 B0 w0 hb hBg h
  intro hpos
  obtain ⟨b, o', e, _, hc⟩ := hsrc (by intro e; subst e; simp at hpos)
  refine ⟨hdp (by omega), ⟨b, o', none⟩, e, fun j v hj => ?_⟩
  have := hc j v hj
  unfold Addr.add
  split
  · next h0 => subst h0; simpa using this
  · exact this

theorem u8v_one (l : List Nat) : ∀ v ∈ l.map u8v, v.oneCell' = true := by
  intro v hv
  obtain ⟨n, _, rfl⟩ := List.mem_map.1 hv
  rfl

/-! ### strings out of bytes -/
def bstr (l : List Nat) : ByteArray := ⟨(l.map UInt8.ofNat).toArray⟩
theorem bstr_inj {l m : List Nat} (hl : Bytes l) (hm : Bytes m) (h : l.map UInt8.ofNat = m.map UInt8.ofNat) : l = m := by
  induction l generalizing m with
  | nil => cases m <;> simp_all
  | cons a l ih =>
    cases m with
    | nil => simp at h
    | cons b m =>
      simp only [List.map_cons, List.cons.injEq] at h
      have ha := hl a (by simp)
      have hb := hm b (by simp)
      have hab : a = b := by
        have h1 := congrArg UInt8.toNat h.1
        simp at h1
        omega
      rw [hab, ih (fun x hx => hl x (by simp [hx])) (fun x hx => hm x (by simp [hx])) h.2]
def eqB (l m : List Nat) : Bool := decide (l = m)
theorem bstr_eql {l m : List Nat} (hl : Bytes l) (hm : Bytes m) : ((bstr l).toList == (bstr m).toList) = eqB l m := by
  unfold eqB
  have e : ∀ l, (bstr l).toList = l.map UInt8.ofNat := fun l => by rw [ByteArray.toList_eq]; rfl
  rw [e, e]
  by_cases h : l = m
  · subst h; simp
  · rw [decide_eq_false h]
    rw [beq_eq_false_iff_ne]
    exact fun h' => h (bstr_inj hl hm h')

theorem run_bstr {P : Program} {w : World} {B : Nat} {A : Option Addr} {l : List Nat} {c n : Nat} (hv : BView w B A l) (hn : l.length = n) (src e dst : TypeId) (hs : P.underlying src = some (.slice e)) (he : P.underlying e = some (.int .u8)) (hd : P.underlying dst = some .string) :
    (convert src dst (.slice A n c)).run P w = .ok (.string (bstr l)) w := by
  subst hn
  have hl : ∀ a, A = some a → (loadCells a l.length).run P w = .ok ((l.map (fun n : Nat => (n : Int))).map (Value.int .u8)).toArray w := by
    rintro a rfl
    have := run_loadCells_list (P := P) w a ((l.map (fun n : Nat => (n : Int))).map (Value.int .u8)) (fun j v hj => by
      have hjl : j < l.length := by
        rcases Nat.lt_or_ge j l.length with h | h
        · exact h
        · rw [List.getElem?_eq_none (by simpa using h)] at hj; cases hj
      obtain ⟨b, o, e1, _, hc⟩ := hv.at_ hjl
      injection e1 with e1
      subst e1
      have hplain : (⟨b, o, none⟩ : Addr).add j = ⟨b, o + j, none⟩ := by unfold Addr.add; split <;> simp_all
      rw [hplain, hc j hjl, ← hj]
      simp [nth_get hjl])
    simpa using this
  rw [run_convert_bytes_string w src dst e A l.length c hs he hd]
  cases A with
  | none =>
    have h0 : l = [] := by
      rcases l with _ | ⟨x, l⟩
      · rfl
      · obtain ⟨b, o, e1, _⟩ := hv.at_ (k := 0) (by simp)
        cases e1
    subst h0
    simp [Conv.bytesToString]
    rfl
  | some a =>
    rw [run_bytesToString w a _ c _ (hl a rfl), foldl_push_bytes]
    congr 2
    simp [bstr, ByteArray.empty, ByteArray.emptyWithCapacity]
    rfl

theorem exec_bstr {P : Program} {w : World} {o : Oper} {ev : Operand → Value} {A : Option Addr} {n : Nat} (c : Nat) {l : List Nat} {v : Value} (x : Operand) (src dst : TypeId) (ho : o.op = Op.convert src dst x) (hx : ev x = .slice A n c)
    (hv : BView w w.heap.size A l) (hn : l.length = n) (e : TypeId) (hs : P.underlying src = some (.slice e)) (he : P.underlying e = some (.int .u8)) (hd : P.underlying dst = some .string) (hvv : v = .string (bstr l)) :
    (execOp ev o).run P w = .ok (.value v) w := by
  have hrun := run_bstr (P := P) (c := c) hv hn src e dst hs he hd
  simp [execOp, ho, hx, hrun, Result.andThen, hvv]

theorem wp_bstr {P : Program} {w : World} {ops : Array Oper} {rest : List Oper} {o : Oper} {a : Act} {Q : Exit → Act → World → Prop} (hgd : o.guard = none) (x : Operand) (src dst : TypeId)
    (ho : o.op = Op.convert src dst x) (e : TypeId) (hs : P.underlying src = some (.slice e)) (he : P.underlying e = some (.int .u8)) (hd : P.underlying dst = some .string)
    (A : Option Addr) (n c : Nat) (hx : a.eval x = .slice A n c) (B : Nat) (l : List Nat) (hv : BView w B A l) (hn : l.length = n)
    (h : wpList P ops Q rest (a.put o.dst (.string (bstr l))) w) : wpList P ops Q (o :: rest) a w := by
  refine wpList_plain hgd fun K hK => ?_
  have hrun := run_bstr (P := P) (c := c) hv hn src e dst hs he hd
  unfold Oper.wp
  simp [execOp, ho, hx, hrun, Result.andThen]
  exact hK _ _ h

/-! ### a slice of the call's own that is appended to -/
def Own (w : World) (base : Nat) (t : TypeId) (A : Option Addr) (n c : Nat) (l : List Value) : Prop := w.ownsRow base t 1 (.slice A n c) n l
theorem Own.nil_ (w : World) (base : Nat) (t : TypeId) : Own w base t none 0 0 [] := World.ownsRow_nil w base t 1
theorem own_form {w : World} {base : Nat} {e : TypeId} {v : Value} {n : Nat} {xs : List Value} (h : w.ownsRow base e 1 v n xs) : ∃ A c, v = .slice A n c := by
  rcases h.2 with ⟨h0, h1⟩ | ⟨g, cap, cur, hv, _⟩
  · subst h1; exact ⟨_, _, h0⟩
  · exact ⟨_, _, hv⟩
theorem Own.lit (w : World) (t : TypeId) (cs : Array Value) (n : Nat) (hm : n ≤ maxLen) (hs : cs.size = n) : Own (w.alloc (.cells cs t)) w.heap.size t (some ⟨w.heap.size, 0, none⟩) n n cs.toList :=
  World.ownsRow_lit w cs n (Nat.le_refl _) hm (by omega)
theorem Own.stored {w : World} {base : Nat} {t : TypeId} {g n c : Nat} {l : List Value} (h : Own w base t (some ⟨g, 0, none⟩) n c l) (j : Nat) (u : Value) : Own (w.setCell ⟨g, j, none⟩ u) base t (some ⟨g, 0, none⟩) n c (l.set j u) :=
  (World.ownsRow.stored h j u).1
theorem Own.alloc {w : World} {base : Nat} {t : TypeId} {A : Option Addr} {n c : Nat} {l : List Value} (h : Own w base t A n c l) (o : Obj) : Own (w.alloc o) base t A n c l := World.ownsRow.alloc h o
theorem hid_own {w : World} {base : Nat} {t : TypeId} {A : Option Addr} {n c : Nat} {l : List Value} (h : Own w base t A n c l) : Hid (Own w base t A n c l) := h
/-- Two bytes are stored. -/
theorem Own.two {w : World} {base : Nat} {t : TypeId} {g n c : Nat} {l : List Nat} (h : Own w base t (some ⟨g, 0, none⟩) n c (l.map u8v)) (i j x y : Nat) :
    Hid (Own ((w.setCell ⟨g, i, none⟩ (.int .u8 (x : Int))).setCell ⟨g, j, none⟩ (.int .u8 (y : Int))) base t (some ⟨g, 0, none⟩) n c (((l.set i x).set j y).map u8v)) := by
  have h1 := (Own.stored h i (u8v x)).stored j (u8v y)
  have e : ((l.map u8v).set i (u8v x)).set j (u8v y) = ((l.set i x).set j y).map u8v := by rw [List.map_set, List.map_set]
  rw [e] at h1
  exact h1
theorem Own.ge {w : World} {base : Nat} {t : TypeId} {g n c : Nat} {l : List Value} (h : Own w base t (some ⟨g, 0, none⟩) n c l) : base ≤ g := (World.ownsRow.lt h g rfl).1
theorem Own.cellAt {w : World} {base : Nat} {t : TypeId} {g n c : Nat} {l : List Value} (h : Own w base t (some ⟨g, 0, none⟩) n c l) (j : Nat) (hj : j < n) : w.cell? ⟨g, j, none⟩ = l[j]? := World.ownsRow.cellAt h j (by omega)
theorem Own.frozenAt {w : World} {base : Nat} {t : TypeId} {g n c : Nat} {l : List Value} (h : Own w base t (some ⟨g, 0, none⟩) n c l) (j : Nat) : w.frozen? ⟨g, j, none⟩ = false := World.ownsRow.frozenAt h j
theorem Own.addr {w : World} {base : Nat} {t : TypeId} {A : Option Addr} {n c : Nat} {l : List Value} (h : Own w base t A n c l) (hn : 0 < n) : ∃ g, A = some ⟨g, 0, none⟩ := by
  rcases h.2 with ⟨h0, h1⟩ | ⟨g, cap, cur, hv, _⟩
  · omega
  · injection hv with h1; exact ⟨g, h1⟩
theorem Own.below {w w' : World} {base B : Nat} {t : TypeId} {A : Option Addr} {n c : Nat} {l : List Value} (h : Own w base t A n c l) (hb : Below B w w') (hA : ∀ g, A = some ⟨g, 0, none⟩ → g < B) : Own w' base t A n c l := by
  refine ⟨h.1, ?_⟩
  rcases h.2 with h0 | ⟨g, cap, cur, hv, r1, r2, r3⟩
  · exact .inl h0
  · refine .inr ⟨g, cap, cur, hv, r1, ?_, r3⟩
    rw [hb.block g (hA g (by injection hv))]; exact r2
theorem Own.length {w : World} {base : Nat} {t : TypeId} {A : Option Addr} {n c : Nat} {l : List Value} (h : Own w base t A n c l) : l.length = n := by have := h.1; omega
theorem Own.view {w : World} {base : Nat} {t : TypeId} {A : Option Addr} {n c : Nat} {l : List Value} (h : Own w base t A n c l) : View w w.heap.size A l := by
  intro hn
  have hl := h.length
  have hpos : 0 < n := by
    rcases l with _ | ⟨x, l⟩
    · exact absurd rfl hn
    · simp at hl; omega
  have hw := h
  obtain ⟨_, ⟨_, h0⟩ | ⟨g, cap, cur, hv, _, hh, _⟩⟩ := h
  · omega
  · injection hv with hv1
    subst hv1
    have hg : g < w.heap.size := by
      rcases Nat.lt_or_ge g w.heap.size with hlt | hge
      · exact hlt
      · rw [Array.getElem?_eq_none hge] at hh; cases hh
    refine ⟨g, 0, rfl, hg, fun j u hu => ?_⟩
    have := World.ownsRow.cells hw (g := g) rfl j u hu
    rw [Nat.zero_add]
    unfold Addr.add at this
    split at this
    · next h0 => subst h0; exact this
    · simpa using this
theorem Own.bview {w : World} {base : Nat} {t : TypeId} {A : Option Addr} {n c : Nat} {l : List Nat} (h : Own w base t A n c (l.map u8v)) (hb : Bytes l) : BView w w.heap.size A l := ⟨hb, h.view⟩
theorem Own.le_cap {w : World} {base : Nat} {t : TypeId} {A : Option Addr} {n c : Nat} {l : List Value} (h : Own w base t A n c l) : n ≤ c := by
  rcases h.2 with ⟨h0, h1⟩ | ⟨g, cap, cur, hv, _, _, hc, _⟩
  · omega
  · injection hv with _ _ h3; omega

theorem Own.cap0 {w : World} {base : Nat} {t : TypeId} {A : Option Addr} {n c : Nat} {l : List Value} (h : Own w base t A n c l) (hA : A = none) : c = 0 := by
  subst hA
  rcases h.2 with ⟨h0, h1⟩ | ⟨g, cap, cur, hv, _, _, hc, _⟩
  · injection h0
  · injection hv with h1; cases h1

theorem wp_append1 {P : Program} {w : World} {ops : Array Oper} {rest : List Oper} {o : Oper} {a : Act} {Q : Exit → Act → World → Prop} (hgd : o.guard = none) (s x : Operand) (t : TypeId)
    (ho : o.op = .call { callee := .builtin .append, args := #[s, x], argTypes := #[t, t] })
    (base : Nat) (e : TypeId) (z : Value) (by_ : Nat) (hz1 : z.cells = #[z]) (ht : P.underlying t = some (.slice e)) (h2 : (P.info? e).map (fun i => (i.zero, i.size, i.bytes)) = some (some z, 1, by_))
    (A : Option Addr) (n c : Nat) (xs : List Value) (hs : a.eval s = .slice A n c) (hown : Own w base e A n c xs)
    (B : Nat) (Ax : Option Addr) (m cx : Nat) (ys : List Value) (hx : a.eval x = .slice Ax m cx) (hv : View w B Ax ys) (hm : ys.length = m) (hcx : Ax = none → cx = 0) (h1 : ∀ u ∈ ys, u.oneCell' = true)
    (h63 : n + m ≤ maxLen) (hbytes : (n + m) * by_ ≤ 140737488355328) (hbase : base ≤ w.heap.size) (B0 : Nat) (w0 : World) (hb0 : Below B0 w0 w) (hB0 : B0 ≤ base)
    (h : ∀ A' c' w', Hid (Own w' base e A' (n + m) c' (xs ++ ys)) → Below B0 w0 w' → wpList P ops Q rest (a.put o.dst (.slice A' (n + m) c')) w') : wpList P ops Q (o :: rest) a w := by
  obtain ⟨i, hi, hz, hsz, hby⟩ := info_parts h2
  cases Ax with
  | none =>
    have h0 : ys = [] := by
      rcases ys with _ | ⟨y, ys⟩
      · rfl
      · obtain ⟨b, o, e1, _⟩ := hv (by simp); cases e1
    subst h0
    simp only [List.length_nil] at hm
    subst hm
    rw [hcx rfl] at hx
    refine wpList_append_own_none hgd s x t ho base e i 1 ht hi _ n xs hs hown hx ?_
    exact h A c w (by rw [List.append_nil]; exact hown) hb0
  | some ad =>
    refine wpList_append_own w hgd s x t ho base e i z 1 by_ ht hi hz hsz hby (by rw [hz1]; rfl) (by omega) _ n xs hs hown ad m cx ys hx (by omega) ?_ h1 h63 hbytes hbase ?_
    · intro j u hu
      obtain ⟨b, o, e1, _, hc⟩ := hv (by rintro rfl; simp at hu)
      injection e1 with e1
      subst e1
      have := hc j u hu
      unfold Addr.add
      split
      · next h0 => subst h0; simpa using this
      · exact this
    · intro v' w' h' hg _
      obtain ⟨A', c', rfl⟩ := own_form h'
      refine h A' c' w' h' (hb0.grown hg (by omega) ?_)
      intro k hk
      have := (World.ownsRow.lt hown k hk).1
      omega

/-- A new slice of bytes l, made by appending; nothing old has changed. -/
def Made (w : World) (l : List Nat) (e : Ending) (w' : World) : Prop :=
  ∃ A c, e = .returned (.slice A l.length c) ∧ (A = none → c = 0) ∧ BView w' w'.heap.size A l ∧ Below w.heap.size w w'
end Go.Proofs.YtocnmcndcdncmaaDoor
