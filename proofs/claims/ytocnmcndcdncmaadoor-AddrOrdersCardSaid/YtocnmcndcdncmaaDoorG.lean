
/- The engine's third part: memory as one list of entries; what an operation makes of it. Any program. -/
import Derived.Test.YtocnmcndcdncmaaDoorF
namespace Go.Proofs.YtocnmcndcdncmaaDoor
open Go.RowKit

/-- All blocks but those of F are as they were. -/
structure Kp (F : List Nat) (w w' : World) : Prop where
  os : w'.os = w.os
  tape : w'.tape = w.tape
  output : w'.output = w.output
  size : w.heap.size ≤ w'.heap.size
  block : ∀ k, k < w.heap.size → k ∉ F → w'.heap[k]? = w.heap[k]?
theorem Kp.refl (F : List Nat) (w : World) : Kp F w w := ⟨rfl, rfl, rfl, Nat.le_refl _, fun _ _ _ => rfl⟩
theorem Kp.trans {F : List Nat} {a b c : World} (h : Kp F a b) (k : Kp F b c) : Kp F a c :=
  ⟨k.os.trans h.os, k.tape.trans h.tape, k.output.trans h.output, Nat.le_trans h.size k.size, fun i hi hn => (k.block i (Nat.lt_of_lt_of_le hi h.size) hn).trans (h.block i hi hn)⟩
theorem Kp.mono {F G : List Nat} {a b : World} (h : Kp F a b) (hs : ∀ g ∈ F, g ∈ G ∨ a.heap.size ≤ g) : Kp G a b :=
  ⟨h.os, h.tape, h.output, h.size, fun i hi hn => h.block i hi fun hf => by rcases hs i hf with h1 | h1; exact hn h1; omega⟩
theorem Kp.of_below {w w' : World} (h : Below w.heap.size w w') : Kp [] w w' := ⟨h.os, h.tape, h.output, h.size, fun k hk _ => h.block k hk⟩
theorem Kp.below {w w' : World} (h : Kp [] w w') : Below w.heap.size w w' := ⟨h.os, h.tape, h.output, h.size, fun k hk => h.block k hk (by simp)⟩
theorem Kp.of_grown {w w' : World} {row : Option Nat} (h : w.grownBy w' row) : Kp row.toList w w' :=
  ⟨h.os, h.tape, h.output, h.size, fun k hk hn => h.block k hk (fun e => hn (by rw [← e]; simp))⟩
theorem Kp.alloc (w : World) (o : Obj) : Kp [] w (w.alloc o) := Kp.of_below ((Below.refl _ _).alloc (Nat.le_refl _) o)
theorem Kp.setCell (w : World) (a : Addr) (v : Value) : Kp [a.block] w (w.setCell a v) :=
  ⟨rfl, rfl, rfl, by simp [World.setCell], fun k _ hn => Below.heap_setCell _ _ _ _ (by simpa using hn)⟩
theorem Kp.setRow (w : World) (g : Nat) (cs : Array Value) : Kp [g] w (w.setRow g cs) :=
  ⟨rfl, rfl, rfl, by simp, fun k _ hn => setRow_other w g k cs (by simpa using hn)⟩

inductive Ent where
  | blk (g : Nat) (t : TypeId) (l : List Value)
  | row (v : Value) (e : TypeId) (size n : Nat) (xs : List Value)
  | vw (A : Option Addr) (xs : List Value)
  | obj (g : Nat) (o : Obj)
instance : Inhabited Ent := ⟨.vw none []⟩
def Ent.ro : Ent → Bool | .vw _ _ => true | _ => false
def Ent.blk? : Ent → Option Nat
  | .blk g _ _ => some g
  | .row v _ _ _ _ => v.ownBlock
  | .vw A xs => match xs with | [] => none | _ => A.map (·.block)
  | .obj g _ => some g
def Ent.ok (w : World) : Ent → Prop
  | .blk g t l => Arr w g t l
  | .row v e size n xs => w.ownsRow 0 e size v n xs
  | .vw A xs => View w w.heap.size A xs
  | .obj g o => w.heap[g]? = some o
def Ent.apart (a b : Ent) : Prop := (a.ro && b.ro) = true ∨ a.blk? = none ∨ b.blk? = none ∨ a.blk? ≠ b.blk?
theorem Ent.apart_symm {a b : Ent} (h : a.apart b) : b.apart a := by
  rcases h with h | h | h | h
  · exact .inl (by rw [Bool.and_comm]; exact h)
  · exact .inr (.inr (.inl h))
  · exact .inr (.inl h)
  · exact .inr (.inr (.inr fun e => h e.symm))
theorem Ent.ok_lt {w : World} {e : Ent} (h : e.ok w) {g : Nat} (hg : e.blk? = some g) : g < w.heap.size := by
  cases e with
  | blk b t l => injection hg with hg; subst hg; exact Arr.lt h
  | row v e size n xs => exact (World.ownsRow.lt h g hg).2
  | vw A xs =>
    cases xs with
    | nil => cases hg
    | cons x xs =>
      obtain ⟨b, o, rfl, hb, _⟩ := h (by simp)
      injection hg with hg
      subst hg
      exact hb
  | obj b o => injection hg with hg; subst hg; exact (Array.getElem?_eq_some_iff.1 h).1
theorem Ent.ok_keep {w w' : World} {e : Ent} (h : e.ok w) (hs : w.heap.size ≤ w'.heap.size) (hb : ∀ g, e.blk? = some g → w'.heap[g]? = w.heap[g]?) : e.ok w' := by
  cases e with
  | blk b t l => exact (hb b rfl).trans h
  | row v e size n xs =>
    refine ⟨h.1, ?_⟩
    rcases h.2 with h0 | ⟨g, cap, cur, rfl, h1, h2, h3⟩
    · exact .inl h0
    · exact .inr ⟨g, cap, cur, rfl, h1, (hb g rfl).trans h2, h3⟩
  | vw A xs =>
    intro hn
    obtain ⟨b, o, rfl, hlt, hc⟩ := h hn
    refine ⟨b, o, rfl, by omega, fun j u hu => ?_⟩
    rw [World.cell?_of_block (w := w) (w' := w') (hb b (by cases xs with | nil => exact absurd rfl hn | cons => rfl))]
    exact hc j u hu
  | obj b o => exact (hb b rfl).trans h

structure St (F : List Nat) (w0 : World) (M : List Ent) (w : World) : Prop where
  kp : Kp F w0 w
  ok : ∀ e ∈ M, e.ok w
  ap : ∀ (i j : Nat) (a b : Ent), i ≠ j → M[i]? = some a → M[j]? = some b → a.apart b
  own : ∀ e ∈ M, e.ro = false → ∀ g, e.blk? = some g → g ∈ F ∨ w0.heap.size ≤ g

section
variable {F G : List Nat} {w0 w w' : World} {M : List Ent} {e e' : Ent} {i : Nat}
theorem St.nil_ (w : World) : St [] w [] w := ⟨Kp.refl _ _, by simp, by simp, by simp⟩
theorem mem_of_get (h : M[i]? = some e) : e ∈ M := List.mem_of_getElem? h
theorem Kp.step {a b c : World} (h : Kp F a b) (k : Kp G b c) (hG : ∀ g ∈ G, g ∈ F ∨ a.heap.size ≤ g) : Kp F a c :=
  ⟨k.os.trans h.os, k.tape.trans h.tape, k.output.trans h.output, Nat.le_trans h.size k.size, fun i hi hn => (k.block i (Nat.lt_of_lt_of_le hi h.size) fun hg => by
      rcases hG i hg with h1 | h1
      · exact hn h1
      · omega).trans (h.block i hi hn)⟩
/-- Blocks of G have turned; no entry lies there. -/
theorem St.keep (h : St F w0 M w) (hk : Kp G w w') (hd : ∀ e ∈ M, ∀ g, e.blk? = some g → g ∉ G) (hG : ∀ g ∈ G, g ∈ F ∨ w0.heap.size ≤ g) : St F w0 M w' :=
  ⟨h.kp.step hk hG, fun e he => Ent.ok_keep (h.ok e he) hk.size fun g hg => hk.block g (Ent.ok_lt (h.ok e he) hg) (hd e he g hg), h.ap, h.own⟩
theorem St.kept (h : St F w0 M w) (hk : Kp [] w w') : St F w0 M w' := h.keep hk (by simp) (by simp)
theorem St.below (h : St F w0 M w) (hb : Below w.heap.size w w') : St F w0 M w' := h.kept (Kp.of_below hb)
theorem St.drew (h : St F w0 M w) : St F w0 M w.drew := h.below (Below.refl _ _).drew
/-- A new entry: nothing old has turned. -/
def New (w w' : World) (e : Ent) : Prop := e.ok w' ∧ e.ro = false ∧ ∀ g, e.blk? = some g → w.heap.size ≤ g
theorem St.cons (h : St F w0 M w) (hok : e.ok w) (hro : e.ro = false) (hown : ∀ g, e.blk? = some g → g ∈ F ∨ w0.heap.size ≤ g) (hap : ∀ e' ∈ M, e.apart e') : St F w0 (e :: M) w := by
  refine ⟨h.kp, fun x hx => ?_, fun i j a b hij ha hb => ?_, fun x hx => ?_⟩
  · rcases List.mem_cons.1 hx with rfl | hx
    · exact hok
    · exact h.ok x hx
  · cases i with
    | zero =>
      rw [List.getElem?_cons_zero] at ha; injection ha with ha; subst ha
      cases j with
      | zero => exact absurd rfl hij
      | succ j => rw [List.getElem?_cons_succ] at hb; exact hap b (mem_of_get hb)
    | succ i =>
      rw [List.getElem?_cons_succ] at ha
      cases j with
      | zero => rw [List.getElem?_cons_zero] at hb; injection hb with hb; subst hb; exact Ent.apart_symm (hap a (mem_of_get ha))
      | succ j => rw [List.getElem?_cons_succ] at hb; exact h.ap i j a b (by omega) ha hb
  · rcases List.mem_cons.1 hx with rfl | hx
    · exact fun _ => hown
    · exact h.own x hx
theorem St.add (h : St F w0 M w) (hk : Kp [] w w') (hn : New w w' e) : St F w0 (e :: M) w' := by
  refine (h.kept hk).cons hn.1 hn.2.1 (fun g hg => .inr (Nat.le_trans h.kp.size (hn.2.2 g hg))) fun e' he' => ?_
  cases hb : e.blk? with
  | none => exact .inr (.inl hb)
  | some g =>
    cases hb' : e'.blk? with
    | none => exact .inr (.inr (.inl hb'))
    | some g' =>
      refine .inr (.inr (.inr ?_))
      rw [hb, hb']
      have h1 := hn.2.2 g hb
      have h2 := Ent.ok_lt (h.ok e' he') hb'
      intro he; injection he; omega
/-- A read-only entry beside it: it lies in none of the call's own. -/
theorem St.addv (h : St F w0 M w) {A : Option Addr} {xs : List Value} (hv : View w w.heap.size A xs) (hap : ∀ e' ∈ M, (Ent.vw A xs).apart e') : St F w0 (.vw A xs :: M) w := by
  refine ⟨h.kp, fun x hx => ?_, fun i j a b hij ha hb => ?_, fun x hx => ?_⟩
  · rcases List.mem_cons.1 hx with rfl | hx
    · exact hv
    · exact h.ok x hx
  · cases i with
    | zero =>
      rw [List.getElem?_cons_zero] at ha; injection ha with ha; subst ha
      cases j with
      | zero => exact absurd rfl hij
      | succ j => rw [List.getElem?_cons_succ] at hb; exact hap b (mem_of_get hb)
    | succ i =>
      rw [List.getElem?_cons_succ] at ha
      cases j with
      | zero => rw [List.getElem?_cons_zero] at hb; injection hb with hb; subst hb; exact Ent.apart_symm (hap a (mem_of_get ha))
      | succ j => rw [List.getElem?_cons_succ] at hb; exact h.ap i j a b (by omega) ha hb
  · rcases List.mem_cons.1 hx with rfl | hx
    · intro h0; cases h0
    · exact h.own x hx
/-- Views alone are apart. -/
theorem St.start (w : World) (M : List Ent) (hro : ∀ e ∈ M, e.ro = true) (hok : ∀ e ∈ M, e.ok w) : St [] w M w :=
  ⟨Kp.refl _ _, hok, fun _ _ a b _ ha hb => .inl (by rw [hro a (mem_of_get ha), hro b (mem_of_get hb)]; rfl), fun e he h0 => by rw [hro e he] at h0; cases h0⟩
theorem St.sv (w : World) : St [] w [] w := St.nil_ w
theorem St.vcons (h : St [] w M w) (hro : M.all (·.ro) = true) {A : Option Addr} {xs : List Value} (hv : View w w.heap.size A xs) : St [] w (.vw A xs :: M) w :=
  h.addv hv fun e' he' => .inl (by rw [List.all_eq_true.1 hro e' he']; rfl)
/-- The entries in another order, or fewer. -/
def nodupB : List Nat → Bool | [] => true | x :: l => !l.elem x && nodupB l
theorem nodupB_ne {l : List Nat} (h : nodupB l = true) : ∀ (i j x y : Nat), i ≠ j → l[i]? = some x → l[j]? = some y → x ≠ y := by
  induction l with
  | nil => intro i j x y _ hx; simp at hx
  | cons a l ih =>
    simp only [nodupB, Bool.and_eq_true, Bool.not_eq_true'] at h
    intro i j x y hij hx hy
    cases i with
    | zero =>
      cases j with
      | zero => exact absurd rfl hij
      | succ j =>
        rw [List.getElem?_cons_zero] at hx; rw [List.getElem?_cons_succ] at hy
        injection hx with hx; subst hx
        rintro rfl
        have := List.elem_eq_true_of_mem (List.mem_of_getElem? hy)
        rw [h.1] at this; cases this
    | succ i =>
      rw [List.getElem?_cons_succ] at hx
      cases j with
      | zero =>
        rw [List.getElem?_cons_zero] at hy
        injection hy with hy; subst hy
        rintro rfl
        have := List.elem_eq_true_of_mem (List.mem_of_getElem? hx)
        rw [h.1] at this; cases this
      | succ j => rw [List.getElem?_cons_succ] at hy; exact ih h.2 i j x y (by omega) hx hy
def picks (M : List Ent) : List Nat → List Ent | [] => [] | i :: l => M.getD i default :: picks M l
theorem picks_get (M : List Ent) (l : List Nat) (hl : l.all (fun i => Nat.blt i M.length) = true) : ∀ (p : Nat) (e : Ent), (picks M l)[p]? = some e → ∃ i, l[p]? = some i ∧ M[i]? = some e := by
  induction l with
  | nil => intro p e h; simp [picks] at h
  | cons a l ih =>
    intro p e h
    simp only [List.all_cons, Bool.and_eq_true] at hl
    cases p with
    | zero =>
      simp only [picks, List.getElem?_cons_zero] at h
      injection h with h
      have ha : a < M.length := by simpa [Nat.blt_eq] using hl.1
      refine ⟨a, rfl, ?_⟩
      rw [← h, List.getD_eq_getElem?_getD, List.getElem?_eq_getElem ha]; rfl
    | succ p =>
      simp only [picks, List.getElem?_cons_succ] at h
      exact ih hl.2 p e h
theorem St.pick (h : St F w0 M w) (l : List Nat) (hl : l.all (fun i => Nat.blt i M.length) = true) (hn : nodupB l = true) : St F w0 (picks M l) w := by
  refine ⟨h.kp, fun e he => ?_, fun i j a b hij ha hb => ?_, fun e he => ?_⟩
  · obtain ⟨p, hp⟩ := List.getElem?_of_mem he
    obtain ⟨i, _, hi⟩ := picks_get M l hl p e hp
    exact h.ok e (mem_of_get hi)
  · obtain ⟨p, hp, hp'⟩ := picks_get M l hl i a ha
    obtain ⟨q, hq, hq'⟩ := picks_get M l hl j b hb
    exact h.ap p q a b (nodupB_ne hn i j p q hij hp hq) hp' hq'
  · obtain ⟨p, hp⟩ := List.getElem?_of_mem he
    obtain ⟨i, _, hi⟩ := picks_get M l hl p e hp
    exact h.own e (mem_of_get hi)
/-- Entry i turns into another, in its block or in a new one. -/
theorem St.set_ (h : St F w0 M w) (hM : M[i]? = some e) (hro : e.ro = false) (hk : Kp e.blk?.toList w w') (hok : e'.ok w') (hro' : e'.ro = false) (hb : ∀ g, e'.blk? = some g → e.blk? = some g ∨ w.heap.size ≤ g) : St F w0 (M.set i e') w' := by
  have hG : ∀ g ∈ e.blk?.toList, g ∈ F ∨ w0.heap.size ≤ g := fun g hg => h.own e (mem_of_get hM) hro g (by simpa using hg)
  have hap : ∀ (j : Nat) (b : Ent), j ≠ i → M[j]? = some b → ∀ g, b.blk? = some g → e.blk? ≠ some g := by
    intro j b hj hb g hg he
    rcases h.ap i j e b (by omega) hM hb with h1 | h1 | h1 | h1
    · rw [hro] at h1; simp at h1
    · rw [h1] at he; cases he
    · rw [h1] at hg; cases hg
    · rw [he, hg] at h1; exact h1 rfl
  have hget : ∀ (j : Nat) (b : Ent), (M.set i e')[j]? = some b → (j = i ∧ b = e') ∨ (j ≠ i ∧ M[j]? = some b) := by
    intro j b hj
    rw [List.getElem?_set] at hj
    split at hj
    · next hij => split at hj
                  · injection hj with hj; exact .inl ⟨hij.symm, hj.symm⟩
                  · cases hj
    · next hij => exact .inr ⟨fun e => hij e.symm, hj⟩
  have hokM : ∀ (j : Nat) (b : Ent), j ≠ i → M[j]? = some b → b.ok w' := fun j b hj hb =>
    Ent.ok_keep (h.ok b (mem_of_get hb)) hk.size fun g hg => hk.block g (Ent.ok_lt (h.ok b (mem_of_get hb)) hg) (by simpa using hap j b hj hb g hg)
  have hapM : ∀ (j : Nat) (b : Ent), j ≠ i → M[j]? = some b → e'.apart b := by
    intro j b hj hb'
    cases hx : e'.blk? with
    | none => exact .inr (.inl hx)
    | some g =>
      cases hy : b.blk? with
      | none => exact .inr (.inr (.inl hy))
      | some g' =>
        refine .inr (.inr (.inr ?_))
        rw [hx, hy]
        intro he; injection he with he; subst he
        rcases hb g hx with h1 | h1
        · exact hap j b hj hb' g hy h1
        · have := Ent.ok_lt (h.ok b (mem_of_get hb')) hy; omega
  refine ⟨h.kp.step hk hG, fun x hx => ?_, fun p q a b hpq ha hb' => ?_, fun x hx => ?_⟩
  · obtain ⟨j, hj⟩ := List.getElem?_of_mem hx
    rcases hget j x hj with ⟨_, rfl⟩ | ⟨h1, h2⟩
    · exact hok
    · exact hokM j x h1 h2
  · rcases hget p a ha with ⟨hp, rfl⟩ | ⟨hp, hp'⟩
    · rcases hget q b hb' with ⟨hq, rfl⟩ | ⟨hq, hq'⟩
      · omega
      · exact hapM q b hq hq'
    · rcases hget q b hb' with ⟨hq, rfl⟩ | ⟨hq, hq'⟩
      · exact Ent.apart_symm (hapM p a hp hp')
      · exact h.ap p q a b hpq hp' hq'
  · obtain ⟨j, hj⟩ := List.getElem?_of_mem hx
    rcases hget j x hj with ⟨_, rfl⟩ | ⟨h1, h2⟩
    · intro _ g hg
      rcases hb g hg with h3 | h3
      · exact h.own e (mem_of_get hM) hro g h3
      · exact .inr (Nat.le_trans h.kp.size h3)
    · exact h.own x (mem_of_get h2)

/-! ### what the entries say -/
theorem oks_drop {M M0 : List Ent} (h : St F w0 M w) (k : Nat) (e : M.drop k = M0) : ∀ x ∈ M0, x.ok w := fun x hx => h.ok x (List.mem_of_mem_drop (by rw [e]; exact hx))
theorem cellB (hok : ∀ x ∈ M, x.ok w) {g o : Nat} {t : TypeId} {l : List Value} {v : Value} (i : Nat) (hM : M[i]? = some (.blk g t l)) (hv : l[o]? = some v) : w.cell? ⟨g, o, none⟩ = some v :=
  (Arr.cell (hok _ (mem_of_get hM)) o).trans hv
theorem rangeB (hok : ∀ x ∈ M, x.ok w) {g o : Nat} {t : TypeId} {l cs : List Value} (i : Nat) (hM : M[i]? = some (.blk g t l)) (hv : (l.drop o).take cs.length = cs) : w.rangeAt g o cs := by
  intro j v hj
  refine cellB hok i hM ?_
  have hl : j < cs.length := by
    rcases Nat.lt_or_ge j cs.length with h1 | h1
    · exact h1
    · rw [List.getElem?_eq_none h1] at hj; cases hj
  rw [← hv, List.getElem?_take, if_pos hl, List.getElem?_drop] at hj
  exact hj
theorem cellV (hok : ∀ x ∈ M, x.ok w) {b p j : Nat} {xs : List Value} {v : Value} (i : Nat) (hM : M[i]? = some (.vw (some ⟨b, p, none⟩) xs)) (hv : xs[j]? = some v) : w.cell? ⟨b, p + j, none⟩ = some v := by
  have h : View w w.heap.size (some ⟨b, p, none⟩) xs := hok _ (mem_of_get hM)
  obtain ⟨b', o', e, _, hc⟩ := h (by intro e; rw [e] at hv; simp at hv)
  injection e with e
  injection e with e1 e2
  subst e1; subst e2
  exact hc j v hv
theorem cellR (hok : ∀ x ∈ M, x.ok w) {g n c sz m o : Nat} {t : TypeId} {xs : List Value} {v : Value} (i : Nat) (hM : M[i]? = some (.row (.slice (some ⟨g, 0, none⟩) n c) t sz m xs)) (hv : xs[o]? = some v) : w.cell? ⟨g, 0 + o, none⟩ = some v := by
  have h : w.ownsRow 0 t sz (.slice (some ⟨g, 0, none⟩) n c) m xs := hok _ (mem_of_get hM)
  have := h.cells (g := g) rfl o v hv
  rwa [add_mk] at this
theorem viewB (hok : ∀ x ∈ M, x.ok w) {g : Nat} {t : TypeId} {l : List Value} (i : Nat) (hM : M[i]? = some (.blk g t l)) : View w w.heap.size (some ⟨g, 0, none⟩) l :=
  Arr.view (hok _ (mem_of_get hM)) (Arr.lt (hok _ (mem_of_get hM)))
theorem viewV (hok : ∀ x ∈ M, x.ok w) {A : Option Addr} {xs : List Value} (i : Nat) (hM : M[i]? = some (.vw A xs)) : View w w.heap.size A xs := hok _ (mem_of_get hM)
theorem viewR (hok : ∀ x ∈ M, x.ok w) {A : Option Addr} {n c sz m : Nat} {t : TypeId} {xs : List Value} (i : Nat) (hM : M[i]? = some (.row (.slice A n c) t sz m xs)) : View w w.heap.size A xs := by
  have h : w.ownsRow 0 t sz (.slice A n c) m xs := hok _ (mem_of_get hM)
  intro hn
  rcases h.2 with ⟨e0, h0⟩ | ⟨g, cap, cur, e0, _, hg, _⟩
  · have := h.1
    rw [h0, Nat.zero_mul] at this
    exact absurd (List.eq_nil_of_length_eq_zero this) hn
  · injection e0 with e1
    subst e1
    exact ⟨g, 0, rfl, (Array.getElem?_eq_some_iff.1 hg).1, fun j u hu => by have := h.cells (g := g) rfl j u hu; rwa [add_mk] at this⟩

/-- One operation; nothing unfolds it. -/
inductive OW (P : Program) (o : Oper) (a : Act) (w : World) (K : Act → World → Prop) (Q : Exit → Act → World → Prop) : Prop
  | mk (h : o.wp P a w K Q)
theorem OW.out {P : Program} {o : Oper} {a : Act} {w : World} {K : Act → World → Prop} {Q : Exit → Act → World → Prop} (h : OW P o a w K Q) : o.wp P a w K Q := h.1
/-- A list of operations; nothing unfolds it. -/
inductive WL (P : Program) (ops : Array Oper) (Q : Exit → Act → World → Prop) (l : List Oper) (a : Act) (w : World) : Prop
  | mk (h : wpList P ops Q l a w)
theorem WL.out {P : Program} {ops : Array Oper} {Q : Exit → Act → World → Prop} {l : List Oper} {a : Act} {w : World} (h : WL P ops Q l a w) : wpList P ops Q l a w := h.1
/-! ### operations that do something -/
variable {P : Program} {a : Act} {x y : Operand} {d : Nat} {t t' ty : TypeId} {pos : String} {aft : Array Edge} {gd : Option (Nat × Bool)} {v : Value} {n : Nat} {f : Nat → Value} {K : Act → World → Prop} {Q : Exit → Act → World → Prop}

theorem info_of {o : Option TypeInfo} {z : Value} {sz bt : Nat} (h : o.map (fun i => (i.zero, i.size, i.bytes)) = some (some z, sz, bt)) : ∃ i, o = some i ∧ i.zero = some z ∧ i.size = sz ∧ i.bytes = bt := by
  cases o with
  | none => cases h
  | some i => injection h with h; injection h with h1 h; injection h with h2 h3; exact ⟨i, rfl, h1, h2, h3⟩
theorem arr_toArray {l : List Value} {cs : Array Value} (h : cs = l.toArray) : cs.toList = l := by subst h; rfl

theorem ow_alloc (h : St F w0 M w) {e : TypeId} {z : Value} {sz bt : Nat} {l : List Value} (hz : (P.info? e).map (fun i => (i.zero, i.size, i.bytes)) = some (some z, sz, bt)) (hl : z.cells = l.toArray)
    (hK : ∀ g w', w.heap.size ≤ g → St F w0 (.blk g e l :: M) w' → K (act n (upd f d (.pointer (some ⟨g, 0, none⟩)))) w') : OW P ⟨some d, .alloc e, ty, pos, aft, gd⟩ (act n f) w K Q := by
  refine ⟨?_⟩
  obtain ⟨i, hi, hz, -, -⟩ := info_of hz
  unfold Oper.wp execOp
  simp only [Instr.alloc, Sem.run_bind, zeroValue, typeInfo, newVar, newRow]
  simp [hi, hz, hl, Oper.upon, act_put]
  refine hK w.heap.size _ (Nat.le_refl _) (h.add (Kp.alloc w (.cells l.toArray e)) ⟨Arr.new w e l, rfl, fun g hg => ?_⟩)
  injection hg with hg
  omega
theorem ow_box (h : St F w0 M w) {e : TypeId} {l : List Value} (hx : (act n f).eval x = v) (hl : v.cells = l.toArray)
    (hK : ∀ g w', w.heap.size ≤ g → St F w0 (.blk g e l :: M) w' → K (act n (upd f d (.pointer (some ⟨g, 0, none⟩)))) w') : OW P ⟨some d, .box e x, ty, pos, aft, gd⟩ (act n f) w K Q := by
  refine ⟨?_⟩
  unfold Oper.wp execOp
  simp only [Instr.box, Sem.run_bind, newVar, newRow, hx]
  simp [hl, Oper.upon, act_put]
  refine hK w.heap.size _ (Nat.le_refl _) (h.add (Kp.alloc w (.cells l.toArray e)) ⟨Arr.new w e l, rfl, fun g hg => ?_⟩)
  injection hg with hg
  omega
theorem oneC {v : Value} (h : v.oneCell' = true) : v.cells = #[v] := by cases v <;> first | rfl | cases h
theorem run_store1 {g o : Nat} {ty' : TypeId} {u : Value} (hz : (P.info? ty').map (·.size) = some 1) (h1 : v.oneCell' = true) (hc : w.cell? ⟨g, o, none⟩ = some u) (hf : w.frozen? ⟨g, o, none⟩ = false) :
    (Instr.storeAt ty' (.pointer (some ⟨g, o, none⟩)) v).run P w = .ok () (w.setCell ⟨g, o, none⟩ v) := by
  obtain ⟨ti, hi, hti⟩ : ∃ ti, P.info? ty' = some ti ∧ ti.size = 1 := by
    cases h : P.info? ty' with
    | none => rw [h] at hz; cases hz
    | some ti => rw [h] at hz; exact ⟨ti, rfl, by simpa using hz⟩
  have hs : (store (⟨g, o, none⟩ : Addr) v).run P w = .ok () (w.setCell ⟨g, o, none⟩ v) := by
    rw [run_store P w ⟨g, o, none⟩ v .plain h1, hc]
    simp [hf]
  simp only [Instr.storeAt, Instr.sureAddr, Sem.run_bind, Sem.run_pure, Result.andThen_ok, storeVar, sizeOf, typeInfo, oneC h1]
  simp [hi, hti, storeCells, hs, Addr.add]
theorem ow_storeX (h : St F w0 M w) (i : Nat) {g o : Nat} {t : TypeId} {l : List Value} {ty' : TypeId} (hM : M[i]? = some (.blk g t l)) (hz : (P.info? ty').map (·.size) = some 1) (hx : (act n f).eval x = .pointer (some ⟨g, o, none⟩)) (hy : (act n f).eval y = v) (h1 : v.oneCell' = true) (ho : o < l.length)
    (hK : ∀ w', St F w0 (M.set i (.blk g t (l.set o v))) w' → K (act n f) w') : OW P ⟨none, .store ty' x y, ty, pos, aft, gd⟩ (act n f) w K Q := by
  refine ⟨?_⟩
  have hA : Arr w g t l := h.ok _ (mem_of_get hM)
  have hr := run_store1 (P := P) (w := w) hz h1 ((hA.cell o).trans (List.getElem?_eq_getElem ho)) (hA.frozen o)
  unfold Oper.wp execOp
  simp only [hx, hy, Sem.run_bind, hr, Result.andThen_ok, Sem.run_pure, Oper.upon]
  exact hK _ (h.set_ hM rfl (Kp.setCell w ⟨g, o, none⟩ v) (hA.set_ o v) rfl fun g' hg => .inl hg)
theorem ow_store (h : St F w0 M w) (i : Nat) {g o : Nat} {t : TypeId} {l : List Value} {ty' : TypeId} (hM : M[i]? = some (.blk g t l)) (hz : (P.info? ty').map (·.size) = some 1) (hx : (act n f).eval x = .pointer (some ⟨g, o, none⟩)) (hy : (act n f).eval y = v) (h1 : v.oneCell' = true) (ho : Nat.blt o l.length = true)
    (hK : ∀ w', St F w0 (M.set i (.blk g t (l.set o v))) w' → K (act n f) w') : OW P ⟨none, .store ty' x y, ty, pos, aft, gd⟩ (act n f) w K Q :=
  ow_storeX h i hM hz hx hy h1 (by simpa [Nat.blt_eq] using ho) hK
theorem ow_storeR (h : St F w0 M w) (i : Nat) {g o m c sz : Nat} {t : TypeId} {xs : List Value} {ty' : TypeId} (hM : M[i]? = some (.row (.slice (some ⟨g, 0, none⟩) m c) t sz m xs)) (hz : (P.info? ty').map (·.size) = some 1) (hx : (act n f).eval x = .pointer (some ⟨g, 0 + o, none⟩)) (hy : (act n f).eval y = v) (h1 : v.oneCell' = true) (ho : o < xs.length)
    (hK : ∀ w', St F w0 (M.set i (.row (.slice (some ⟨g, 0, none⟩) m c) t sz m (xs.set o v))) w' → K (act n f) w') : OW P ⟨none, .store ty' x y, ty, pos, aft, gd⟩ (act n f) w K Q := by
  refine ⟨?_⟩
  have hA : w.ownsRow 0 t sz (.slice (some ⟨g, 0, none⟩) m c) m xs := h.ok _ (mem_of_get hM)
  rw [Nat.zero_add] at hx
  obtain ⟨hl, ⟨h0, _⟩ | ⟨g', cap, cur, e0, hb, hg, hnc, hcm, hcs, htk⟩⟩ := hA
  · cases h0
  · injection e0 with e1 e2 e3
    injection e1 with e1
    injection e1 with e1
    subst e1; subst e3
    have hcl : o < cur.size := by
      rw [← htk] at ho
      simp at ho
      omega
    have hc : w.cell? ⟨g, o, none⟩ = some cur[o] := by rw [cell_of_row w g o cur t (0, 0) hg]; simp [hcl]
    have hfz := frozen_of_row w g o cur t hg
    have hr := run_store1 (P := P) (w := w) hz h1 hc hfz
    unfold Oper.wp execOp
    simp only [hx, hy, Sem.run_bind, hr, Result.andThen_ok, Sem.run_pure, Oper.upon]
    refine hK _ (h.set_ hM rfl (Kp.setCell w ⟨g, o, none⟩ v) ?_ rfl fun g' hg => .inl hg)
    refine ⟨by simpa using hl, .inr ⟨g, c, cur.setIfInBounds o v, rfl, Nat.zero_le _, ?_, hnc, hcm, by simpa using hcs, ?_⟩⟩
    · simp [World.setCell, Array.getElem?_modify, hg]
    · rw [Array.toList_setIfInBounds, List.take_set, htk]
end

/-! ### the walk's rules -/
section
variable {P : Program} {ops : Array Oper} {rest : List Oper} {Q : Exit → Act → World → Prop} {n d : Nat} {f : Nat → Value} {w : World} {op : Op} {ty : TypeId} {pos : String} {aft : Array Edge} {gd : Option (Nat × Bool)} {v : Value} {M0 : List Ent}
theorem wlit {id : Nat} {l : List Oper} (h : WL P l.toArray Q l (act n f) w) : (Code.region id l.toArray false).wp P Q (act n f) w := wp_region_lit h.out
theorem wl_nil (h : Q .normal (act n f) w) : WL P ops Q [] (act n f) w := ⟨h⟩
theorem wl_v (hr : (execOp (act n f).eval ⟨some d, op, ty, pos, aft, none⟩).run P w = .ok (.value v) w) (h : WL P ops Q rest (act n (upd f d v)) w) : WL P ops Q (⟨some d, op, ty, pos, aft, none⟩ :: rest) (act n f) w := by
  refine ⟨wpList_plain rfl fun K hK => ?_⟩
  unfold Oper.wp
  rw [hr]
  show K ((act n f).put (some d) v) w
  rw [act_put]
  exact hK _ _ h.out
theorem wl_e {o : Oper} (hg : o.guard = none) (h : ∀ K : Act → World → Prop, (∀ a w, WL P ops Q rest a w → K a w) → OW P o (act n f) w K Q) : WL P ops Q (o :: rest) (act n f) w := ⟨wpList_plain hg fun K hK => (h K fun a w h => hK a w h.out).out⟩
theorem yielded_act {j dj : Nat} {oj : Oper} {b : Bool} (hj : ops[j]? = some oj) (hd : oj.dst = some dj) (hn : Nat.blt dj n = true) (hv : f dj = .bool b) : yielded ops (act n f).tmps j = some b := by
  have hlt : dj < n := by simpa [Nat.blt_eq] using hn
  unfold yielded
  simp only [hj, Option.bind_some, hd]
  have : (act n f).tmps[dj]? = some (.bool b) := by
    unfold act
    simp [hlt, hv]
  rw [this]
theorem want_y {j dj : Nat} {oj : Oper} {b c : Bool} {dst : Option Tmp} (hj : ops[j]? = some oj) (hd : oj.dst = some dj) (hn : Nat.blt dj n = true) (hv : f dj = .bool b) (hb : (b == c) = true) : Region.wanted ⟨dst, op, ty, pos, aft, some (j, c)⟩ (yielded ops (act n f).tmps) = true := by
  unfold Region.wanted
  simp only [yielded_act hj hd hn hv]
  have : b = c := by simpa using hb
  subst this; simp
theorem want_n {j dj : Nat} {oj : Oper} {b c : Bool} {dst : Option Tmp} (hj : ops[j]? = some oj) (hd : oj.dst = some dj) (hn : Nat.blt dj n = true) (hv : f dj = .bool b) (hb : (b == c) = false) : Region.wanted ⟨dst, op, ty, pos, aft, some (j, c)⟩ (yielded ops (act n f).tmps) = false := by
  unfold Region.wanted
  simp only [yielded_act hj hd hn hv]
  cases b <;> cases c <;> simp_all
/-- Not there: a guard whose own operation was not wanted. -/
theorem want_u {j dj : Nat} {oj : Oper} {c : Bool} {dst : Option Tmp} (hj : ops[j]? = some oj) (hd : oj.dst = some dj) (hn : Nat.blt dj n = true) (hv : f dj = undef) : Region.wanted ⟨dst, op, ty, pos, aft, some (j, c)⟩ (yielded ops (act n f).tmps) = false := by
  have hlt : dj < n := by simpa [Nat.blt_eq] using hn
  have hy : yielded ops (act n f).tmps j = none := by
    unfold yielded
    simp only [hj, Option.bind_some, hd]
    have : (act n f).tmps[dj]? = some undef := by
      unfold act
      simp [hlt, hv]
    rw [this]
    rfl
  unfold Region.wanted
  simp only [hy]
  rfl
theorem want_0 {dst : Option Tmp} {yl : Nat → Option Bool} : Region.wanted ⟨dst, op, ty, pos, aft, none⟩ yl = true := rfl
theorem wl_g {o : Oper} (hw : Region.wanted o (yielded ops (act n f).tmps) = true) (h : ∀ K : Act → World → Prop, (∀ a w, WL P ops Q rest a w → K a w) → OW P o (act n f) w K Q) : WL P ops Q (o :: rest) (act n f) w :=
  ⟨wpList_step fun K hK => by rw [if_pos hw]; exact (h K fun a w h => hK a w h.out).out⟩
theorem ow_v {K : Act → World → Prop} (hr : (execOp (act n f).eval ⟨some d, op, ty, pos, aft, gd⟩).run P w = .ok (.value v) w) (h : K (act n (upd f d v)) w) : OW P ⟨some d, op, ty, pos, aft, gd⟩ (act n f) w K Q := by
  refine ⟨?_⟩
  unfold Oper.wp
  rw [hr]
  show K ((act n f).put (some d) v) w
  rw [act_put]
  exact h
theorem wl_s {o : Oper} {d : Nat} (hd : o.dst = some d) (hw : Region.wanted o (yielded ops (act n f).tmps) = false) (h : WL P ops Q rest (act n (upd f d undef)) w) : WL P ops Q (o :: rest) (act n f) w := by
  refine ⟨wpList_skip hw ?_⟩
  rw [hd, act_put]
  exact h.out
theorem wl_s0 {o : Oper} (hd : o.dst = none) (hw : Region.wanted o (yielded ops (act n f).tmps) = false) (h : WL P ops Q rest (act n f) w) : WL P ops Q (o :: rest) (act n f) w := by
  refine ⟨wpList_skip hw ?_⟩
  rw [hd]
  exact h.out

/-- In a region that draws its order: whatever comes up. The entries M0 are never written. -/
def RG (P : Program) (ops : Array Oper) (Q : Exit → Act → World → Prop) (M0 : List Ent) (fuel : Nat) (listed : Array Bool) (a : Act) (w : World) : Prop :=
  (∀ e ∈ M0, e.ok w) ∧ wpAnyH P .any ops (NoPanic Q) (fun w' => ∀ e ∈ M0, e.ok w') fuel listed a w
variable {fuel : Nat} {listed : Array Bool} {F : List Nat} {w0 : World} {M : List Ent}
theorem rg_start {id : Nat} (h : St F w0 M w) (hm : P.follows .mixedOrders = true) (hR : ∀ w1, St F w0 M w1 → RG P ops Q M0 ops.size (Array.replicate ops.size false) (act n f) w1) : (Code.region id ops true).wp P Q (act n f) w :=
  wp_region_noPanic (wp_region_held hm (hR w.drew h.drew).2)
theorem rg_startk (k : Nat) {id : Nat} (h : St F w0 M w) (hm : P.follows .mixedOrders = true) (hR : ∀ w1, St F w0 M w1 → RG P ops Q (M.drop k) ops.size (Array.replicate ops.size false) (act n f) w1) : (Code.region id ops true).wp P Q (act n f) w := rg_start h hm hR
theorem rg_take (i : Nat) {o : Oper} (hi : ops[i]? = some o) {d : Nat} (hd : o.dst = some d) (hs : Region.noSelect ops = true) (hf : Region.free .any ops listed i = true) (hr : (Region.ready .any ops listed).contains i = true)
    (hw : Region.wanted o (yielded ops (act n f).tmps) = true) (hy : ∀ w', (∀ e ∈ M0, e.ok w') → (execOp (act n f).eval o).run P w' = .ok (.value v) w')
    (h : RG P ops Q M0 fuel (listed.setIfInBounds i true) (act n (upd f d v)) w) : RG P ops Q M0 (fuel + 1) listed (act n f) w :=
  ⟨h.1, wpAnyH_take hi hs hf hr (fun _ _ _ h => h) (.inl ⟨hw, hy⟩) h.1 (by rw [hd, act_put]; exact h.2)⟩
theorem rg_skip (i : Nat) {o : Oper} (hi : ops[i]? = some o) {d : Nat} (hd : o.dst = some d) (hs : Region.noSelect ops = true) (hf : Region.free .any ops listed i = true) (hr : (Region.ready .any ops listed).contains i = true)
    (hw : Region.wanted o (yielded ops (act n f).tmps) = false)
    (h : RG P ops Q M0 fuel (listed.setIfInBounds i true) (act n (upd f d undef)) w) : RG P ops Q M0 (fuel + 1) listed (act n f) w :=
  ⟨h.1, wpAnyH_take hi hs hf hr (fun _ _ _ h => h) (.inr ⟨hw, rfl⟩) h.1 (by rw [hd, act_put]; exact h.2)⟩
theorem wpOp_mk {i : Nat} {o : Oper} {K : Act → World → Prop} (hi : ops[i]? = some o) (hw : Region.wanted o (yielded ops (act n f).tmps) = true) (h : OW P o (act n f) w K Q) : wpOp P ops Q i K (act n f) w := by
  unfold wpOp
  simp only [hi, hw, if_true]
  exact .inl h.out
theorem rg_step (i : Nat) {o : Oper} (hi : ops[i]? = some o) (hr : Region.ready .any ops listed = [i]) (hw : Region.wanted o (yielded ops (act n f).tmps) = true) (hok : ∀ e ∈ M0, e.ok w)
    (h : ∀ K : Act → World → Prop, (∀ a' w', RG P ops Q M0 fuel (listed.setIfInBounds i true) a' w' → K a' w') → OW P o (act n f) w K (NoPanic Q)) : RG P ops Q M0 (fuel + 1) listed (act n f) w := by
  refine ⟨hok, wpAnyH_all hr (by simp) ?_⟩
  intro j hj
  rw [List.mem_singleton] at hj
  subst hj
  exact wpOp_mk hi hw (h _ fun a' w' hh => hh)
theorem rg_step2 (i j : Nat) {o o' : Oper} (hi : ops[i]? = some o) (hj : ops[j]? = some o') (hr : Region.ready .any ops listed = [i, j]) (hw : Region.wanted o (yielded ops (act n f).tmps) = true) (hw' : Region.wanted o' (yielded ops (act n f).tmps) = true) (hok : ∀ e ∈ M0, e.ok w)
    (h : ∀ K : Act → World → Prop, (∀ a' w', RG P ops Q M0 fuel (listed.setIfInBounds i true) a' w' → K a' w') → OW P o (act n f) w K (NoPanic Q))
    (h' : ∀ K : Act → World → Prop, (∀ a' w', RG P ops Q M0 fuel (listed.setIfInBounds j true) a' w' → K a' w') → OW P o' (act n f) w K (NoPanic Q)) : RG P ops Q M0 (fuel + 1) listed (act n f) w := by
  refine ⟨hok, wpAnyH_all hr (by simp) ?_⟩
  intro k hk
  simp only [List.mem_cons, List.not_mem_nil, or_false] at hk
  rcases hk with rfl | rfl
  · exact wpOp_mk hi hw (h _ fun a' w' hh => hh)
  · exact wpOp_mk hj hw' (h' _ fun a' w' hh => hh)
theorem rg_done (hok : ∀ e ∈ M0, e.ok w) (hr : Region.ready .any ops listed = []) (h : Q .normal (act n f) w) : RG P ops Q M0 fuel listed (act n f) w := ⟨hok, wpAnyH_done hr (NoPanic.normal h) fuel⟩

/-! ### calls and endings -/
theorem evs_nil {a : Act} : ([] : List Operand).map a.eval = [] := rfl
theorem evs_cons {a : Act} {x : Operand} {l : List Operand} {v : Value} {vs : List Value} (h : a.eval x = v) (hl : l.map a.eval = vs) : (x :: l).map a.eval = v :: vs := by rw [List.map_cons, h, hl]
theorem ow_call {K : Act → World → Prop} {fid : FuncId} {fn : Func} {c : Code} {xs : List Operand} {ats : Array TypeId} {vs : List Value} {R : Ending → World → Prop} (hf : P.funcs[fid]? = some fn) (hb : fn.body = some c) (hn : (fn.name == "runtime.NumGoroutine") = false)
    (hv : xs.map (act n f).eval = vs) (hc : Calls P fid vs.toArray w R) (h : ∀ e w', R e w' → ∃ v, e = .returned v ∧ K (act n (upd f d v)) w') : OW P ⟨some d, .call { callee := .value (.func fid), args := xs.toArray, argTypes := ats }, ty, pos, aft, gd⟩ (act n f) w K Q := by
  refine ⟨?_⟩
  have he : (execOp (act n f).eval ⟨some d, .call { callee := .value (.func fid), args := xs.toArray, argTypes := ats }, ty, pos, aft, gd⟩).run P w = .ok (.enter fid vs.toArray) w := by
    have e1 : execOp (act n f).eval ⟨some d, .call { callee := .value (.func fid), args := xs.toArray, argTypes := ats }, ty, pos, aft, gd⟩ = callFunc fid (#[] ++ xs.toArray.map (act n f).eval ++ #[]) := rfl
    rw [e1]
    have e2 : #[] ++ xs.toArray.map (act n f).eval ++ #[] = vs.toArray := by rw [List.map_toArray, hv]; simp
    rw [e2]
    unfold callFunc
    have hn' : ¬ fn.name = "runtime.NumGoroutine" := by simpa using hn
    simp [Sem.run_bind, program, Sem.run, hf, hn', hb]
  unfold Oper.wp
  rw [he]
  refine Calls.mono hc fun e w' hR => ?_
  obtain ⟨v, rfl, hk⟩ := h e w' hR
  show K ((act n f).put (some d) v) w'
  rw [act_put]
  exact hk
theorem ow_call0 {K : Act → World → Prop} {fid : FuncId} {fn : Func} {c : Code} {xs : List Operand} {ats : Array TypeId} {vs : List Value} {R : Ending → World → Prop} (hf : P.funcs[fid]? = some fn) (hb : fn.body = some c) (hn : (fn.name == "runtime.NumGoroutine") = false)
    (hv : xs.map (act n f).eval = vs) (hc : Calls P fid vs.toArray w R) (h : ∀ e w', R e w' → ∃ v, e = .returned v ∧ K (act n f) w') : OW P ⟨none, .call { callee := .value (.func fid), args := xs.toArray, argTypes := ats }, ty, pos, aft, gd⟩ (act n f) w K Q := by
  refine ⟨?_⟩
  have he : (execOp (act n f).eval ⟨none, .call { callee := .value (.func fid), args := xs.toArray, argTypes := ats }, ty, pos, aft, gd⟩).run P w = .ok (.enter fid vs.toArray) w := by
    have e1 : execOp (act n f).eval ⟨none, .call { callee := .value (.func fid), args := xs.toArray, argTypes := ats }, ty, pos, aft, gd⟩ = callFunc fid (#[] ++ xs.toArray.map (act n f).eval ++ #[]) := rfl
    rw [e1]
    have e2 : #[] ++ xs.toArray.map (act n f).eval ++ #[] = vs.toArray := by rw [List.map_toArray, hv]; simp
    rw [e2]
    unfold callFunc
    have hn' : ¬ fn.name = "runtime.NumGoroutine" := by simpa using hn
    simp [Sem.run_bind, program, Sem.run, hf, hn', hb]
  unfold Oper.wp
  rw [he]
  refine Calls.mono hc fun e w' hR => ?_
  obtain ⟨v, rfl, hk⟩ := h e w' hR
  exact hk

theorem act_get' {t : Nat} (h : Nat.blt t n = true) : (act n f).tmps[t]?.getD undef = f t := by
  have h' : t < n := by simpa [Nat.blt_eq] using h
  have := act_get n f t h'
  simpa using this
/-- Results. -/
inductive Res (P : Program) (f : Nat → Value) (n : Nat) (w : World) : ResultVar → Value → Prop
  | tmp {t : Nat} {v : Value} (ht : Nat.blt t n = true) (hv : f t = v) : Res P f n w (ResultVar.tmp t) v
  | cell {t : Nat} {ty : TypeId} {v : Value} {b o : Nat} (ht : Nat.blt t n = true) (hp : f t = .pointer (some ⟨b, o, none⟩)) (hl : (loadVar ty ⟨b, o, none⟩).run P w = .ok v w) : Res P f n w (ResultVar.cell t ty) v
theorem res_run {r : ResultVar} {v : Value} (h : Res P f n w r v) : (match r with
    | .tmp t => (pure ((act n f).tmps.getD t undef) : Sem Value)
    | .cell a t => do loadVar t (← asAddr ((act n f).tmps.getD a undef)) : Sem Value).run P w = .ok v w := by
  cases h with
  | tmp ht hv => simp only [Sem.run_pure]; rw [act_get _ _ _ (by simpa [Nat.blt_eq] using ht), hv]
  | cell ht hp hl =>
    simp only [Sem.run_bind]
    rw [act_get _ _ _ (by simpa [Nat.blt_eq] using ht), hp]
    simp only [asAddr, Sem.run_pure, Result.andThen_ok, hl]
theorem ret1 {fn : Func} {R : Ending → World → Prop} {r : ResultVar} {v : Value} (hres : fn.results = #[r]) (h : Res P f n w r v) (hR : R (.returned v) w) : bodyPost P fn R .ret (act n f) w := by
  refine bodyPost_ret (v := v) ?_ rfl hR
  unfold results
  rw [hres]
  cases h <;> simp_all [act_get', asAddr]
theorem ret0 {fn : Func} {R : Ending → World → Prop} (hres : fn.results = #[]) (hR : R (.returned (.tuple #[])) w) : bodyPost P fn R .ret (act n f) w := by
  refine bodyPost_ret (v := .tuple #[]) ?_ rfl hR
  unfold results
  rw [hres]
  simp
theorem ret2 {fn : Func} {R : Ending → World → Prop} {r s : ResultVar} {v u : Value} (hres : fn.results = #[r, s]) (h : Res P f n w r v) (k : Res P f n w s u) (hR : R (.returned (.tuple #[v, u])) w) : bodyPost P fn R .ret (act n f) w := by
  refine bodyPost_ret (v := .tuple #[v, u]) ?_ rfl hR
  unfold results
  rw [hres]
  cases h <;> cases k <;> simp_all [act_get', asAddr]
theorem ret3 {fn : Func} {R : Ending → World → Prop} {r s q : ResultVar} {v u z : Value} (hres : fn.results = #[r, s, q]) (h : Res P f n w r v) (k : Res P f n w s u) (l : Res P f n w q z) (hR : R (.returned (.tuple #[v, u, z])) w) : bodyPost P fn R .ret (act n f) w := by
  refine bodyPost_ret (v := .tuple #[v, u, z]) ?_ rfl hR
  unfold results
  rw [hres]
  cases h <;> cases k <;> cases l <;> simp_all [act_get', asAddr]
theorem end_n {fn : Func} {R : Ending → World → Prop} {a : Act} (h : bodyPost P fn R .ret a w) : bodyPost P fn R .normal a w := h
/-- A result that is a whole row. -/
theorem load_rowB (hok : ∀ x ∈ M, x.ok w) {b o : Nat} {ty t : TypeId} {ds : TypeDesc} {l cs : List Value} (i : Nat) (hM : M[i]? = some (.blk b t l)) (hu : P.underlying ty = some ds) (hd : ds.isRow = true) (hz : (P.info? ty).map (·.size) = some cs.length) (hv : (l.drop o).take cs.length = cs) : (loadVar ty ⟨b, o, none⟩).run P w = .ok (.agg cs.toArray) w :=
  run_loadVar_mid (P := P) w b o ty cs ds (rangeB hok i hM hv) hu hd hz
theorem load_cellB (hok : ∀ x ∈ M, x.ok w) {b o : Nat} {ty t : TypeId} {ds : TypeDesc} {l : List Value} {v : Value} (i : Nat) (hM : M[i]? = some (.blk b t l)) (hu : P.underlying ty = some ds) (hd : ds.isRow = false) (hv : l[o]? = some v) : (loadVar ty ⟨b, o, none⟩).run P w = .ok v w := by
  have hc := cellB hok i hM hv
  simp only [Sem.run_bind, Sem.run_pure, Result.andThen_ok, loadVar, isAgg, run_underlying hu]
  have hr : (load ⟨b, o, none⟩).run P w = .ok v w := by simp [load, Sem.run, hc]
  cases ds <;> simp_all [TypeDesc.isRow]
end
end Go.Proofs.YtocnmcndcdncmaaDoor
