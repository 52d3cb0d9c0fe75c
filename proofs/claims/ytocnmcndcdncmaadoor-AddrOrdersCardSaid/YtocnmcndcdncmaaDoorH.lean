
/- The engine's fourth part: more operations. Any program. -/
import Derived.Test.YtocnmcndcdncmaaDoorG
import Derived.Great.BuildSlice
namespace Go.Proofs.YtocnmcndcdncmaaDoor
open Go.RowKit

/-! ### lists that are read -/
theorem getm {α : Type} [OfNat α 0] {c : α → Value} {l : List α} {j : Nat} (h : j < l.length) : (l.map c)[j]? = some (c (l.getD j 0)) := by
  rw [List.getElem?_map, List.getD_eq_getElem?_getD, List.getElem?_eq_getElem h]; rfl
def flat {α : Type} (enc : α → List Value) (l : List α) : List Value := (l.map enc).flatten
theorem flat_length {α : Type} {enc : α → List Value} {l : List α} {sz : Nat} (he : ∀ x, (enc x).length = sz) : (flat enc l).length = l.length * sz := by
  unfold flat
  induction l with
  | nil => simp
  | cons a l ih => rw [List.map_cons, List.flatten_cons, List.length_append, he, ih, List.length_cons, Nat.add_mul]; omega
theorem flat_get {α : Type} [Inhabited α] {enc : α → List Value} {l : List α} {sz j o : Nat} (he : ∀ x, (enc x).length = sz) (ho : o < sz) (hj : j < l.length) : (flat enc l)[j * sz + o]? = (enc (l.getD j default))[o]? := by
  unfold flat
  induction l generalizing j with
  | nil => simp at hj
  | cons a l ih =>
    rw [List.map_cons, List.flatten_cons]
    cases j with
    | zero =>
      rw [Nat.zero_mul, Nat.zero_add, List.getElem?_append_left (by rw [he]; exact ho)]
      rfl
    | succ j =>
      have h1 : (j + 1) * sz + o = sz + (j * sz + o) := by rw [Nat.add_mul, Nat.one_mul]; omega
      rw [List.getElem?_append_right (by rw [he]; omega), he, h1, Nat.add_sub_cancel_left, ih (by simpa using hj)]
      rfl
theorem flat_snoc {α : Type} (enc : α → List Value) (l : List α) (x : α) : flat enc (l ++ [x]) = flat enc l ++ enc x := by
  unfold flat; simp
theorem flat_nil {α : Type} (enc : α → List Value) : flat enc [] = [] := rfl
section
variable {w : World} {M : List Ent}
theorem cellVs (hok : ∀ x ∈ M, x.ok w) {α : Type} [Inhabited α] {b p j sz o : Nat} {enc : α → List Value} {l : List α} {v : Value} (i : Nat) (hM : M[i]? = some (.vw (some ⟨b, p, none⟩) (flat enc l))) (he : ∀ x, (enc x).length = sz) (ho : Nat.blt o sz = true) (hj : j < l.length) (hv : (enc (l.getD j default))[o]? = some v) : w.cell? ⟨b, p + j * sz + o, none⟩ = some v := by
  have ho' : o < sz := by simpa [Nat.blt_eq] using ho
  rw [Nat.add_assoc]
  exact cellV hok i hM (by rw [flat_get he ho' hj]; exact hv)
theorem cellRs (hok : ∀ x ∈ M, x.ok w) {α : Type} [Inhabited α] {g n c s m j sz o : Nat} {t : TypeId} {enc : α → List Value} {l : List α} {v : Value} (i : Nat) (hM : M[i]? = some (.row (.slice (some ⟨g, 0, none⟩) n c) t s m (flat enc l))) (he : ∀ x, (enc x).length = sz) (ho : Nat.blt o sz = true) (hj : j < l.length) (hv : (enc (l.getD j default))[o]? = some v) : w.cell? ⟨g, 0 + j * sz + o, none⟩ = some v := by
  have ho' : o < sz := by simpa [Nat.blt_eq] using ho
  rw [Nat.add_assoc]
  exact cellR hok i hM (by rw [flat_get he ho' hj]; exact hv)
theorem rangeVs (hok : ∀ x ∈ M, x.ok w) {α : Type} [Inhabited α] {b p j sz : Nat} {enc : α → List Value} {l : List α} (i : Nat) (hM : M[i]? = some (.vw (some ⟨b, p, none⟩) (flat enc l))) (he : ∀ x, (enc x).length = sz) (hj : j < l.length) : w.rangeAt b (p + j * sz) (enc (l.getD j default)) := by
  intro o v hv
  have ho : o < sz := by
    rcases Nat.lt_or_ge o sz with h1 | h1
    · exact h1
    · rw [List.getElem?_eq_none (by rw [he]; exact h1)] at hv; cases hv
  exact cellVs hok i hM he (by simpa [Nat.blt_eq] using ho) hj hv
theorem rangeRs (hok : ∀ x ∈ M, x.ok w) {α : Type} [Inhabited α] {g n c s m j sz : Nat} {t : TypeId} {enc : α → List Value} {l : List α} (i : Nat) (hM : M[i]? = some (.row (.slice (some ⟨g, 0, none⟩) n c) t s m (flat enc l))) (he : ∀ x, (enc x).length = sz) (hj : j < l.length) : w.rangeAt g (0 + j * sz) (enc (l.getD j default)) := by
  intro o v hv
  have ho : o < sz := by
    rcases Nat.lt_or_ge o sz with h1 | h1
    · exact h1
    · rw [List.getElem?_eq_none (by rw [he]; exact h1)] at hv; cases hv
  exact cellRs hok i hM he (by simpa [Nat.blt_eq] using ho) hj hv
end

/-! ### guards -/
theorem wl_gv {P : Program} {ops : Array Oper} {rest : List Oper} {Q : Exit → Act → World → Prop} {n d : Nat} {f : Nat → Value} {w : World} {op : Op} {ty : TypeId} {pos : String} {aft : Array Edge} {gd : Option (Nat × Bool)} {v : Value}
    (hw : Region.wanted ⟨some d, op, ty, pos, aft, gd⟩ (yielded ops (act n f).tmps) = true) (hr : (execOp (act n f).eval ⟨some d, op, ty, pos, aft, gd⟩).run P w = .ok (.value v) w) (h : WL P ops Q rest (act n (upd f d v)) w) : WL P ops Q (⟨some d, op, ty, pos, aft, gd⟩ :: rest) (act n f) w :=
  wl_g hw fun _ hK => ow_v hr (hK _ _ h)
section
variable {P : Program} {ops : Array Oper} {l : List Oper} {Q : Exit → Act → World → Prop} {n d : Nat} {f : Nat → Value} {w : World} {b : Bool} {M0 : List Ent} {fuel : Nat} {listed : Array Bool} {x : Operand}
theorem gs_wl (hv : (act n f).eval x = .bool b) (ht : b = true → WL P ops Q l (act n f) w) (hf : b = false → WL P ops Q l (act n f) w) : WL P ops Q l (act n f) w := by
  cases b
  · exact hf rfl
  · exact ht rfl
theorem gs_wls (hv : (act n f).eval x = .bool b) (hf : b = false → WL P ops Q l (act n f) w) (ht : b = true → WL P ops Q l (act n f) w) : WL P ops Q l (act n f) w := gs_wl hv ht hf
theorem gs_rg (hv : (act n f).eval x = .bool b) (ht : b = true → RG P ops Q M0 fuel listed (act n f) w) (hf : b = false → RG P ops Q M0 fuel listed (act n f) w) : RG P ops Q M0 fuel listed (act n f) w := by
  cases b
  · exact hf rfl
  · exact ht rfl
theorem gs_rgs (hv : (act n f).eval x = .bool b) (hf : b = false → RG P ops Q M0 fuel listed (act n f) w) (ht : b = true → RG P ops Q M0 fuel listed (act n f) w) : RG P ops Q M0 fuel listed (act n f) w := gs_rg hv ht hf
end

section
variable {P : Program} {a : Act} {w : World} {x y : Operand} {d : Option Tmp} {t t' ty : TypeId} {pos : String} {aft : Array Edge} {g : Option (Nat × Bool)} {k k' : IntKind} {z z' r : Int} {m n i j : Nat} {v u : Value}
theorem x_eqv {op : BinOp} {res : Bool} (hop : op = .eql ∨ op = .neq) (hx : a.eval x = v) (hy : a.eval y = u) (hg : ∀ w, (eqGuard op t x y v u).run P w = .ok () w) (hb : ∀ w, (binOp op t v u).run P w = .ok (.bool res) w) : (execOp a.eval ⟨d, .binOp op t x y t', ty, pos, aft, g⟩).run P w = .ok (.value (.bool res)) w := by
  unfold execOp
  simp only [hx, hy, Sem.run_bind, hg, hb, Result.andThen_ok, Sem.run_pure]
theorem run_equal_of {res : Bool} (h : ∀ d w, (Op.equalIn (d + 1) t v u).run P w = .ok res w) : (Op.equal t v u).run P w = .ok res w := h 9999 w
theorem run_bin_eql {res : Bool} {p q : Value} (hb : binOp .eql t p q = (do pure (.bool (← Op.equal t p q)) : Sem Value)) (h : ∀ (d : Nat) (w : World), (Op.equalIn (d + 1) t p q).run P w = .ok res w) : (binOp .eql t p q).run P w = .ok (.bool res) w := by
  rw [hb]; simp only [Sem.run_bind, run_equal_of h, Result.andThen_ok, Sem.run_pure]
theorem run_bin_neq {res : Bool} {p q : Value} (hb : binOp .neq t p q = (do pure (.bool (!(← Op.equal t p q))) : Sem Value)) (h : ∀ (d : Nat) (w : World), (Op.equalIn (d + 1) t p q).run P w = .ok res w) : (binOp .neq t p q).run P w = .ok (.bool (!res)) w := by
  rw [hb]; simp only [Sem.run_bind, run_equal_of h, Result.andThen_ok, Sem.run_pure]
theorem eqp_some {e : TypeId} {ad : Addr} (hu : P.underlying t = some (.pointer e)) (d : Nat) (w : World) : (Op.equalIn (d + 1) t (.pointer (some ad)) (.pointer none)).run P w = .ok false w := by
  simp only [Op.equalIn, Sem.run_bind, run_underlying hu, Result.andThen_ok, Sem.run_pure]
theorem eqp_none {e : TypeId} (hu : P.underlying t = some (.pointer e)) (d : Nat) (w : World) : (Op.equalIn (d + 1) t (.pointer none) (.pointer none)).run P w = .ok true w := by
  simp only [Op.equalIn, Sem.run_bind, run_underlying hu, Result.andThen_ok, Sem.run_pure, Option.isNone_none]
theorem eqb_ {b b' : Bool} (hu : P.underlying t = some .bool) (d : Nat) (w : World) : (Op.equalIn (d + 1) t (.bool b) (.bool b')).run P w = .ok (b == b') w := by
  simp only [Op.equalIn, Sem.run_bind, run_underlying hu, Result.andThen_ok, Sem.run_pure]
theorem x_peql {e : TypeId} {ad : Addr} (hu : P.underlying t = some (.pointer e)) (hx : a.eval x = .pointer (some ad)) (hy : a.eval y = .pointer none) : (execOp a.eval ⟨d, .binOp .eql t x y t', ty, pos, aft, g⟩).run P w = .ok (.value (.bool false)) w :=
  x_eqv (.inl rfl) hx hy (fun _ => rfl) fun w => run_bin_eql rfl (eqp_some hu)
theorem x_peqln {e : TypeId} (hu : P.underlying t = some (.pointer e)) (hx : a.eval x = .pointer none) (hy : a.eval y = .pointer none) : (execOp a.eval ⟨d, .binOp .eql t x y t', ty, pos, aft, g⟩).run P w = .ok (.value (.bool true)) w :=
  x_eqv (.inl rfl) hx hy (fun _ => rfl) fun w => run_bin_eql rfl (eqp_none hu)
theorem x_pneq {e : TypeId} {ad : Addr} (hu : P.underlying t = some (.pointer e)) (hx : a.eval x = .pointer (some ad)) (hy : a.eval y = .pointer none) : (execOp a.eval ⟨d, .binOp .neq t x y t', ty, pos, aft, g⟩).run P w = .ok (.value (.bool true)) w :=
  x_eqv (.inr rfl) hx hy (fun _ => rfl) fun w => run_bin_neq rfl (eqp_some hu)
theorem x_pneqn {e : TypeId} (hu : P.underlying t = some (.pointer e)) (hx : a.eval x = .pointer none) (hy : a.eval y = .pointer none) : (execOp a.eval ⟨d, .binOp .neq t x y t', ty, pos, aft, g⟩).run P w = .ok (.value (.bool false)) w :=
  x_eqv (.inr rfl) hx hy (fun _ => rfl) fun w => run_bin_neq rfl (eqp_none hu)
theorem x_beql {b b' : Bool} (hu : P.underlying t = some .bool) (hx : a.eval x = .bool b) (hy : a.eval y = .bool b') : (execOp a.eval ⟨d, .binOp .eql t x y t', ty, pos, aft, g⟩).run P w = .ok (.value (.bool (b == b'))) w :=
  x_eqv (.inl rfl) hx hy (fun _ => rfl) fun w => run_bin_eql rfl (eqb_ hu)
theorem x_bneq {b b' : Bool} (hu : P.underlying t = some .bool) (hx : a.eval x = .bool b) (hy : a.eval y = .bool b') : (execOp a.eval ⟨d, .binOp .neq t x y t', ty, pos, aft, g⟩).run P w = .ok (.value (.bool (!(b == b')))) w :=
  x_eqv (.inr rfl) hx hy (fun _ => rfl) fun w => run_bin_neq rfl (eqb_ hu)
theorem x_maxI {s s' : TypeId} (hx : a.eval x = .int k z) (hy : a.eval y = .int k z') : (execOp a.eval ⟨d, .call { callee := .builtin .max, args := #[x, y], argTypes := #[s, s'] }, ty, pos, aft, g⟩).run P w = .ok (.value (.int k (max z z'))) w := by
  unfold execOp
  simp [resolve, invoke, builtin, Builtin.max_, Builtin.max2, hx, hy, List.foldlM]
  split <;> omega
theorem x_minI {s s' : TypeId} (hx : a.eval x = .int k z) (hy : a.eval y = .int k z') : (execOp a.eval ⟨d, .call { callee := .builtin .min, args := #[x, y], argTypes := #[s, s'] }, ty, pos, aft, g⟩).run P w = .ok (.value (.int k (min z z'))) w := by
  unfold execOp
  simp [resolve, invoke, builtin, Builtin.min_, Builtin.min2, hx, hy, List.foldlM]
  split <;> omega

/-! 's[lo:hi]' of slices that are not nil -/
theorem run_bound {lo : Nat} {c : BoundsCode} (hx : v = .int k (lo : Int)) (h : lo ≤ n) : (Instr.sliceBound v n c).run P w = .ok lo w := by
  subst hx
  simp [Instr.sliceBound, asIntOf, h]
/-- The address of the rest: the model keeps the old one where nothing is left of the capacity. -/
def cutA (A : Option Addr) (lo m sz : Nat) : Option Addr := if m = lo then A else A.map (·.add (lo * sz))
theorem x_sliceLH {s e : TypeId} {sz : Nat} {lo hi : Operand} {A : Option Addr} {c : Nat} (hs : P.underlying s = some (.slice e)) (hz : (P.info? e).map (·.size) = some sz) (hx : a.eval x = .slice A n c) (hl : a.eval lo = .int k (i : Int)) (hh : a.eval hi = .int k' (j : Int)) (hb : i ≤ j ∧ j ≤ c) :
    (execOp a.eval ⟨d, .slice s x (some lo) (some hi) none, ty, pos, aft, g⟩).run P w = .ok (.value (.slice (cutA A i c sz) (j - i) (c - i))) w := by
  obtain ⟨ti, hi', hti⟩ : ∃ ti, P.info? e = some ti ∧ ti.size = sz := by
    cases h : P.info? e with
    | none => rw [h] at hz; cases hz
    | some ti => rw [h] at hz; exact ⟨ti, rfl, by simpa using hz⟩
  have h1 : ∀ w cd, (Instr.sliceBound (.int k' (j : Int)) c cd).run P w = .ok j w := fun w cd => run_bound rfl hb.2
  have h2 : ∀ w cd, (Instr.sliceBound (.int k (i : Int)) j cd).run P w = .ok i w := fun w cd => run_bound rfl hb.1
  unfold execOp cutA
  simp [hx, hl, hh, Instr.sliceAt, Instr.slice, Instr.sliceBounds, run_underlying hs, sizeOf, typeInfo, hi', hti, h1, h2]
theorem x_sliceH {s e : TypeId} {sz : Nat} {hi : Operand} {A : Option Addr} {c : Nat} (hs : P.underlying s = some (.slice e)) (hz : (P.info? e).map (·.size) = some sz) (hx : a.eval x = .slice A n c) (hh : a.eval hi = .int k' (j : Int)) (hb : j ≤ c) :
    (execOp a.eval ⟨d, .slice s x none (some hi) none, ty, pos, aft, g⟩).run P w = .ok (.value (.slice (cutA A 0 c sz) j c)) w := by
  obtain ⟨ti, hi', hti⟩ : ∃ ti, P.info? e = some ti ∧ ti.size = sz := by
    cases h : P.info? e with
    | none => rw [h] at hz; cases hz
    | some ti => rw [h] at hz; exact ⟨ti, rfl, by simpa using hz⟩
  have h1 : ∀ w cd, (Instr.sliceBound (.int k' (j : Int)) c cd).run P w = .ok j w := fun w cd => run_bound rfl hb
  unfold execOp cutA
  simp [hx, hh, Instr.sliceAt, Instr.slice, Instr.sliceBounds, run_underlying hs, sizeOf, typeInfo, hi', hti, h1]
theorem x_sliceL {s e : TypeId} {sz : Nat} {lo : Operand} {A : Option Addr} {c : Nat} (hs : P.underlying s = some (.slice e)) (hz : (P.info? e).map (·.size) = some sz) (hx : a.eval x = .slice A n c) (hl : a.eval lo = .int k (i : Int)) (hb : i ≤ n) :
    (execOp a.eval ⟨d, .slice s x (some lo) none none, ty, pos, aft, g⟩).run P w = .ok (.value (.slice (cutA A i c sz) (n - i) (c - i))) w := by
  obtain ⟨ti, hi', hti⟩ : ∃ ti, P.info? e = some ti ∧ ti.size = sz := by
    cases h : P.info? e with
    | none => rw [h] at hz; cases hz
    | some ti => rw [h] at hz; exact ⟨ti, rfl, by simpa using hz⟩
  have h2 : ∀ w cd, (Instr.sliceBound (.int k (i : Int)) n cd).run P w = .ok i w := fun w cd => run_bound rfl hb
  unfold execOp cutA
  simp [hx, hl, Instr.sliceAt, Instr.slice, Instr.sliceBounds, run_underlying hs, sizeOf, typeInfo, hi', hti, h2]

/-! composite values -/
/-- The parts of a composite value, from number i on: their values, and all its cells. -/
inductive BC (a : Act) : Nat → List (Nat × Operand) → List (Nat × Value) → List Value → Prop
  | nil {i : Nat} : BC a i [] [] []
  | take {i : Nat} {x : Operand} {v : Value} {ps : List (Nat × Operand)} {vs : List (Nat × Value)} {cs : List Value} (hx : a.eval x = v) (h : BC a (i + 1) ps vs cs) : BC a i ((i, x) :: ps) ((i, v) :: vs) (v :: cs)
  | takeL {i : Nat} {x : Operand} {l : List Value} {ps : List (Nat × Operand)} {vs : List (Nat × Value)} {cs : List Value} (hx : a.eval x = .agg l.toArray) (h : BC a (i + 1) ps vs cs) : BC a i ((i, x) :: ps) ((i, .agg l.toArray) :: vs) (l ++ cs)
  | skip {i : Nat} {ps : List (Nat × Operand)} {vs : List (Nat × Value)} {cs : List Value} (z : Value) (h : BC a (i + 1) ps vs cs) : BC a i ps vs (z :: cs)
  | skipL {i : Nat} {ps : List (Nat × Operand)} {vs : List (Nat × Value)} {cs : List Value} (z : List Value) (h : BC a (i + 1) ps vs cs) : BC a i ps vs (z ++ cs)
theorem bc_nil {a : Act} {i : Nat} : BC a i [] [] [] := .nil
theorem bc_take {a : Act} {i j : Nat} {x : Operand} {v : Value} {ps : List (Nat × Operand)} {vs : List (Nat × Value)} {cs : List Value} (hx : a.eval x = v) (h : BC a j ps vs cs) (hj : j = i + 1 := by rfl) : BC a i ((i, x) :: ps) ((i, v) :: vs) (v :: cs) := by subst hj; exact .take hx h
theorem bc_takeL {a : Act} {i j : Nat} {x : Operand} {l : List Value} {ps : List (Nat × Operand)} {vs : List (Nat × Value)} {cs : List Value} (hx : a.eval x = .agg l.toArray) (h : BC a j ps vs cs) (hj : j = i + 1 := by rfl) : BC a i ((i, x) :: ps) ((i, .agg l.toArray) :: vs) (l ++ cs) := by subst hj; exact .takeL hx h
theorem bc_skip {a : Act} {i j : Nat} {ps : List (Nat × Operand)} {vs : List (Nat × Value)} {cs : List Value} (z : Value) (h : BC a j ps vs cs) (hj : j = i + 1 := by rfl) : BC a i ps vs (z :: cs) := by subst hj; exact .skip z h
theorem bc_skipL {a : Act} {i j : Nat} {ps : List (Nat × Operand)} {vs : List (Nat × Value)} {cs : List Value} (z : List Value) (h : BC a j ps vs cs) (hj : j = i + 1 := by rfl) : BC a i ps vs (z ++ cs) := by subst hj; exact .skipL z h
theorem BC.vals {a : Act} {i : Nat} {ps : List (Nat × Operand)} {vs : List (Nat × Value)} {cs : List Value} (h : BC a i ps vs cs) : ps.map (fun p => (p.1, a.eval p.2)) = vs := by
  induction h with
  | nil => rfl
  | take hx _ ih => rw [List.map_cons, ih, hx]
  | takeL hx _ ih => rw [List.map_cons, ih, hx]
  | skip _ _ ih => exact ih
  | skipL _ _ ih => exact ih
theorem x_build {parts : List (Nat × Operand)} {vals : List (Nat × Value)} {cells : List Value} (hbc : BC a 0 parts vals cells) (hb : P.built t vals = some cells.toArray) :
    (execOp a.eval ⟨d, .build t parts.toArray, ty, pos, aft, g⟩).run P w = .ok (.value (.agg cells.toArray)) w := by
  have e : (parts.toArray.map fun (i, x) => (i, a.eval x)) = vals.toArray := by
    rw [← hbc.vals, List.map_toArray]
  unfold execOp
  simp only [e, Sem.run_bind, run_build w t vals.toArray cells.toArray (by simpa using hb), Result.andThen_ok, Sem.run_pure]
end

/-! ### more that do something -/
section
variable {F : List Nat} {w0 w w' : World} {M : List Ent} {P : Program} {a : Act} {x y : Operand} {d : Nat} {t t' ty : TypeId} {pos : String} {aft : Array Edge} {gd : Option (Nat × Bool)} {v : Value} {n : Nat} {f : Nat → Value} {K : Act → World → Prop} {Q : Exit → Act → World → Prop}

theorem ow_append (h : St F w0 M w) (i j : Nat) {A : Option Addr} {m c size bt k c1 g1 : Nat} {e e1 s : TypeId} {z : Value} {xs news : List Value} (hi : M[i]? = some (.row (.slice A m c) e size m xs)) (hj : M[j]? = some (.blk g1 e1 news)) (hu : P.underlying s = some (.slice e)) (hz : (P.info? e).map (fun i => (i.zero, i.size, i.bytes)) = some (some z, size, bt)) (hzs : z.cells.size = size)
    (hx : (act n f).eval x = .slice A m c) (hy : (act n f).eval y = .slice (some ⟨g1, 0, none⟩) k c1) (h1 : news.all (·.oneCell') = true) (hk : 0 < k ∧ 0 < size ∧ news.length = k * size) (h63 : m + k ≤ maxLen) (hby : (m + k) * bt ≤ 140737488355328)
    (hK : ∀ g' c' w', St F w0 (M.set i (.row (.slice (some ⟨g', 0, none⟩) (m + k) c') e size (m + k) (xs ++ news))) w' → K (act n (upd f d (.slice (some ⟨g', 0, none⟩) (m + k) c'))) w') :
    OW P ⟨some d, .call { callee := .builtin .append, args := #[x, y], argTypes := #[s, s] }, ty, pos, aft, gd⟩ (act n f) w K Q := by
  refine ⟨?_⟩
  obtain ⟨ti, hti, h2, h3, h4⟩ := info_of hz
  have hown : w.ownsRow 0 e size (.slice A m c) m xs := h.ok _ (mem_of_get hi)
  have hnew : Arr w g1 e1 news := h.ok _ (mem_of_get hj)
  refine owp_append_at x y s rfl 0 e ti z size bt hu hti h2 h3 h4 hzs hk.2.1 A m c xs hx hown ⟨g1, 0, none⟩ k c1 news hy hk.2.2 (fun q u hq => by rw [add_mk, Nat.zero_add]; exact (hnew.cell q).trans hq) (fun u hu => List.all_eq_true.1 h1 u hu) hk.1 h63 hby (Nat.zero_le _) ?_
  intro g' c' w' hr hg hpl hlt
  rw [act_put]
  have hb? : (Ent.row (.slice A m c) e size m xs).blk? = A.map (·.block) := by cases A <;> rfl
  refine hK g' c' w' (h.set_ hi rfl ?_ hr.out rfl ?_)
  · rw [hb?]; exact Kp.of_grown hg
  · intro q hq
    injection hq with hq
    subst hq
    rcases hpl with h5 | h5
    · left; rw [hb?, h5]; rfl
    · exact .inr h5

theorem run_storeA {g o : Nat} {t ty' : TypeId} {l cs : List Value} (hA : Arr w g t l) (hz : (P.info? ty').map (·.size) = some cs.length) (h1 : cs.all (·.oneCell') = true) (ho : o + cs.length ≤ l.length) :
    (Instr.storeAt ty' (.pointer (some ⟨g, o, none⟩)) (.agg cs.toArray)).run P w = .ok () (w.setRow g (splice l o cs).toArray) := by
  obtain ⟨ti, hi, hti⟩ : ∃ ti, P.info? ty' = some ti ∧ ti.size = cs.length := by
    cases h : P.info? ty' with
    | none => rw [h] at hz; cases hz
    | some ti => rw [h] at hz; exact ⟨ti, rfl, by simpa using hz⟩
  have hst := run_storeCells_at P g o t cs 0 l.toArray w hA (by simpa using ho) (fun v hv => List.all_eq_true.1 h1 v hv)
  simp only [Nat.add_zero] at hst
  have e : (l.toArray.toList.take o ++ cs ++ l.toArray.toList.drop (o + cs.length)).toArray = (splice l o cs).toArray := by
    unfold splice; simp
  rw [e] at hst
  simp only [Instr.storeAt, Instr.sureAddr, Sem.run_bind, Sem.run_pure, Result.andThen_ok, storeVar, sizeOf, typeInfo, Value.cells]
  simp [hi, hti, hst]
theorem ow_storeA (h : St F w0 M w) (i : Nat) {g o : Nat} {t : TypeId} {l cs : List Value} {ty' : TypeId} {sz : Nat} (hM : M[i]? = some (.blk g t l)) (hz : (P.info? ty').map (·.size) = some sz) (hx : (act n f).eval x = .pointer (some ⟨g, o, none⟩)) (hy : (act n f).eval y = .agg cs.toArray) (h1 : cs.all (·.oneCell') = true) (hs : cs.length = sz) (ho : Nat.ble (o + sz) l.length = true)
    (hK : ∀ w', St F w0 (M.set i (.blk g t (splice l o cs))) w' → K (act n f) w') : OW P ⟨none, .store ty' x y, ty, pos, aft, gd⟩ (act n f) w K Q := by
  refine ⟨?_⟩
  subst hs
  have ho' : o + cs.length ≤ l.length := by simpa using ho
  have hA : Arr w g t l := h.ok _ (mem_of_get hM)
  have hr := run_storeA (P := P) (w := w) hA hz h1 ho'
  unfold Oper.wp execOp
  simp only [hx, hy, Sem.run_bind, hr, Result.andThen_ok, Sem.run_pure, Oper.upon]
  exact hK _ (h.set_ hM rfl (Kp.setRow w g _) (setRow_heap w g _ _ t _ hA) rfl fun g' hg => .inl hg)
theorem ow_storeAR (h : St F w0 M w) (i : Nat) {g o m c s : Nat} {t : TypeId} {xs cs : List Value} {ty' : TypeId} {sz : Nat} (hM : M[i]? = some (.row (.slice (some ⟨g, 0, none⟩) m c) t s m xs)) (hz : (P.info? ty').map (·.size) = some sz) (hx : (act n f).eval x = .pointer (some ⟨g, 0 + o, none⟩)) (hy : (act n f).eval y = .agg cs.toArray) (h1 : cs.all (·.oneCell') = true) (hs : cs.length = sz) (ho : o + sz ≤ xs.length)
    (hK : ∀ w', St F w0 (M.set i (.row (.slice (some ⟨g, 0, none⟩) m c) t s m (splice xs o cs))) w' → K (act n f) w') : OW P ⟨none, .store ty' x y, ty, pos, aft, gd⟩ (act n f) w K Q := by
  refine ⟨?_⟩
  subst hs
  rw [Nat.zero_add] at hx
  have hA : w.ownsRow 0 t s (.slice (some ⟨g, 0, none⟩) m c) m xs := h.ok _ (mem_of_get hM)
  obtain ⟨hl, ⟨h0, _⟩ | ⟨g', cap, cur, e0, hb, hg, hnc, hcm, hcs, htk⟩⟩ := hA
  · cases h0
  · injection e0 with e1 e2 e3
    injection e1 with e1
    injection e1 with e1
    subst e1; subst e3
    have hxl : xs.length ≤ cur.size := by rw [← htk]; simp; omega
    have hr := run_storeA (P := P) (w := w) (l := cur.toList) (o := o) (cs := cs) hg hz h1 (by simpa using (by omega : o + cs.length ≤ cur.size))
    unfold Oper.wp execOp
    simp only [hx, hy, Sem.run_bind, hr, Result.andThen_ok, Sem.run_pure, Oper.upon]
    have hlen : (splice xs o cs).length = xs.length := length_splice _ _ _ ho
    refine hK _ (h.set_ hM rfl (Kp.setRow w g _) ?_ rfl fun g' hg => .inl hg)
    refine ⟨by rw [hlen]; exact hl, .inr ⟨g, c, (splice cur.toList o cs).toArray, rfl, Nat.zero_le _, setRow_heap w g _ _ t _ hg, hnc, hcm, ?_, ?_⟩⟩
    · simp only [List.size_toArray]
      rw [length_splice _ _ _ (by simpa using (by omega : o + cs.length ≤ cur.size))]
      simpa using hcs
    · have hml : m * s = xs.length := hl.symm
      rw [hml] at htk ⊢
      have hcx : cur.toList = xs ++ cur.toList.drop xs.length := by
        conv => lhs; rw [← List.take_append_drop xs.length cur.toList, htk]
      rw [hcx]
      generalize cur.toList.drop xs.length = tl
      show (splice (xs ++ tl) o cs).take xs.length = splice xs o cs
      have h1 : splice (xs ++ tl) o cs = splice xs o cs ++ tl := by
        unfold splice
        rw [List.take_append_of_le_length (by omega), List.drop_append_of_le_length (by omega)]
        simp only [List.append_assoc]
      rw [h1, List.take_append_of_le_length (by omega), List.take_of_length_le (by omega)]
/-- A nil slice, or one that nobody has made yet. -/
theorem St.nilrow (h : St F w0 M w) (e : TypeId) (size : Nat) : St F w0 (.row (.slice none 0 0) e size 0 [] :: M) w :=
  h.cons (World.ownsRow_nil w 0 e size) rfl (fun g hg => by cases hg) fun _ _ => .inr (.inl rfl)
theorem ow_make (h : St F w0 M w) {s e : TypeId} {z : Value} {size bt m : Nat} {k k' : IntKind} (hu : P.underlying s = some (.slice e)) (hz : (P.info? e).map (fun i => (i.zero, i.size, i.bytes)) = some (some z, size, bt)) (hzc : z.cells = #[z]) (hx : (act n f).eval x = .int k (m : Int)) (hy : (act n f).eval y = .int k' (m : Int)) (hs : size = 1) (hb : bt * m ≤ 281474976710656) (h63 : m ≤ maxLen)
    (hK : ∀ g' w', w.heap.size ≤ g' → St F w0 (.row (.slice (some ⟨g', 0, none⟩) m m) e 1 m (List.replicate m z) :: M) w' → K (act n (upd f d (.slice (some ⟨g', 0, none⟩) m m))) w') : OW P ⟨some d, .makeSlice s x y, ty, pos, aft, gd⟩ (act n f) w K Q := by
  refine ⟨?_⟩
  subst hs
  obtain ⟨ti, hti, h2, h3, h4⟩ := info_of hz
  subst h4
  obtain ⟨w', hr, hown, hgr⟩ := run_make_full (P := P) w 0 s e ti z 1 hu hti h2 h3 k k' m hb h63 (Nat.zero_le _)
  unfold Oper.wp execOp
  simp only [hx, hy, Sem.run_bind, hr, Result.andThen_ok, Sem.run_pure, Oper.upon]
  rw [act_put]
  rw [Nat.mul_one, hzc, toList_madeCells_one] at hown
  exact hK _ _ (Nat.le_refl _) (h.add (Kp.of_grown hgr) ⟨hown, rfl, fun q hq => Nat.le_of_eq (Option.some.inj hq)⟩)
theorem ow_build (h : St F w0 M w) {s e : TypeId} {z : Value} {size bt len : Nat} {l : List Value} {parts : List (Nat × Operand)} {vals : List (Nat × Value)} (hu : P.underlying s = some (.slice e)) (hz : (P.info? e).map (fun i => (i.zero, i.size, i.bytes)) = some (some z, size, bt)) (hbc : BC (act n f) 0 parts vals l)
    (hs : Nat.ble (len * size) 16777216 = true) (h0 : Nat.beq (len * size) 0 = false) (hf : Instr.fill (fun i => some (i * size, size)) ((Array.range (len * size)).map (z.cells[· % z.cells.size]!)) vals = some l.toArray)
    (hK : ∀ g' w', w.heap.size ≤ g' → St F w0 (.blk g' e l :: M) w' → K (act n (upd f d (.slice (some ⟨g', 0, none⟩) len len))) w') : OW P ⟨some d, .buildSlice s len parts.toArray, ty, pos, aft, gd⟩ (act n f) w K Q := by
  refine ⟨?_⟩
  obtain ⟨ti, hti, h2, h3, h4⟩ := info_of hz
  subst h3
  have e1 : (parts.toArray.map fun (i, x) => (i, (act n f).eval x)) = vals.toArray := by
    rw [← hbc.vals, List.map_toArray]
  have hs' : len * ti.size ≤ 16777216 := by simpa using hs
  have h0' : ¬ len * ti.size = 0 := fun h => by rw [h] at h0; simp at h0
  have hr := run_buildSlice (P := P) w s e len vals.toArray l.toArray ti z hu hti h2 (by omega) h0' (by simpa using hf)
  unfold Oper.wp execOp
  simp only [e1, Sem.run_bind, hr, Result.andThen_ok, Sem.run_pure, Oper.upon]
  rw [act_put]
  exact hK _ _ (Nat.le_refl _) (h.add (Kp.alloc w (.cells l.toArray e)) ⟨Arr.new w e l, rfl, fun q hq => Nat.le_of_eq (Option.some.inj hq)⟩)
/-! ### operands whose kind is known: the value is read off at once -/
theorem tmI {t : Nat} {k : IntKind} {z : Int} (h : Nat.blt t n = true) (hv : f t = .int k z) : (act n f).eval (.tmp t) = .int k z := (tm h).trans hv
theorem tmB {t : Nat} {b : Bool} (h : Nat.blt t n = true) (hv : f t = .bool b) : (act n f).eval (.tmp t) = .bool b := (tm h).trans hv
theorem tmS {t : Nat} {A : Option Addr} {m c : Nat} (h : Nat.blt t n = true) (hv : f t = .slice A m c) : (act n f).eval (.tmp t) = .slice A m c := (tm h).trans hv
theorem tmP {t : Nat} {A : Option Addr} (h : Nat.blt t n = true) (hv : f t = .pointer A) : (act n f).eval (.tmp t) = .pointer A := (tm h).trans hv
theorem tmM {t : Nat} {A : Option Nat} (h : Nat.blt t n = true) (hv : f t = .map A) : (act n f).eval (.tmp t) = .map A := (tm h).trans hv
theorem tmG {t : Nat} {s : ByteArray} (h : Nat.blt t n = true) (hv : f t = .string s) : (act n f).eval (.tmp t) = .string s := (tm h).trans hv
theorem tmA {t : Nat} {l : List Value} (h : Nat.blt t n = true) (hv : f t = .agg l.toArray) : (act n f).eval (.tmp t) = .agg l.toArray := (tm h).trans hv
theorem tmT {t : Nat} {l : List Value} (h : Nat.blt t n = true) (hv : f t = .tuple l.toArray) : (act n f).eval (.tmp t) = .tuple l.toArray := (tm h).trans hv
end
section
variable {P : Program} {a : Act} {w : World} {x y : Operand} {d : Option Tmp} {t t' ty : TypeId} {pos : String} {aft : Array Edge} {g : Option (Nat × Bool)} {v : Value}
theorem x_ext {l : List Value} {ix : Nat} (hx : a.eval x = .tuple l.toArray) (hv : l[ix]? = some v) : (execOp a.eval ⟨d, .extract x ix, ty, pos, aft, g⟩).run P w = .ok (.value v) w := x_extract hx (by simpa using hv)
theorem x_fld {s : TypeId} {fs : Array Field} {f : Nat} {fd : Field} {ds : TypeDesc} {l : List Value} (hs : P.underlying s = some (.struct fs)) (hf : fs[f]? = some fd) (hu : P.underlying fd.type = some ds) (hd : ds.isRow = false) (hx : a.eval x = .agg l.toArray) (hv : l[fd.offset]? = some v) :
    (execOp a.eval ⟨d, .field s x f, ty, pos, aft, g⟩).run P w = .ok (.value v) w := x_field hs hf hu hd hx (by simpa using hv)
end
section
variable {P : Program} {a : Act} {w : World} {x y c : Operand} {d : Option Tmp} {t t' ty : TypeId} {pos : String} {aft : Array Edge} {g : Option (Nat × Bool)} {v u : Value} {b : Bool}
theorem x_pickT (hc : a.eval c = .bool b) (hb : b = true) (hx : a.eval x = v) : (execOp a.eval ⟨d, .pick c x y, ty, pos, aft, g⟩).run P w = .ok (.value v) w := by
  subst hb; have := x_pick (P := P) (w := w) (d := d) (ty := ty) (pos := pos) (aft := aft) (g := g) hc hx (rfl : a.eval y = a.eval y); simpa using this
theorem x_pickF (hc : a.eval c = .bool b) (hb : b = false) (hy : a.eval y = v) : (execOp a.eval ⟨d, .pick c x y, ty, pos, aft, g⟩).run P w = .ok (.value v) w := by
  subst hb; have := x_pick (P := P) (w := w) (d := d) (ty := ty) (pos := pos) (aft := aft) (g := g) hc (rfl : a.eval x = a.eval x) hy; simpa using this
theorem eqs_some {e : TypeId} {ad : Addr} {m k : Nat} (hu : P.underlying t = some (.slice e)) (d : Nat) (w : World) : (Op.equalIn (d + 1) t (.slice (some ad) m k) (.slice none 0 0)).run P w = .ok false w := by
  simp only [Op.equalIn, Sem.run_bind, run_underlying hu, Result.andThen_ok, Sem.run_pure]
theorem eqs_none {e : TypeId} {m k : Nat} (hu : P.underlying t = some (.slice e)) (d : Nat) (w : World) : (Op.equalIn (d + 1) t (.slice none m k) (.slice none 0 0)).run P w = .ok true w := by
  simp only [Op.equalIn, Sem.run_bind, run_underlying hu, Result.andThen_ok, Sem.run_pure, Option.isNone_none]
theorem x_seql {e : TypeId} {ad : Addr} {m k : Nat} (hu : P.underlying t = some (.slice e)) (hx : a.eval x = .slice (some ad) m k) (hy : a.eval y = .slice none 0 0) : (execOp a.eval ⟨d, .binOp .eql t x y t', ty, pos, aft, g⟩).run P w = .ok (.value (.bool false)) w :=
  x_eqv (.inl rfl) hx hy (fun _ => rfl) fun w => run_bin_eql rfl (eqs_some hu)
theorem x_seqln {e : TypeId} {m k : Nat} (hu : P.underlying t = some (.slice e)) (hx : a.eval x = .slice none m k) (hy : a.eval y = .slice none 0 0) : (execOp a.eval ⟨d, .binOp .eql t x y t', ty, pos, aft, g⟩).run P w = .ok (.value (.bool true)) w :=
  x_eqv (.inl rfl) hx hy (fun _ => rfl) fun w => run_bin_eql rfl (eqs_none hu)
theorem x_sneq {e : TypeId} {ad : Addr} {m k : Nat} (hu : P.underlying t = some (.slice e)) (hx : a.eval x = .slice (some ad) m k) (hy : a.eval y = .slice none 0 0) : (execOp a.eval ⟨d, .binOp .neq t x y t', ty, pos, aft, g⟩).run P w = .ok (.value (.bool true)) w :=
  x_eqv (.inr rfl) hx hy (fun _ => rfl) fun w => run_bin_neq rfl (eqs_some hu)
theorem x_sneqn {e : TypeId} {m k : Nat} (hu : P.underlying t = some (.slice e)) (hx : a.eval x = .slice none m k) (hy : a.eval y = .slice none 0 0) : (execOp a.eval ⟨d, .binOp .neq t x y t', ty, pos, aft, g⟩).run P w = .ok (.value (.bool false)) w :=
  x_eqv (.inr rfl) hx hy (fun _ => rfl) fun w => run_bin_neq rfl (eqs_none hu)
end

/-- A piece of code, and what holds behind it; the rest is walked once. -/
theorem cutc {P : Program} {c : Code} {Q : Exit → Act → World → Prop} {n : Nat} {f : Nat → Value} {w : World} (W : List Nat) (J : (Nat → Value) → World → Prop)
    (h1 : c.wp P (Exit.then (fun a' w' => ∃ f', a' = act n f' ∧ Agree W f' f ∧ J f' w') Q) (act n f) w) (h2 : ∀ g w', J (mix W g f) w' → Q .normal (act n (mix W g f)) w') : c.wp P Q (act n f) w := by
  refine wp_mono h1 ?_
  intro e a' w' hq
  cases e with
  | normal =>
    obtain ⟨f', rfl, hag, hJ⟩ := hq
    rw [agree_eq hag] at hJ ⊢
    exact h2 f' w' hJ
  | _ => exact hq
theorem fr_knowQ {Q : Exit → Act → World → Prop} {n : Nat} {f : Nat → Value} {w : World} {d : Nat} {v : Value} (h : f d = v) (k : Q .normal (act n (upd f d v)) w) : Q .normal (act n f) w := by
  rw [upd_self f d v h] at k; exact k

section
variable {F : List Nat} {w0 w w' : World} {M : List Ent} {P : Program} {a : Act} {x y : Operand} {d : Nat} {t t' ty : TypeId} {pos : String} {aft : Array Edge} {gd : Option (Nat × Bool)} {v : Value} {n : Nat} {f : Nat → Value} {K : Act → World → Prop} {Q : Exit → Act → World → Prop}
theorem ow_build0 (h : St F w0 M w) {s e : TypeId} {z : Value} {size bt len : Nat} {ps : Array (Nat × Operand)} (hu : P.underlying s = some (.slice e)) (hz : (P.info? e).map (fun i => (i.zero, i.size, i.bytes)) = some (some z, size, bt)) (hlen : len = 0) (hps : ps = #[])
    (hK : ∀ g' w', w.heap.size ≤ g' → St F w0 (.row (.slice (some ⟨g', 0, none⟩) 0 0) e size 0 [] :: M) w' → K (act n (upd f d (.slice (some ⟨g', 0, none⟩) 0 0))) w') : OW P ⟨some d, .buildSlice s len ps, ty, pos, aft, gd⟩ (act n f) w K Q := by
  refine ⟨?_⟩
  subst hlen; subst hps
  obtain ⟨ti, hti, h2, h3, h4⟩ := info_of hz
  subst h3
  unfold Oper.wp execOp
  simp [Instr.buildSlice, run_underlying hu, sizeOf, typeInfo, hti, Instr.fill, newRow, Oper.upon, act_put]
  have e0 : Array.map (fun _ => default) (Array.range 0) = (#[] : Array Value) := by apply Array.ext <;> simp
  rw [e0]
  refine hK w.heap.size _ (Nat.le_refl _) (h.add (Kp.alloc w (.cells #[] e)) ⟨?_, rfl, fun q hq => Nat.le_of_eq (Option.some.inj hq)⟩)
  exact ⟨by simp, .inr ⟨w.heap.size, 0, #[], rfl, Nat.zero_le _, by rw [heap_alloc_new], Nat.le_refl _, by simp [maxLen], by simp, by simp⟩⟩
/-- Any slice, an empty one too, behind a row of the call's own. -/
theorem ow_appendV (h : St F w0 M w) (i : Nat) {A A1 : Option Addr} {m c size bt k c1 : Nat} {e s : TypeId} {z : Value} {xs news : List Value} (hi : M[i]? = some (.row (.slice A m c) e size m xs)) (hv : View w w.heap.size A1 news) (hu : P.underlying s = some (.slice e)) (hz : (P.info? e).map (fun i => (i.zero, i.size, i.bytes)) = some (some z, size, bt)) (hzs : z.cells.size = size)
    (hx : (act n f).eval x = .slice A m c) (hy : (act n f).eval y = .slice A1 k c1) (h1 : ∀ u ∈ news, u.oneCell' = true) (hk : 0 < size ∧ news.length = k * size) (h63 : m + k ≤ maxLen) (hby : (m + k) * bt ≤ 140737488355328)
    (hK : ∀ A' c' w', (A = none → k = 0 → A' = none) → ((A = none → c = 0) → A' = none → c' = 0) → St F w0 (M.set i (.row (.slice A' (m + k) c') e size (m + k) (xs ++ news))) w' → K (act n (upd f d (.slice A' (m + k) c'))) w') :
    OW P ⟨some d, .call { callee := .builtin .append, args := #[x, y], argTypes := #[s, s] }, ty, pos, aft, gd⟩ (act n f) w K Q := by
  refine ⟨?_⟩
  obtain ⟨ti, hti, h2, h3, h4⟩ := info_of hz
  have hown : w.ownsRow 0 e size (.slice A m c) m xs := h.ok _ (mem_of_get hi)
  have hset : M.set i (.row (.slice A m c) e size m xs) = M := by
    apply List.ext_getElem?
    intro j
    rw [List.getElem?_set]
    split
    · next hj => subst hj; rw [hi]; split <;> simp_all
    · rfl
  by_cases hk0 : k = 0
  · subst hk0
    have hn : news = [] := List.eq_nil_of_length_eq_zero (by simpa using hk.2)
    subst hn
    have hc : m ≤ c := by
      rcases hown.2 with ⟨e0, h0⟩ | ⟨g, cap, cur, e0, _, _, h0, _⟩
      · omega
      · injection e0 with _ _ e3; omega
    have hr : (Builtin.append_ #[s, s] ty #[.slice A m c, .slice A1 0 c1]).run P w = .ok (.slice A m c) w := by
      subst h3
      have hf : (Builtin.firstCells ti.size 0 (.slice A1 0 c1)).run P w = .ok #[] w := by
        cases A1 <;> simp [Builtin.firstCells, loadCells, loadCellsFrom]
      simp [Builtin.append_, run_underlying hu, sizeOf, typeInfo, hti, Builtin.lenOf, hc, hf]
      cases A <;> simp [storeCells]
    unfold Oper.wp execOp
    simp only [resolve, invoke, builtin, Sem.run_bind, Sem.run_pure, Result.andThen_ok, List.map_toArray, List.map_cons, List.map_nil, hx, hy, hr, Oper.upon]
    rw [act_put]
    refine hK A c w (fun h _ => h) (fun h => h) ?_
    rw [List.append_nil, Nat.add_zero, hset]
    exact h
  · obtain ⟨b, o, rfl, hlt, hcell⟩ := hv (by intro e0; rw [e0] at hk; have := Nat.mul_pos (Nat.pos_of_ne_zero hk0) hk.1; simp at hk; omega)
    refine owp_append_at x y s rfl 0 e ti z size bt hu hti h2 h3 h4 hzs hk.1 A m c xs hx hown ⟨b, o, none⟩ k c1 news hy hk.2 (fun q u hq => by rw [add_mk]; exact hcell q u hq) h1 (by omega) h63 hby (Nat.zero_le _) ?_
    intro g' c' w' hr hg hpl hlt
    rw [act_put]
    have hb? : (Ent.row (.slice A m c) e size m xs).blk? = A.map (·.block) := by cases A <;> rfl
    refine hK (some ⟨g', 0, none⟩) c' w' (fun _ h0 => absurd h0 hk0) (fun _ h => by cases h) (h.set_ hi rfl ?_ hr.out rfl ?_)
    · rw [hb?]; exact Kp.of_grown hg
    · intro q hq
      injection hq with hq
      subst hq
      rcases hpl with h5 | h5
      · left; rw [hb?, h5]; rfl
      · exact .inr h5
theorem rg_step3 {ops : Array Oper} {M0 : List Ent} {fuel : Nat} {listed : Array Bool} (i j k : Nat) {o o' o'' : Oper} (hi : ops[i]? = some o) (hj : ops[j]? = some o') (hk : ops[k]? = some o'') (hr : Region.ready .any ops listed = [i, j, k]) (hw : Region.wanted o (yielded ops (act n f).tmps) = true) (hw' : Region.wanted o' (yielded ops (act n f).tmps) = true) (hw'' : Region.wanted o'' (yielded ops (act n f).tmps) = true) (hok : ∀ e ∈ M0, e.ok w)
    (h : ∀ K : Act → World → Prop, (∀ a' w', RG P ops Q M0 fuel (listed.setIfInBounds i true) a' w' → K a' w') → OW P o (act n f) w K (NoPanic Q))
    (h' : ∀ K : Act → World → Prop, (∀ a' w', RG P ops Q M0 fuel (listed.setIfInBounds j true) a' w' → K a' w') → OW P o' (act n f) w K (NoPanic Q))
    (h'' : ∀ K : Act → World → Prop, (∀ a' w', RG P ops Q M0 fuel (listed.setIfInBounds k true) a' w' → K a' w') → OW P o'' (act n f) w K (NoPanic Q)) : RG P ops Q M0 (fuel + 1) listed (act n f) w := by
  refine ⟨hok, wpAnyH_all hr (by simp) ?_⟩
  intro q hq
  simp only [List.mem_cons, List.not_mem_nil, or_false] at hq
  rcases hq with rfl | rfl | rfl
  · exact wpOp_mk hi hw (h _ fun a' w' hh => hh)
  · exact wpOp_mk hj hw' (h' _ fun a' w' hh => hh)
  · exact wpOp_mk hk hw'' (h'' _ fun a' w' hh => hh)
end
theorem St.rowOk {F : List Nat} {w0 w : World} {M : List Ent} (h : St F w0 M w) (i : Nat) {v : Value} {e : TypeId} {sz n : Nat} {xs : List Value} (hM : M[i]? = some (.row v e sz n xs)) : w.ownsRow 0 e sz v n xs := h.ok _ (mem_of_get hM)
theorem St.new {w0 w : World} {M : List Ent} {e : Ent} (h : St [] w0 M w) (i : Nat) (hM : M[i]? = some e) (hro : e.ro = false) : New w0 w e :=
  ⟨h.ok e (mem_of_get hM), hro, fun g hg => by rcases h.own e (mem_of_get hM) hro g hg with h1 | h1; cases h1; exact h1⟩
theorem view_some {w : World} {A : Option Addr} {xs : List Value} (h : View w w.heap.size A xs) (hn : 0 < xs.length) : ∃ b o, A = some ⟨b, o, none⟩ := by
  obtain ⟨b, o, e, _⟩ := h (by intro e; rw [e] at hn; simp at hn)
  exact ⟨b, o, e⟩
theorem row_some {w : World} {A : Option Addr} {e : TypeId} {sz m c : Nat} {xs : List Value} (h : w.ownsRow 0 e sz (.slice A m c) m xs) (hn : 0 < m) : ∃ g, A = some ⟨g, 0, none⟩ := by
  rcases h.2 with ⟨_, h0⟩ | ⟨g, cap, cur, e0, _⟩
  · omega
  · injection e0 with e1; exact ⟨g, e1⟩
theorem row_len {w : World} {A : Option Addr} {e : TypeId} {sz m c : Nat} {xs : List Value} (h : w.ownsRow 0 e sz (.slice A m c) m xs) : xs.length = m * sz := h.1
/-- Seen from outside: a row is read-only. -/
theorem rowView {w : World} {A : Option Addr} {e : TypeId} {sz m c : Nat} {xs : List Value} (h : w.ownsRow 0 e sz (.slice A m c) m xs) : View w w.heap.size A xs :=
  viewR (M := [.row (.slice A m c) e sz m xs]) (by simpa [Ent.ok] using h) 0 rfl
end Go.Proofs.YtocnmcndcdncmaaDoor
