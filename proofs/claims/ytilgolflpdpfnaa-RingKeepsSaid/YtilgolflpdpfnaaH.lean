/- The engine's fourth part: more operations. Any program. -/
import Derived.Test.YtilgolflpdpfnaaG
import Derived.Great.BuildSlice
namespace Go.Proofs.Ytilgolflpdpfnaa
open Go.RowKit

/-! ### lists that are read -/
theorem getm {α : Type} [OfNat α 0] {c : α → Value} {l : List α} {j : Nat} (h : j < l.length) : (l.map c)[j]? = some (c (l.getD j 0)) := by
  rw [List.getElem?_map, List.getD_eq_getElem?_getD, List.getElem?_eq_getElem h]; rfl
section
variable {w : World} {M : List Ent}
end

/-! ### guards -/
theorem wl_gv {P : Program} {ops : Array Oper} {rest : List Oper} {Q : Exit → Act → World → Prop} {n d : Nat} {f : Nat → Value} {w : World} {op : Op} {ty : TypeId} {pos : String} {aft : Array Edge} {gd : Option (Nat × Bool)} {v : Value}
    (hw : Region.wanted ⟨some d, op, ty, pos, aft, gd⟩ (yielded ops (act n f).tmps) = true) (hr : (execOp (act n f).eval ⟨some d, op, ty, pos, aft, gd⟩).run P w = .ok (.value v) w) (h : WL P ops Q rest (act n (upd f d v)) w) : WL P ops Q (⟨some d, op, ty, pos, aft, gd⟩ :: rest) (act n f) w :=
  wl_g hw fun _ hK => ow_v hr (hK _ _ h)
section
variable {P : Program} {ops : Array Oper} {l : List Oper} {Q : Exit → Act → World → Prop} {n d : Nat} {f : Nat → Value} {w : World} {b : Bool} {M0 : List Ent} {fuel : Nat} {listed : Array Bool} {x : Operand}
theorem gs_wl (hv : (act n f).eval x = .bool b) (ht : b = true → WL P ops Q l (act n f) w) (hf : b = false → WL P ops Q l (act n f) w) : WL P ops Q l (act n f) w := by
  cases b
  · exact hf rfl
  · exact ht rfl
theorem gs_wls (hv : (act n f).eval x = .bool b) (hf : b = false → WL P ops Q l (act n f) w) (ht : b = true → WL P ops Q l (act n f) w) : WL P ops Q l (act n f) w := gs_wl hv ht hf
end

section
variable {P : Program} {a : Act} {w : World} {x y : Operand} {d : Option Tmp} {t t' ty : TypeId} {pos : String} {aft : Array Edge} {g : Option (Nat × Bool)} {k k' : IntKind} {z z' r : Int} {m n i j : Nat} {v u : Value}
theorem x_eqv {op : BinOp} {res : Bool} (hop : op = .eql ∨ op = .neq) (hx : a.eval x = v) (hy : a.eval y = u) (hg : ∀ w, (eqGuard op t x y v u).run P w = .ok () w) (hb : ∀ w, (binOp op t v u).run P w = .ok (.bool res) w) : (execOp a.eval ⟨d, .binOp op t x y t', ty, pos, aft, g⟩).run P w = .ok (.value (.bool res)) w := by
  unfold execOp
  simp only [hx, hy, Sem.run_bind, hg, hb, Result.andThen_ok, Sem.run_pure]
/-! 's[lo:hi]' of slices that are not nil -/
/-! composite values -/
/-- The parts of a composite value, from number i on: their values, and all its cells. -/
inductive BC (a : Act) : Nat → List (Nat × Operand) → List (Nat × Value) → List Value → Prop
  | nil {i : Nat} : BC a i [] [] []
  | take {i : Nat} {x : Operand} {v : Value} {ps : List (Nat × Operand)} {vs : List (Nat × Value)} {cs : List Value} (hx : a.eval x = v) (h : BC a (i + 1) ps vs cs) : BC a i ((i, x) :: ps) ((i, v) :: vs) (v :: cs)
  | takeL {i : Nat} {x : Operand} {l : List Value} {ps : List (Nat × Operand)} {vs : List (Nat × Value)} {cs : List Value} (hx : a.eval x = .agg l.toArray) (h : BC a (i + 1) ps vs cs) : BC a i ((i, x) :: ps) ((i, .agg l.toArray) :: vs) (l ++ cs)
  | skip {i : Nat} {ps : List (Nat × Operand)} {vs : List (Nat × Value)} {cs : List Value} (z : Value) (h : BC a (i + 1) ps vs cs) : BC a i ps vs (z :: cs)
  | skipL {i : Nat} {ps : List (Nat × Operand)} {vs : List (Nat × Value)} {cs : List Value} (z : List Value) (h : BC a (i + 1) ps vs cs) : BC a i ps vs (z ++ cs)
theorem bc_nil {a : Act} {i : Nat} : BC a i [] [] [] := .nil
theorem bc_take {a : Act} {i j : Nat} {x : Operand} {v : Value} {ps : List (Nat × Operand)} {vs : List (Nat × Value)} {cs : List Value} (hx : a.eval x = v) (h : BC a j ps vs cs) (hj : j = i + 1 := by rfl) : BC a i ((i, x) :: ps) ((i, v) :: vs) (v :: cs) := by subst hj; exact .take hx h
theorem bc_takeL {a : Act} {i j : Nat} {x : Operand} {l : List Value} {ps : List (Nat × Operand)} {vs : List (Nat × Value)} {cs : List Value} (hx : a.eval x = .agg l.toArray) (h : BC a j ps vs cs) (hj : j = i + 1 := by rfl) : BC a i ((i, x) :: ps) ((i, .agg l.toArray) :: vs) (l ++ cs) := by subst hj; exact .takeL hx h
theorem bc_skip {a : Act} {i j : Nat} {ps : List (Nat × Operand)} {vs : List (Nat × Value)} {cs : List Value} (z : Value) (h : BC a j ps vs cs) (hj : j = i + 1 := by rfl) : BC a i ps vs (z :: cs) := by subst hj; exact .skip z h
theorem BC.vals {a : Act} {i : Nat} {ps : List (Nat × Operand)} {vs : List (Nat × Value)} {cs : List Value} (h : BC a i ps vs cs) : ps.map (fun p => (p.1, a.eval p.2)) = vs := by
  induction h with
  | nil => rfl
  | take hx _ ih => rw [List.map_cons, ih, hx]
  | takeL hx _ ih => rw [List.map_cons, ih, hx]
  | skip _ _ ih => exact ih
  | skipL _ _ ih => exact ih
theorem x_build {parts : List (Nat × Operand)} {vals : List (Nat × Value)} {cells : List Value} (hbc : BC a 0 parts vals cells) (hb : P.built t vals = some cells.toArray) :
    (execOp a.eval ⟨d, .build t parts.toArray, ty, pos, aft, g⟩).run P w = .ok (.value (.agg cells.toArray)) w := by
  have e : (parts.toArray.map fun (i, x) => (i, a.eval x)) = vals.toArray := by
    rw [← hbc.vals, List.map_toArray]
  unfold execOp
  simp only [e, Sem.run_bind, run_build w t vals.toArray cells.toArray (by simpa using hb), Result.andThen_ok, Sem.run_pure]
end

/-! ### more that do something -/
section
variable {F : List Nat} {w0 w w' : World} {M : List Ent} {P : Program} {a : Act} {x y : Operand} {d : Nat} {t t' ty : TypeId} {pos : String} {aft : Array Edge} {gd : Option (Nat × Bool)} {v : Value} {n : Nat} {f : Nat → Value} {K : Act → World → Prop} {Q : Exit → Act → World → Prop}

theorem run_storeA {g o : Nat} {t ty' : TypeId} {l cs : List Value} (hA : Arr w g t l) (hz : (P.info? ty').map (·.size) = some cs.length) (h1 : cs.all (·.oneCell') = true) (ho : o + cs.length ≤ l.length) :
    (Instr.storeAt ty' (.pointer (some ⟨g, o, none⟩)) (.agg cs.toArray)).run P w = .ok () (w.setRow g (splice l o cs).toArray) := by
  obtain ⟨ti, hi, hti⟩ : ∃ ti, P.info? ty' = some ti ∧ ti.size = cs.length := by
    cases h : P.info? ty' with
    | none => rw [h] at hz; cases hz
    | some ti => rw [h] at hz; exact ⟨ti, rfl, by simpa using hz⟩
  have hst := run_storeCells_at P g o t cs 0 l.toArray w hA (by simpa using ho) (fun v hv => List.all_eq_true.1 h1 v hv)
  simp only [Nat.add_zero] at hst
  have e : (l.toArray.toList.take o ++ cs ++ l.toArray.toList.drop (o + cs.length)).toArray = (splice l o cs).toArray := by
    unfold splice; simp
  rw [e] at hst
  simp only [Instr.storeAt, Instr.sureAddr, Sem.run_bind, Sem.run_pure, Result.andThen_ok, storeVar, sizeOf, typeInfo, Value.cells]
  simp [hi, hti, hst]
theorem ow_storeA (h : St F w0 M w) (i : Nat) {g o : Nat} {t : TypeId} {l cs : List Value} {ty' : TypeId} {sz : Nat} (hM : M[i]? = some (.blk g t l)) (hz : (P.info? ty').map (·.size) = some sz) (hx : (act n f).eval x = .pointer (some ⟨g, o, none⟩)) (hy : (act n f).eval y = .agg cs.toArray) (h1 : cs.all (·.oneCell') = true) (hs : cs.length = sz) (ho : Nat.ble (o + sz) l.length = true)
    (hK : ∀ w', St F w0 (M.set i (.blk g t (splice l o cs))) w' → K (act n f) w') : OW P ⟨none, .store ty' x y, ty, pos, aft, gd⟩ (act n f) w K Q := by
  refine ⟨?_⟩
  subst hs
  have ho' : o + cs.length ≤ l.length := by simpa using ho
  have hA : Arr w g t l := h.ok _ (mem_of_get hM)
  have hr := run_storeA (P := P) (w := w) hA hz h1 ho'
  unfold Oper.wp execOp
  simp only [hx, hy, Sem.run_bind, hr, Result.andThen_ok, Sem.run_pure, Oper.upon]
  exact hK _ (h.set_ hM rfl (Kp.setRow w g _) (setRow_heap w g _ _ t _ hA) rfl fun g' hg => .inl hg)
/-! ### operands whose kind is known: the value is read off at once -/
theorem tmI {t : Nat} {k : IntKind} {z : Int} (h : Nat.blt t n = true) (hv : f t = .int k z) : (act n f).eval (.tmp t) = .int k z := (tm h).trans hv
theorem tmB {t : Nat} {b : Bool} (h : Nat.blt t n = true) (hv : f t = .bool b) : (act n f).eval (.tmp t) = .bool b := (tm h).trans hv
theorem tmP {t : Nat} {A : Option Addr} (h : Nat.blt t n = true) (hv : f t = .pointer A) : (act n f).eval (.tmp t) = .pointer A := (tm h).trans hv
theorem tmA {t : Nat} {l : List Value} (h : Nat.blt t n = true) (hv : f t = .agg l.toArray) : (act n f).eval (.tmp t) = .agg l.toArray := (tm h).trans hv
theorem tmT {t : Nat} {l : List Value} (h : Nat.blt t n = true) (hv : f t = .tuple l.toArray) : (act n f).eval (.tmp t) = .tuple l.toArray := (tm h).trans hv
end
section
variable {P : Program} {a : Act} {w : World} {x y : Operand} {d : Option Tmp} {t t' ty : TypeId} {pos : String} {aft : Array Edge} {g : Option (Nat × Bool)} {v : Value}
theorem x_ext {l : List Value} {ix : Nat} (hx : a.eval x = .tuple l.toArray) (hv : l[ix]? = some v) : (execOp a.eval ⟨d, .extract x ix, ty, pos, aft, g⟩).run P w = .ok (.value v) w := x_extract hx (by simpa using hv)
end
section
variable {P : Program} {a : Act} {w : World} {x y c : Operand} {d : Option Tmp} {t t' ty : TypeId} {pos : String} {aft : Array Edge} {g : Option (Nat × Bool)} {v u : Value} {b : Bool}
theorem x_pickT (hc : a.eval c = .bool b) (hb : b = true) (hx : a.eval x = v) : (execOp a.eval ⟨d, .pick c x y, ty, pos, aft, g⟩).run P w = .ok (.value v) w := by
  subst hb; have := x_pick (P := P) (w := w) (d := d) (ty := ty) (pos := pos) (aft := aft) (g := g) hc hx (rfl : a.eval y = a.eval y); simpa using this
theorem x_pickF (hc : a.eval c = .bool b) (hb : b = false) (hy : a.eval y = v) : (execOp a.eval ⟨d, .pick c x y, ty, pos, aft, g⟩).run P w = .ok (.value v) w := by
  subst hb; have := x_pick (P := P) (w := w) (d := d) (ty := ty) (pos := pos) (aft := aft) (g := g) hc (rfl : a.eval x = a.eval x) hy; simpa using this
end

section
variable {F : List Nat} {w0 w w' : World} {M : List Ent} {P : Program} {a : Act} {x y : Operand} {d : Nat} {t t' ty : TypeId} {pos : String} {aft : Array Edge} {gd : Option (Nat × Bool)} {v : Value} {n : Nat} {f : Nat → Value} {K : Act → World → Prop} {Q : Exit → Act → World → Prop}
end
theorem St.new {w0 w : World} {M : List Ent} {e : Ent} (h : St [] w0 M w) (i : Nat) (hM : M[i]? = some e) (hro : e.ro = false) : New w0 w e :=
  ⟨h.ok e (mem_of_get hM), hro, fun g hg => by rcases h.own e (mem_of_get hM) hro g hg with h1 | h1; cases h1; exact h1⟩
/-- Seen from outside: a row is read-only. -/
theorem rowView {w : World} {A : Option Addr} {e : TypeId} {sz m c : Nat} {xs : List Value} (h : w.ownsRow 0 e sz (.slice A m c) m xs) : View w w.heap.size A xs :=
  viewR (M := [.row (.slice A m c) e sz m xs]) (by simpa [Ent.ok] using h) 0 rfl
end Go.Proofs.Ytilgolflpdpfnaa
