
/- The engine's sixth part: rows of bytes: copies, views of parts, strings. Any program. -/
import Derived.Test.YtocnmcndcdncmaaDoorI
import Derived.Laws.StructEq
namespace Go.Proofs.YtocnmcndcdncmaaDoor
open Go.RowKit

section
variable {F : List Nat} {w0 w w' : World} {M : List Ent} {e : Ent} {i : Nat}
/-- The same memory, written otherwise. -/
theorem St.nm {M' : List Ent} (h : St F w0 M w) (e : M = M') : St F w0 M' w := e ▸ h
/-- From here on nothing writes it. -/
theorem St.freeze (h : St F w0 M w) (i : Nat) (hM : M[i]? = some e) : St F w0 (M.set i e.view) w := by
  have hget : ∀ (j : Nat) (b : Ent), (M.set i e.view)[j]? = some b → ∃ b', M[j]? = some b' ∧ (b = b' ∨ b = b'.view) := by
    intro j b hj
    rw [List.getElem?_set] at hj
    split at hj
    · next hij =>
      subst hij
      split at hj
      · injection hj with hj; exact ⟨e, hM, .inr hj.symm⟩
      · cases hj
    · exact ⟨b, hj, .inl rfl⟩
  refine ⟨h.kp, fun x hx => ?_, fun p q a b hpq ha hb => ?_, fun x hx hro g hg => ?_⟩
  · obtain ⟨j, hj⟩ := List.getElem?_of_mem hx
    obtain ⟨b', hb', rfl | rfl⟩ := hget j x hj
    · exact h.ok _ (mem_of_get hb')
    · exact Ent.view_ok (h.ok _ (mem_of_get hb'))
  · obtain ⟨a', ha', ra⟩ := hget p a ha
    obtain ⟨b', hb', rb⟩ := hget q b hb
    have hblk : ∀ (x y : Ent), (x = y ∨ x = y.view) → ∀ g, x.blk? = some g → y.blk? = some g := by
      rintro x y (rfl | rfl) g hg
      · exact hg
      · exact Ent.view_blk hg
    have hro : ∀ (x y : Ent), (x = y ∨ x = y.view) → y.ro = true → x.ro = true := by
      rintro x y (rfl | rfl) hg
      · exact hg
      · exact Ent.view_ro y
    rcases h.ap p q a' b' hpq ha' hb' with h1 | h1 | h1 | h1
    · simp only [Bool.and_eq_true] at h1
      exact .inl (by rw [hro a a' ra h1.1, hro b b' rb h1.2]; rfl)
    · cases hx : a.blk? with
      | none => exact .inr (.inl hx)
      | some g => rw [hblk a a' ra g hx] at h1; cases h1
    · cases hx : b.blk? with
      | none => exact .inr (.inr (.inl hx))
      | some g => rw [hblk b b' rb g hx] at h1; cases h1
    · cases hx : a.blk? with
      | none => exact .inr (.inl hx)
      | some g =>
        cases hy : b.blk? with
        | none => exact .inr (.inr (.inl hy))
        | some g' =>
          rw [hblk a a' ra g hx, hblk b b' rb g' hy] at h1
          exact .inr (.inr (.inr (by rw [hx, hy]; exact h1)))
  · obtain ⟨j, hj⟩ := List.getElem?_of_mem hx
    obtain ⟨b', hb', rfl | rfl⟩ := hget j x hj
    · exact h.own _ (mem_of_get hb') hro g hg
    · rw [Ent.view_ro] at hro; cases hro
/-- A part of what is only read. -/
theorem St.subv (h : St F w0 M w) (i : Nat) {A A' : Option Addr} {xs xs' : List Value} (hM : M[i]? = some (.vw A xs)) (hv : View w w.heap.size A' xs') (hb : ∀ g, (Ent.vw A' xs').blk? = some g → (Ent.vw A xs).blk? = some g) : St F w0 (.vw A' xs' :: M) w := by
  refine h.addv hv fun e' he' => ?_
  obtain ⟨j, hj⟩ := List.getElem?_of_mem he'
  by_cases hij : j = i
  · subst hij
    rw [hM] at hj; injection hj with hj; subst hj
    exact .inl rfl
  · rcases h.ap i j _ e' (fun x => hij x.symm) hM hj with h1 | h1 | h1 | h1
    · exact .inl h1
    · refine .inr (.inl ?_)
      cases hx : (Ent.vw A' xs').blk? with
      | none => rfl
      | some g => rw [hb g hx] at h1; cases h1
    · exact .inr (.inr (.inl h1))
    · cases hx : (Ent.vw A' xs').blk? with
      | none => exact .inr (.inl hx)
      | some g => exact .inr (.inr (.inr (by rw [hx, ← hb g hx]; exact h1)))
theorem nodupB_of {l : List Nat} (h : l.Nodup) : nodupB l = true := by
  induction l with
  | nil => rfl
  | cons a l ih =>
    rw [List.nodup_cons] at h
    simp only [nodupB, Bool.and_eq_true, Bool.not_eq_true']
    refine ⟨?_, ih h.2⟩
    cases hx : l.elem a with
    | false => rfl
    | true => exact absurd (List.mem_of_elem_eq_true hx) h.1
theorem picks_map (M : List Ent) (l : List Nat) : picks M l = l.map (fun i => M.getD i default) := by
  induction l with
  | nil => rfl
  | cons a l ih => simp only [picks, List.map_cons, ih]
theorem picks_all (M : List Ent) : picks M (List.range M.length) = M := by
  rw [picks_map]
  apply List.ext_getElem
  · simp
  · intro i h1 h2
    simp [h2]
/-- All that a call has made. -/
theorem St.adds {M2 : List Ent} (h : St F w0 M w) (h2 : St [] w M2 w') (hro : M2.all (fun e => !e.ro) = true) : St F w0 (M2 ++ M) w' := by
  have := h.leave [] (List.range M.length) (by simp [List.all_eq_true, Nat.blt_eq]) (nodupB_of List.nodup_range) rfl h2 hro
  rwa [picks_all] at this
/-- An entry turns by a call that wrote it alone. -/
theorem St.turn {e' : Ent} (h : St F w0 M w) (i : Nat) (hM : M[i]? = some e) (hro : e.ro = false) (hpost : St (blks [e]) w [e'] w') (hro' : e'.ro = false) : St F w0 (M.set i e') w' := by
  have hb : blks [e] = e.blk?.toList := by cases hx : e.blk? <;> simp [blks, hx]
  refine h.set_ hM hro (by rw [← hb]; exact hpost.kp) (hpost.ok e' (by simp)) hro' fun g hg => ?_
  rcases hpost.own e' (by simp) hro' g hg with h1 | h1
  · rw [hb] at h1
    exact .inl (by simpa using h1)
  · exact .inr h1
theorem cutA_map {A : Option Addr} {lo m sz : Nat} : (cutA A lo m sz).map (·.block) = A.map (·.block) := by
  unfold cutA
  split
  · rfl
  · cases A with
    | none => rfl
    | some a => simp [Addr.add]; split <;> rfl
theorem vw_blk {A A' : Option Addr} {xs xs' : List Value} (hA : A'.map (·.block) = A.map (·.block)) (hx : xs' ≠ [] → xs ≠ []) (g : Nat) (h : (Ent.vw A' xs').blk? = some g) : (Ent.vw A xs).blk? = some g := by
  cases xs' with
  | nil => cases h
  | cons x l =>
    cases xs with
    | nil => exact absurd rfl (hx (by simp))
    | cons y l' => simp only [Ent.blk?] at h ⊢; rw [← hA]; exact h
theorem View.cutA {w : World} {B : Nat} {A : Option Addr} {xs : List Value} {c : Nat} (h : View w B A xs) (hc : xs.length ≤ c) (lo k : Nat) : View w B (cutA A lo c 1) ((xs.drop lo).take k) := by
  have := (h.cut (k := lo) hc).take k
  unfold Go.Proofs.YtocnmcndcdncmaaDoor.cutA
  rw [Nat.mul_one]
  exact this
theorem drop_take_ne {α : Type} {xs : List α} {lo k : Nat} (h : (xs.drop lo).take k ≠ []) : xs ≠ [] := by
  rintro rfl; simp at h
theorem St.cutb (h : St F w0 M w) (i : Nat) (lo k : Nat) {A : Option Addr} {c : Nat} {l : List Nat} (hM : M[i]? = some (.vw A (l.map u8v))) (hc : l.length ≤ c) : St F w0 (.vw (cutA A lo c 1) (((l.drop lo).take k).map u8v) :: M) w := by
  have hv : View w w.heap.size A (l.map u8v) := h.ok _ (mem_of_get hM)
  have h2 := hv.cutA (c := c) (by simpa using hc) lo k
  rw [← List.map_drop, ← List.map_take] at h2
  refine h.subv i hM h2 fun g hg => vw_blk cutA_map (fun hx => ?_) g hg
  rintro h0
  rw [List.map_eq_nil_iff] at h0
  subst h0
  simp at hx
theorem cutb_drop {l : List Nat} {lo : Nat} : (l.drop lo).take (l.length - lo) = l.drop lo := by
  rw [List.take_of_length_le]; simp
theorem St.dropb (h : St F w0 M w) (i : Nat) (lo : Nat) {A : Option Addr} {c : Nat} {l : List Nat} (hM : M[i]? = some (.vw A (l.map u8v))) (hc : l.length ≤ c) : St F w0 (.vw (cutA A lo c 1) ((l.drop lo).map u8v) :: M) w := by
  have := h.cutb i lo (l.length - lo) hM hc
  rwa [cutb_drop] at this
end

section
variable {F : List Nat} {w0 w w' : World} {M : List Ent} {P : Program} {a : Act} {x y : Operand} {d : Nat} {t t' ty : TypeId} {pos : String} {aft : Array Edge} {gd : Option (Nat × Bool)} {v : Value} {n : Nat} {f : Nat → Value} {K : Act → World → Prop} {Q : Exit → Act → World → Prop}
theorem run_copyE {g o dl dc sl sc : Nat} {t : TypeId} {S D : Option Addr} {cur cs : List Value} {dT sT elem : TypeId} {B : Nat} (hA : Arr w g t cur) (hu : P.underlying dT = some (.slice elem)) (hsz : (P.info? elem).map (·.size) = some 1) (hsrc : View w B S cs) (hn : cs.length = min sl dl)
    (hD : 0 < cs.length → D = some ⟨g, o, none⟩) (hfit : o + cs.length ≤ cur.length) (h1 : ∀ v ∈ cs, v.oneCell' = true) :
    ∃ w', (Builtin.copy_ #[dT, sT] ty #[.slice D dl dc, .slice S sl sc]).run P w = .ok (goInt cs.length) w' ∧ Arr w' g t (splice cur o cs) ∧ Kp [g] w w' := by
  by_cases h0 : cs.length = 0
  · obtain rfl : cs = [] := List.eq_nil_of_length_eq_zero h0
    refine ⟨w, ?_, ?_, Kp.refl _ _⟩
    · exact run_copy_none (P := P) w dT sT ty elem D S dl dc sl sc hu hsz hn.symm
    · have e : splice cur o [] = cur := by simp [splice]
      rw [e]; exact hA
  · obtain rfl := hD (by omega)
    obtain ⟨b, o', rfl, _, hc⟩ := hsrc (by intro e; subst e; simp at h0)
    have hrun := run_copy_row (P := P) w dT sT ty elem g o dl dc ⟨b, o', none⟩ sl sc cur.toArray t cs hu hsz hA hn (fun j v hj => by rw [add_mk]; exact hc j v hj) (by simpa using hfit) h1
    refine ⟨_, hrun, ?_, Kp.setRow w g _⟩
    show _ = _
    simpa [splice] using setRow_heap w g _ _ t _ hA
theorem ow_copyE {dst : Option Tmp} {g o dl dc sl sc : Nat} {t : TypeId} {S D : Option Addr} {cur cs : List Value} {dT sT elem : TypeId} {B : Nat} (hA : Arr w g t cur) (hu : P.underlying dT = some (.slice elem)) (hsz : (P.info? elem).map (·.size) = some 1) (hx : a.eval x = .slice D dl dc) (hy : a.eval y = .slice S sl sc) (hsrc : View w B S cs) (hn : cs.length = min sl dl)
    (hD : 0 < cs.length → D = some ⟨g, o, none⟩) (hfit : o + cs.length ≤ cur.length) (h1 : ∀ v ∈ cs, v.oneCell' = true)
    (hK : ∀ w', Arr w' g t (splice cur o cs) → Kp [g] w w' → K (a.put dst (.int .i64 (cs.length : Int))) w') : OW P ⟨dst, .call { callee := .builtin .copy, args := #[x, y], argTypes := #[dT, sT] }, ty, pos, aft, gd⟩ a w K Q := by
  refine ⟨?_⟩
  obtain ⟨w', hr, hA', hk⟩ := run_copyE (P := P) (ty := ty) (dT := dT) (sT := sT) (dc := dc) (sc := sc) hA hu hsz hsrc hn hD hfit h1
  unfold Oper.wp execOp
  simp only [resolve, invoke, builtin, Sem.run_bind, Sem.run_pure, Result.andThen_ok, List.map_toArray, List.map_cons, List.map_nil, hx, hy, hr, Oper.upon]
  exact hK w' hA' hk
theorem rowArr {g m c : Nat} {t : TypeId} {s : Nat} {xs : List Value} (h : w.ownsRow 0 t s (.slice (some ⟨g, 0, none⟩) m c) m xs) : ∃ cur : List Value, Arr w g t cur ∧ cur.take xs.length = xs ∧ xs.length ≤ cur.length ∧
    ∀ w' (cs : List Value) (o : Nat), o + cs.length ≤ xs.length → Arr w' g t (splice cur o cs) → w'.ownsRow 0 t s (.slice (some ⟨g, 0, none⟩) m c) m (splice xs o cs) := by
  obtain ⟨hl, ⟨h0, _⟩ | ⟨g', cap, cur, e0, hb, hg, hnc, hcm, hcs, htk⟩⟩ := h
  · cases h0
  · injection e0 with e1 e2 e3
    injection e1 with e1
    injection e1 with e1
    subst e1; subst e3
    have hxl : xs.length ≤ cur.size := by rw [← htk]; simp; omega
    refine ⟨cur.toList, hg, by rw [hl]; exact htk, by simpa using hxl, fun w' cs o ho hA => ?_⟩
    have hlen : (splice xs o cs).length = xs.length := length_splice _ _ _ ho
    refine ⟨by rw [hlen]; exact hl, .inr ⟨g, c, (splice cur.toList o cs).toArray, rfl, Nat.zero_le _, hA, hnc, hcm, ?_, ?_⟩⟩
    · simp only [List.size_toArray]
      rw [length_splice _ _ _ (by simpa using (by omega : o + cs.length ≤ cur.size))]
      simpa using hcs
    · have hml : m * s = xs.length := hl.symm
      rw [hml] at htk ⊢
      have hcx : cur.toList = xs ++ cur.toList.drop xs.length := by
        conv => lhs; rw [← List.take_append_drop xs.length cur.toList, htk]
      rw [hcx]
      generalize cur.toList.drop xs.length = tl
      show (splice (xs ++ tl) o cs).take xs.length = splice xs o cs
      have h1 : splice (xs ++ tl) o cs = splice xs o cs ++ tl := by
        unfold splice
        rw [List.take_append_of_le_length (by omega), List.drop_append_of_le_length (by omega)]
        simp only [List.append_assoc]
      rw [h1, List.take_append_of_le_length (by omega), List.take_of_length_le (by omega)]
/-- A copy into a row of the call's own. -/
theorem ow_copyR (h : St F w0 M w) (i : Nat) {g m c s o dl dc sl sc : Nat} {t : TypeId} {S D : Option Addr} {xs cs : List Value} {dT sT elem : TypeId} (hM : M[i]? = some (.row (.slice (some ⟨g, 0, none⟩) m c) t s m xs)) (hu : P.underlying dT = some (.slice elem)) (hsz : (P.info? elem).map (·.size) = some 1) (hx : (act n f).eval x = .slice D dl dc) (hy : (act n f).eval y = .slice S sl sc) (hsrc : View w w.heap.size S cs) (hn : cs.length = min sl dl)
    (hD : 0 < cs.length → D = some ⟨g, 0 + o, none⟩) (hfit : o + cs.length ≤ xs.length) (h1 : ∀ v ∈ cs, v.oneCell' = true)
    (hK : ∀ w', St F w0 (M.set i (.row (.slice (some ⟨g, 0, none⟩) m c) t s m (splice xs o cs))) w' → K (act n (upd f d (.int .i64 (cs.length : Int)))) w') : OW P ⟨some d, .call { callee := .builtin .copy, args := #[x, y], argTypes := #[dT, sT] }, ty, pos, aft, gd⟩ (act n f) w K Q := by
  obtain ⟨cur, hA, htk, hle, hback⟩ := rowArr (h.ok _ (mem_of_get hM))
  refine ow_copyE hA hu hsz hx hy hsrc hn (o := o) (fun h0 => by rw [hD h0, Nat.zero_add]) (by omega) h1 fun w' hA' hk => ?_
  rw [act_put]
  exact hK w' (h.set_ hM rfl hk (hback w' cs o hfit hA') rfl fun g' hg => .inl hg)
theorem ow_copyR0 (h : St F w0 M w) (i : Nat) {g m c s o dl dc sl sc : Nat} {t : TypeId} {S D : Option Addr} {xs cs : List Value} {dT sT elem : TypeId} (hM : M[i]? = some (.row (.slice (some ⟨g, 0, none⟩) m c) t s m xs)) (hu : P.underlying dT = some (.slice elem)) (hsz : (P.info? elem).map (·.size) = some 1) (hx : (act n f).eval x = .slice D dl dc) (hy : (act n f).eval y = .slice S sl sc) (hsrc : View w w.heap.size S cs) (hn : cs.length = min sl dl)
    (hD : 0 < cs.length → D = some ⟨g, 0 + o, none⟩) (hfit : o + cs.length ≤ xs.length) (h1 : ∀ v ∈ cs, v.oneCell' = true)
    (hK : ∀ w', St F w0 (M.set i (.row (.slice (some ⟨g, 0, none⟩) m c) t s m (splice xs o cs))) w' → K (act n f) w') : OW P ⟨none, .call { callee := .builtin .copy, args := #[x, y], argTypes := #[dT, sT] }, ty, pos, aft, gd⟩ (act n f) w K Q := by
  obtain ⟨cur, hA, htk, hle, hback⟩ := rowArr (h.ok _ (mem_of_get hM))
  refine ow_copyE hA hu hsz hx hy hsrc hn (o := o) (fun h0 => by rw [hD h0, Nat.zero_add]) (by omega) h1 fun w' hA' hk => ?_
  exact hK w' (h.set_ hM rfl hk (hback w' cs o hfit hA') rfl fun g' hg => .inl hg)
end

section
variable {P : Program} {a : Act} {w : World} {x y : Operand} {d : Option Tmp} {t t' ty : TypeId} {pos : String} {aft : Array Edge} {g : Option (Nat × Bool)} {v u : Value}
theorem x_bstr {src dst e : TypeId} {A : Option Addr} {n c : Nat} {l : List Nat} (hs : P.underlying src = some (.slice e)) (he : P.underlying e = some (.int .u8)) (hd : P.underlying dst = some .string) (hx : a.eval x = .slice A n c) (hv : View w w.heap.size A (l.map u8v)) (hb : Bytes l) (hn : l.length = n) :
    (execOp a.eval ⟨d, .convert src dst x, ty, pos, aft, g⟩).run P w = .ok (.value (.string (bstr l))) w := by
  have hrun := run_bstr (P := P) (c := c) ⟨hb, hv⟩ hn src e dst hs he hd
  simp [execOp, hx, hrun, Result.andThen]
theorem ba_beq (s r : ByteArray) : (s == r) = (s.toList == r.toList) := beq_toListBytes s r
theorem bstr_beq {l m : List Nat} (hl : Bytes l) (hm : Bytes m) : (bstr l == bstr m) = decide (l = m) := by
  rw [ba_beq, bstr_eql hl hm]; rfl
theorem eqG_ {s r : ByteArray} (hu : P.underlying t = some .string) (d : Nat) (w : World) : (Op.equalIn (d + 1) t (.string s) (.string r)).run P w = .ok (s == r) w := by
  simp only [Op.equalIn, Sem.run_bind, run_underlying hu, Result.andThen_ok, Sem.run_pure]
theorem run_Geql {s r : ByteArray} (w : World) : (binOp .eql t (.string s) (.string r)).run P w = .ok (.bool (s.toList == r.toList)) w := by
  simp [binOp, Op.stringOp]
theorem run_Gneq {s r : ByteArray} (w : World) : (binOp .neq t (.string s) (.string r)).run P w = .ok (.bool (!(s.toList == r.toList))) w := by
  simp [binOp, Op.stringOp]
theorem x_Geql {l m : List Nat} (hx : a.eval x = .string (bstr l)) (hy : a.eval y = .string (bstr m)) (hl : Bytes l) (hm : Bytes m) : (execOp a.eval ⟨d, .binOp .eql t x y t', ty, pos, aft, g⟩).run P w = .ok (.value (.bool (decide (l = m)))) w :=
  x_eqv (.inl rfl) hx hy (fun _ => rfl) fun w => by rw [run_Geql, bstr_eql hl hm]; rfl
theorem x_Gneq {l m : List Nat} (hx : a.eval x = .string (bstr l)) (hy : a.eval y = .string (bstr m)) (hl : Bytes l) (hm : Bytes m) : (execOp a.eval ⟨d, .binOp .neq t x y t', ty, pos, aft, g⟩).run P w = .ok (.value (.bool (!decide (l = m)))) w :=
  x_eqv (.inr rfl) hx hy (fun _ => rfl) fun w => by rw [run_Gneq, bstr_eql hl hm]; rfl
end

section
variable {F : List Nat} {w0 w w' : World} {M : List Ent}
theorem cutA_zero {A : Option Addr} {c sz : Nat} : cutA A 0 c sz = A := by
  unfold cutA
  split
  · rfl
  · cases A with
    | none => rfl
    | some a => simp [Addr.add]
theorem row_cap {w : World} {A : Option Addr} {e : TypeId} {sz m n c : Nat} {xs : List Value} (h : w.ownsRow 0 e sz (.slice A m c) n xs) (h1 : 0 < sz) : m ≤ c := by
  rcases h.2 with ⟨e0, h0⟩ | ⟨g, cap, cur, e0, h2, h3, h4, _⟩
  · injection e0 with _ e1 e2; omega
  · injection e0 with e1 e2 e3; omega
/-- A shorter slice of the same row. -/
theorem St.shrink (h : St F w0 M w) (i k : Nat) {A : Option Addr} {m c s : Nat} {e : TypeId} {xs : List Value} (hM : M[i]? = some (.row (.slice A m c) e s m xs)) (hk : k ≤ m) : St F w0 (M.set i (.row (.slice A k c) e s k (xs.take (k * s)))) w := by
  have hA : w.ownsRow 0 e s (.slice A m c) m xs := h.ok _ (mem_of_get hM)
  refine h.set_ hM rfl ((Kp.refl [] w).mono (by simp)) ?_ rfl fun g hg => .inl (by cases A <;> exact hg)
  have hkm : k * s ≤ m * s := Nat.mul_le_mul_right _ hk
  rcases hA.2 with ⟨e0, h0⟩ | ⟨g, cap, cur, e0, h2, h3, h4, h5, h6, h7⟩
  · injection e0 with e1 e2 e3
    subst e1; subst e2; subst e3
    obtain rfl : k = 0 := by omega
    have := World.ownsRow_nil w 0 e s
    simpa [Ent.ok] using this
  · injection e0 with e1 e2 e3
    subst e1; subst e3
    refine ⟨by rw [List.length_take, hA.1]; omega, .inr ⟨g, c, cur, rfl, h2, h3, by omega, h5, h6, ?_⟩⟩
    rw [← h7, List.take_take]
    congr 1
    omega
end
/-! ### parts of rows, by their distance -/
/-- The address A lies p cells behind A0, where any of the n cells is left. -/
def Off (A0 : Option Addr) (p n : Nat) (A : Option Addr) : Prop := p < n → A = A0.map (·.add p)
theorem off_zero {A0 : Option Addr} {n : Nat} : Off A0 0 n A0 := fun _ => by
  cases A0 with
  | none => rfl
  | some a => simp [Addr.add]
theorem addr_add_add (a : Addr) (p k : Nat) : (a.add p).add k = a.add (p + k) := by
  obtain ⟨b, o, x⟩ := a
  unfold Addr.add
  by_cases h1 : p = 0
  · subst h1; simp
  · by_cases h2 : k = 0
    · subst h2; simp [h1]
    · simp [h1, h2, Nat.add_assoc]
theorem off_cut {A0 A : Option Addr} {p n k c : Nat} (h : Off A0 p n A) (hc : n - p ≤ c) : Off A0 (p + k) n (cutA A k c 1) := fun hlt => by
  rw [h (by omega)]
  unfold cutA
  rw [if_neg (by omega), Nat.mul_one]
  cases A0 with
  | none => rfl
  | some a => simp [addr_add_add]
theorem off_view {w : World} {B : Nat} {A0 A : Option Addr} {p n : Nat} {xs : List Value} (hv : View w B A0 xs) (hl : xs.length = n) (h : Off A0 p n A) (k : Nat) : View w B A ((xs.drop p).take k) := by
  by_cases hp : p < n
  · rw [h hp]
    have := (hv.cut (k := p) (c := p + n + 1) (by omega)).take k
    rw [if_neg (by omega)] at this
    exact this
  · rw [List.drop_eq_nil_of_le (by omega), List.take_nil]
    exact View.nil_
theorem off_blk {A0 A : Option Addr} {p n k : Nat} {xs : List Value} (hl : xs.length = n) (h : Off A0 p n A) (g : Nat) (hg : (Ent.vw A ((xs.drop p).take k)).blk? = some g) : (Ent.vw A0 xs).blk? = some g := by
  by_cases hp : p < n
  · rw [h hp] at hg
    refine vw_blk ?_ (fun hx => ?_) g hg
    · cases A0 with
      | none => rfl
      | some a => simp [Addr.add]; split <;> rfl
    · rintro rfl; simp at hx
  · rw [List.drop_eq_nil_of_le (by omega), List.take_nil] at hg; cases hg
/-- Seen, and newer than w. -/
def NewV (w w' : World) (A : Option Addr) (xs : List Value) : Prop := View w' w'.heap.size A xs ∧ ∀ g, (Ent.vw A xs).blk? = some g → w.heap.size ≤ g
section
variable {F : List Nat} {w0 w w' : World} {M : List Ent}
theorem St.addn (h : St F w0 M w) {A : Option Addr} {xs : List Value} (hk : Kp [] w w') (hn : NewV w w' A xs) : St F w0 (.vw A xs :: M) w' := by
  refine (h.kept hk).addv hn.1 fun e' he' => ?_
  cases hb : (Ent.vw A xs).blk? with
  | none => exact .inr (.inl hb)
  | some g =>
    cases hb' : e'.blk? with
    | none => exact .inr (.inr (.inl hb'))
    | some g' =>
      refine .inr (.inr (.inr ?_))
      rw [hb, hb']
      have h1 := hn.2 g hb
      have h2 := Ent.ok_lt (h.ok e' he') hb'
      intro he; injection he; omega
theorem St.offb (h : St F w0 M w) (i : Nat) {A0 A : Option Addr} {l : List Nat} {n p : Nat} (k : Nat) (hM : M[i]? = some (.vw A0 (l.map u8v))) (hl : l.length = n) (hA : Off A0 p n A) : St F w0 (.vw A (((l.drop p).take k).map u8v) :: M) w := by
  have hl' : (l.map u8v).length = n := by simpa using hl
  have h2 := off_view (h.ok _ (mem_of_get hM) : View w w.heap.size A0 (l.map u8v)) hl' hA k
  have h3 := off_blk (k := k) hl' hA
  rw [← List.map_drop, ← List.map_take] at h2 h3
  exact h.subv i hM h2 h3
theorem NewV.apart {A : Option Addr} {xs : List Value} (hn : NewV w w' A xs) (h : St F w0 M w) : ∀ e' ∈ M, (Ent.vw A xs).apart e' := fun e' he' => by
  cases hb : (Ent.vw A xs).blk? with
  | none => exact .inr (.inl hb)
  | some g =>
    cases hb' : e'.blk? with
    | none => exact .inr (.inr (.inl hb'))
    | some g' =>
      refine .inr (.inr (.inr ?_))
      rw [hb, hb']
      have h1 := hn.2 g hb
      have h2 := Ent.ok_lt (h.ok e' he') hb'
      intro he; injection he; omega
theorem St.addn2 (h : St F w0 M w) {A B : Option Addr} {xs ys : List Value} (hk : Kp [] w w') (hn : NewV w w' A xs) (hm : NewV w w' B ys) : St F w0 (.vw A xs :: .vw B ys :: M) w' := by
  refine (h.addn hk hm).addv hn.1 fun e' he' => ?_
  rcases List.mem_cons.1 he' with rfl | h1
  · exact .inl rfl
  · exact hn.apart h e' h1
theorem St.addn3 (h : St F w0 M w) {A B C : Option Addr} {xs ys zs : List Value} (hk : Kp [] w w') (hn : NewV w w' A xs) (hm : NewV w w' B ys) (hq : NewV w w' C zs) : St F w0 (.vw A xs :: .vw B ys :: .vw C zs :: M) w' := by
  refine (h.addn2 hk hm hq).addv hn.1 fun e' he' => ?_
  rcases List.mem_cons.1 he' with rfl | h1
  · exact .inl rfl
  · rcases List.mem_cons.1 h1 with rfl | h2
    · exact .inl rfl
    · exact hn.apart h e' h2
theorem NewV.nil_ (w w' : World) (A : Option Addr) : NewV w w' A [] := ⟨View.nil_, fun g hg => by cases hg⟩
theorem New.view {A : Option Addr} {e : TypeId} {sz m c : Nat} {xs : List Value} (h : New w w' (.row (.slice A m c) e sz m xs)) : NewV w w' A xs :=
  ⟨rowView h.1, fun g hg => h.2.2 g (Ent.view_blk (e := .row (.slice A m c) e sz m xs) hg)⟩
theorem NewV.off {A0 A : Option Addr} {xs : List Value} {n p : Nat} (h : NewV w w' A0 xs) (hl : xs.length = n) (hA : Off A0 p n A) (k : Nat) : NewV w w' A ((xs.drop p).take k) :=
  ⟨off_view h.1 hl hA k, fun g hg => h.2 g (off_blk hl hA g hg)⟩
theorem NewV.offb {A0 A : Option Addr} {l : List Nat} {n p : Nat} (h : NewV w w' A0 (l.map u8v)) (hl : l.length = n) (hA : Off A0 p n A) (k : Nat) : NewV w w' A (((l.drop p).take k).map u8v) := by
  have := NewV.off h (by simpa using hl) hA k
  rwa [← List.map_drop, ← List.map_take] at this
theorem NewV.back {w1 : World} {A : Option Addr} {xs : List Value} (h : NewV w w' A xs) (hk : Kp [] w1 w) : NewV w1 w' A xs := ⟨h.1, fun g hg => Nat.le_trans hk.size (h.2 g hg)⟩
/-- What the call itself has made is new. -/
theorem St.newv (h : St [] w0 M w) (i : Nat) {A : Option Addr} {e : TypeId} {sz m c : Nat} {xs : List Value} (hM : M[i]? = some (.row (.slice A m c) e sz m xs)) : NewV w0 w A xs := New.view (h.new i hM rfl)
end
section
variable {P : Program} {a : Act} {w : World} {x y : Operand} {d : Option Tmp} {t t' ty : TypeId} {pos : String} {aft : Array Edge} {g : Option (Nat × Bool)} {k k' : IntKind} {n j mx : Nat}
theorem x_sliceHM {s e : TypeId} {sz : Nat} {hi mo : Operand} {A : Option Addr} {c : Nat} (hs : P.underlying s = some (.slice e)) (hz : (P.info? e).map (·.size) = some sz) (hx : a.eval x = .slice A n c) (hh : a.eval hi = .int k (j : Int)) (hm : a.eval mo = .int k' (mx : Int)) (hb : j ≤ mx ∧ mx ≤ c) :
    (execOp a.eval ⟨d, .slice s x none (some hi) (some mo), ty, pos, aft, g⟩).run P w = .ok (.value (.slice A j mx)) w := by
  obtain ⟨ti, hi', hti⟩ : ∃ ti, P.info? e = some ti ∧ ti.size = sz := by
    cases h : P.info? e with
    | none => rw [h] at hz; cases hz
    | some ti => rw [h] at hz; exact ⟨ti, rfl, by simpa using hz⟩
  have h1 : ∀ w cd, (Instr.sliceBound (.int k (j : Int)) mx cd).run P w = .ok j w := fun w cd => run_bound rfl hb.1
  have h2 : ∀ w cd, (Instr.sliceBound (.int k' (mx : Int)) c cd).run P w = .ok mx w := fun w cd => run_bound rfl hb.2
  have e0 : (if mx = 0 then A else A.map (·.add 0)) = A := by
    split
    · rfl
    · cases A <;> simp [Addr.add]
  unfold execOp
  simp [hx, hh, hm, Instr.sliceAt, Instr.slice, Instr.sliceBounds, run_underlying hs, sizeOf, typeInfo, hi', hti, h1, h2, Addr.add]
end
/-! ### structs -/
section
variable {P : Program} {a : Act} {w : World} {x y : Operand} {d : Option Tmp} {t t' ty : TypeId} {pos : String} {aft : Array Edge} {g : Option (Nat × Bool)} {v u : Value}
def EqV (P : Program) (d : Nat) (t : TypeId) (x y : Value) (r : Bool) : Prop := ∀ w, (Op.equalIn d t x y).run P w = .ok r w
def FE (P : Program) (d : Nat) (xs ys : Array Value) (fs : List Field) (r : Bool) : Prop := ∀ w, (Op.eqFields d xs ys fs).run P w = .ok r w
theorem eqv_i {d : Nat} {k : IntKind} {m n : Int} (hu : P.underlying t = some (.int k)) : EqV P (d + 1) t (.int k m) (.int k n) (decide (m = n)) := fun w => by
  rw [run_equalIn_int w d t k k m n hu]
  congr 1
theorem eqv_b {d : Nat} {b c : Bool} (hu : P.underlying t = some .bool) : EqV P (d + 1) t (.bool b) (.bool c) (b == c) := fun w => run_equalIn_bool w d t b c hu
theorem fe_nil {d : Nat} {xs ys : Array Value} : FE P d xs ys [] true := fun w => by simp [Op.eqFields]
theorem fe_cons {d : Nat} {xs ys : Array Value} {f : Field} {fs : List Field} {p q : Value} {r r' : Bool} (hn : (f.name != "_") = true) (hp : ∀ w, (part f.type xs f.offset).run P w = .ok p w) (hq : ∀ w, (part f.type ys f.offset).run P w = .ok q w) (he : EqV P d f.type p q r) (h : FE P d xs ys fs r') : FE P d xs ys (f :: fs) (r && r') := fun w => by
  have hn' : f.name ≠ "_" := by simpa using hn
  simp only [Op.eqFields, Sem.run_bind, Sem.run_ite, hp, hq, he w, Result.andThen_ok]
  rw [if_pos hn']
  cases r
  · simp
  · simpa using h w
theorem pt_1 {l : List Value} {off : Nat} {ds : TypeDesc} (hu : P.underlying t = some ds) (hd : ds.isRow = false) (hv : l[off]? = some v) (w : World) : (part t l.toArray off).run P w = .ok v w := by
  have : l.toArray[off]? = some v := by simpa using hv
  cases ds <;> simp_all [TypeDesc.isRow, part, isAgg, run_underlying hu]
theorem pt_A {l cs : List Value} {off sz : Nat} {ds : TypeDesc} (hu : P.underlying t = some ds) (hd : ds.isRow = true) (hz : (P.info? t).map (·.size) = some sz) (hv : (l.drop off).take sz = cs) (w : World) : (part t l.toArray off).run P w = .ok (.agg cs.toArray) w := by
  obtain ⟨ti, hi, hti⟩ : ∃ ti, P.info? t = some ti ∧ ti.size = sz := by
    cases h : P.info? t with
    | none => rw [h] at hz; cases hz
    | some ti => rw [h] at hz; exact ⟨ti, rfl, by simpa using hz⟩
  have hx : (l.toArray.extract off (off + sz)) = cs.toArray := by
    rw [← hv, List.extract_toArray]
    simp [List.extract]
  cases ds <;> simp_all [TypeDesc.isRow, part, isAgg, run_underlying hu, sizeOf, typeInfo]
theorem eqv_A {d : Nat} {fs : Array Field} {l m : List Value} {r : Bool} (hu : P.underlying t = some (.struct fs)) (hp : P.stoodInHeld t = false) (h : FE P d l.toArray m.toArray fs.toList r) : EqV P (d + 1) t (.agg l.toArray) (.agg m.toArray) r := fun w => by
  have e : P.fieldsOf t = fs := by simp [Program.fieldsOf, hu]
  rw [run_equalIn_struct w d t _ _ (by rw [e]; exact hu) hp, e]
  exact h w
theorem x_Aeql {l m : List Value} {r : Bool} (hm : P.eqGuardType P.depth t = false) (hx : a.eval x = .agg l.toArray) (hy : a.eval y = .agg m.toArray) (he : EqV P 10000 t (.agg l.toArray) (.agg m.toArray) r) : (execOp a.eval ⟨d, .binOp .eql t x y t', ty, pos, aft, g⟩).run P w = .ok (.value (.bool r)) w :=
  x_eqv (.inl rfl) hx hy (fun w => run_eqGuard_agg w _ _ _ _ _ _ hm) fun w => by rw [run_eql_struct, he w]; rfl
theorem x_Aneq {l m : List Value} {r : Bool} (hm : P.eqGuardType P.depth t = false) (hx : a.eval x = .agg l.toArray) (hy : a.eval y = .agg m.toArray) (he : EqV P 10000 t (.agg l.toArray) (.agg m.toArray) r) : (execOp a.eval ⟨d, .binOp .neq t x y t', ty, pos, aft, g⟩).run P w = .ok (.value (.bool (!r))) w :=
  x_eqv (.inr rfl) hx hy (fun w => run_eqGuard_agg w _ _ _ _ _ _ hm) fun w => by rw [run_neq_struct, he w]; rfl
theorem x_fieldA {s : TypeId} {fs : Array Field} {f : Nat} {fd : Field} {ds : TypeDesc} {l cs : List Value} {sz : Nat} (hs : P.underlying s = some (.struct fs)) (hf : fs[f]? = some fd) (hu : P.underlying fd.type = some ds) (hd : ds.isRow = true) (hz : (P.info? fd.type).map (·.size) = some sz) (hx : a.eval x = .agg l.toArray) (hv : (l.drop fd.offset).take sz = cs) :
    (execOp a.eval ⟨d, .field s x f, ty, pos, aft, g⟩).run P w = .ok (.value (.agg cs.toArray)) w := by
  unfold execOp
  simp only [hx, Instr.field, Sem.run_bind, Sem.run_pure, Result.andThen_ok, run_underlying hs, hf, asAgg, pt_A hu hd hz hv]
end
end Go.Proofs.YtocnmcndcdncmaaDoor
