
/- Keys (16 bytes) as values in memory: loads, stores, results, comparison; siphash.Of and the reference's. Conditions: none. -/
import Derived.Test.YtgfmjgfeiokcdaaSipAwake
import Derived.Test.YtgfmjgfeiokcdaaOctet
import Derived.Laws.CopyOwn
namespace Go.Proofs.Ytgfmjgfeiokcdaa.Old
open Go.RowKit

theorem wp_loadA {P : Program} {w : World} {ops : Array Oper} {rest : List Oper} {o : Oper} {a : Act} {Q : Exit → Act → World → Prop} (hgd : o.guard = none) (ty : TypeId) (x : Operand) (ho : o.op = .load ty x)
    (g : Nat) (t : TypeId) (l : List Value) (hx : a.eval x = .pointer (some ⟨g, 0, none⟩)) (hA : Arr w g t l) (d : TypeDesc) (hu : P.underlying ty = some d) (hd : (match d with | .struct _ | .array _ _ => true | _ => false) = true)
    (hi : (P.info? ty).map (·.size) = some l.toArray.size) (h : wpList P ops Q rest (a.put o.dst (.agg l.toArray)) w) : wpList P ops Q (o :: rest) a w := by
  refine wpList_plain hgd fun K hK => ?_
  have hr := run_loadVar_row (P := P) w g t ty l.toArray (0, 0) d hA hu hd hi
  unfold Oper.wp execOp
  simp only [ho, hx, Instr.loadAt, Instr.sureAddr, Sem.run_bind, Sem.run_pure, Result.andThen_ok, hr]
  exact hK _ _ h
theorem exec_loadA {P : Program} {w : World} {o : Oper} {ev : Operand → Value} {v : Value} (ty : TypeId) (x : Operand) (ho : o.op = .load ty x)
    (g : Nat) (t : TypeId) (l : List Value) (hx : ev x = .pointer (some ⟨g, 0, none⟩)) (hA : Arr w g t l) (d : TypeDesc) (hu : P.underlying ty = some d) (hd : (match d with | .struct _ | .array _ _ => true | _ => false) = true)
    (hi : (P.info? ty).map (·.size) = some l.toArray.size) (hv : v = .agg l.toArray) : (execOp ev o).run P w = .ok (.value v) w := by
  have hr := run_loadVar_row (P := P) w g t ty l.toArray (0, 0) d hA hu hd hi
  unfold execOp
  simp only [ho, hx, Instr.loadAt, Instr.sureAddr, Sem.run_bind, Sem.run_pure, Result.andThen_ok, hr, hv]
theorem owp_storeA {P : Program} {o : Oper} {a : Act} {w : World} {K : Act → World → Prop} {Q : Exit → Act → World → Prop} (ty : TypeId) (x y : Operand) (ho : o.op = .store ty x y)
    (g : Nat) (t : TypeId) (l old : List Value) (hx : a.eval x = .pointer (some ⟨g, 0, none⟩)) (hy : a.eval y = .agg l.toArray) (hA : Arr w g t old) (hi : (P.info? ty).map (·.size) = some l.toArray.size)
    (hold : old.length = l.length) (h1 : l.toArray.all (·.oneCell') = true) (B : Nat) (w0 : World) (hb : Below B w0 w) (hBg : B ≤ g)
    (h : ∀ w', Hid (Arr w' g t l) → Below B w0 w' → Below B w w' → K (a.put o.dst undef) w') : o.wp P a w K Q := by
  refine wp_store_row ty x y ho g l.toArray hx hy t old.toArray hA hi (by simpa using hold) h1 ?_
  exact h _ (Lib.hid (setRow_heap w g _ _ t _ hA)) (below_setRow hb hBg _) (below_setRow (Below.refl _ _) hBg _)
theorem wp_storeA {P : Program} {ops : Array Oper} {rest : List Oper} {o : Oper} {a : Act} {w : World} {Q : Exit → Act → World → Prop} (hgd : o.guard = none) (ty : TypeId) (x y : Operand) (ho : o.op = .store ty x y)
    (g : Nat) (t : TypeId) (l old : List Value) (hx : a.eval x = .pointer (some ⟨g, 0, none⟩)) (hy : a.eval y = .agg l.toArray) (hA : Arr w g t old) (hi : (P.info? ty).map (·.size) = some l.toArray.size)
    (hold : old.length = l.length) (h1 : l.toArray.all (·.oneCell') = true) (B : Nat) (w0 : World) (hb : Below B w0 w) (hBg : B ≤ g)
    (h : ∀ w', Hid (Arr w' g t l) → Below B w0 w' → wpList P ops Q rest (a.put o.dst undef) w') : wpList P ops Q (o :: rest) a w :=
  wpList_plain hgd fun _ hK => owp_storeA ty x y ho g t l old hx hy hA hi hold h1 B w0 hb hBg fun w' h2 h3 _ => hK _ _ (h w' h2 h3)

/-- The key's two types. -/
theorem key_one (l : List Nat) : (l.map u8v).toArray.all (·.oneCell') = true := by
  rw [Array.all_eq_true_iff_forall_mem]
  intro x hx
  simp at hx
  obtain ⟨y, _, rfl⟩ := hx
  rfl
theorem key_size1 {l : List Nat} (h : l.length = 16) : (Try.prog.info? 43).map (·.size) = some (l.map u8v).toArray.size := by
  rw [show (l.map u8v).toArray.size = 16 by simp [h]]
  kernel_rfl
theorem key_size2 {l : List Nat} (h : l.length = 16) : (Try.prog.info? 22).map (·.size) = some (l.map u8v).toArray.size := by
  rw [show (l.map u8v).toArray.size = 16 by simp [h]]
  kernel_rfl
theorem ret_key1 {fn : Func} {R : Ending → World → Prop} {act : Act} {w : World} {g p : Nat} {l : List Nat} (hres : fn.results = #[.cell p 43]) (hA : Arr w g 43 (l.map u8v)) (h16 : l.length = 16)
    (hp : act.tmps.getD p undef = .pointer (some ⟨g, 0, none⟩)) (hd : act.defers = [])
    (hR : R (.returned (keyV l)) w) : bodyPost Try.prog fn R .ret act w := by
  refine bodyPost_ret_by (v := keyV l) ?_ hd hR
  rw [results_cell_one hres, hp]
  have hr := run_loadVar_row (P := Try.prog) w g 43 43 (l.map u8v).toArray (0, 0) _ hA Try.underlying43 rfl (key_size1 h16)
  simp only [asAddr, Sem.run_pure, Result.andThen, hr]
  rfl
theorem ret_key2 {fn : Func} {R : Ending → World → Prop} {act : Act} {w : World} {g p : Nat} {l : List Nat} (hres : fn.results = #[.cell p 22]) (hA : Arr w g 22 (l.map u8v)) (h16 : l.length = 16)
    (hp : act.tmps.getD p undef = .pointer (some ⟨g, 0, none⟩)) (hd : act.defers = [])
    (hR : R (.returned (keyV l)) w) : bodyPost Try.prog fn R .ret act w := by
  refine bodyPost_ret_by (v := keyV l) ?_ hd hR
  rw [results_cell_one hres, hp]
  have hr := run_loadVar_row (P := Try.prog) w g 22 22 (l.map u8v).toArray (0, 0) _ hA Try.underlying22 rfl (key_size2 h16)
  simp only [asAddr, Sem.run_pure, Result.andThen, hr]
  rfl
theorem eqItems_self {P : Program} {e : TypeId} (w : World) (d : Nat) (he : P.plainKey e = true) (hu : P.underlying e = some (.int .u8)) (l : List Nat) : ∀ is : List Nat, (∀ i ∈ is, i < l.length) → (Op.eqItems (d + 1) e 1 (l.map u8v).toArray (l.map u8v).toArray is).run P w = .ok true w
  | [], _ => by simp [Op.eqItems]
  | i :: is, h => by
    have hx : (l.map u8v).toArray[i * 1]? = some (u8v (nth l i)) := by
      rw [Nat.mul_one, List.getElem?_toArray, List.getElem?_map, nth_get (h i (by simp))]
      rfl
    have hp := run_part_plain (P := P) (w := w) he hx
    have ih := eqItems_self w d he hu l is (fun j hj => h j (by simp [hj]))
    have hq : (Op.equalIn (d + 1) e (u8v (nth l i)) (u8v (nth l i))).run P w = .ok true w := by
      have h := run_equalIn_int (P := P) w d e .u8 .u8 (nth l i : Int) (nth l i : Int) hu
      rw [beq_self_eq_true] at h
      exact h
    simp only [Op.eqItems, Sem.run_bind, hp, hq, ih, Result.andThen_ok, Bool.not_true, Bool.false_eq_true, if_false]
theorem eq_key {w : World} {o : Oper} {ev : Operand → Value} (x y : Operand) (d : TypeId) (ho : o.op = .binOp .eql 43 x y d) (l : List Nat) (h16 : l.length = 16) (hx : ev x = keyV l) (hy : ev y = keyV l) :
    (execOp ev o).run Try.prog w = .ok (.value (.bool true)) w := by
  have h1 : ∀ w, (Op.equalIn (9999 + 1) 43 (keyV l) (keyV l)).run Try.prog w = .ok true w := by
    intro w
    unfold keyV
    obtain ⟨i, hi, _⟩ : ∃ i, Try.prog.info? 5 = some i ∧ True := by
      cases h : Try.prog.info? 5 with
      | none =>
        have hs : (Try.prog.info? 5).isSome = true := by kernel_rfl
        rw [h] at hs
        cases hs
      | some i => exact ⟨i, rfl, trivial⟩
    rw [run_equalIn_array (P := Try.prog) (w := w) 9999 _ _ Try.underlying43 hi]
    rw [show Try.prog.cellsOf 5 = 1 by kernel_rfl]
    exact eqItems_self w 9998 (by kernel_rfl) Try.underlying5 l _ (fun i hi => by rw [h16]; exact List.mem_range.1 hi)
  unfold execOp
  simp only [ho, hx, hy]
  unfold keyV at h1 ⊢
  generalize (l.map u8v).toArray = xs at h1 ⊢
  go_simp

theorem owp_copyA {P : Program} {o : Oper} {a : Act} {w : World} {K : Act → World → Prop} {Q : Exit → Act → World → Prop} (dst : Option Tmp) (hdst : o.dst = dst) (d s : Operand) (dT sT : TypeId)
    (ho : o.op = .call { callee := .builtin .copy, args := #[d, s], argTypes := #[dT, sT] }) (elem : TypeId) (hu : P.underlying dT = some (.slice elem)) (hsz : (P.info? elem).map (·.size) = some 1)
    (n : Nat) (h0 : 0 < n) (g : Nat) (ad : Addr) (dc sc : Nat) (hd : a.eval d = .slice (some ⟨g, 0, none⟩) n dc) (hs : a.eval s = .slice (some ad) n sc) (t : TypeId) (cur cs : List Value) (hg : Arr w g t cur) (hc : cur.length = n) (hn : cs.length = n)
    (B : Nat) (hv : View w B (some ad) cs) (h1 : ∀ v ∈ cs, v.oneCell' = true) (B0 : Nat) (w0 : World) (hb : Below B0 w0 w) (hBg : B0 ≤ g)
    (h : ∀ w', Hid (Arr w' g t cs) → Below B0 w0 w' → Below B0 w w' → K (a.put dst (.int .i64 (n : Int))) w') : o.wp P a w K Q := by
  subst hdst
  have hsrc : ∀ j v, cs[j]? = some v → w.cell? (ad.add j) = some v := by
    obtain ⟨b, o', e, _, hc⟩ := hv (by intro e; rw [e] at hn; simp at hn; omega)
    injection e with e
    subst e
    intro j v hjv
    have := hc j v hjv
    unfold Addr.add
    split
    · next h0 => subst h0; simpa using this
    · exact this
  have hrun := run_copy_row (P := P) w dT sT o.type elem g 0 n dc ad n sc cur.toArray t cs hu hsz hg (by rw [hn]; exact (Nat.min_self n).symm) hsrc (by simp; omega) h1
  have hrow : (cur.toArray.toList.take 0 ++ cs ++ cur.toArray.toList.drop (0 + cs.length)).toArray = cs.toArray := by
    rw [List.take_zero, List.nil_append, List.drop_of_length_le (by simp; omega), List.append_nil]
  rw [hrow, hn] at hrun
  unfold Oper.wp execOp
  simp only [ho, resolve, invoke, builtin, Sem.run_bind, Sem.run_pure, Result.andThen_ok, List.map_toArray, List.map_cons, List.map_nil, hd, hs, hrun]
  exact h _ (Lib.hid (setRow_heap w g _ _ t _ hg)) (below_setRow hb hBg _) (below_setRow (Below.refl _ _) hBg _)
theorem put_n (A : Option Addr) (c : Nat) (l : List Nat) (k m N : Nat) (w : World) (hv : BView w w.heap.size A l) (hk : l.length = k) (hm : k + 8 = m) (hl : k ≤ 1000000) (hN : U64 N) :
    Calls Try.prog 15 #[.slice A k c, .int .u64 (N : Int), .int .i64 8] w fun e w' => ∃ g, e = .returned (.slice (some ⟨g, 0, none⟩) m m) ∧ BView w' w'.heap.size (some ⟨g, 0, none⟩) (l ++ be N 8) ∧ Below w.heap.size w w' := by
  subst hk
  refine (put_c A c l N 8 8 w w.heap.size hv (Nat.le_refl _) hl hN (.inr (.inl ⟨rfl, by omega, by omega⟩))).mono ?_
  rintro e w' ⟨g, rfl, hg, hA, hb, hy⟩
  refine ⟨g, ?_, BView.of_arr hy hA.out hA.out.lt, hb⟩
  rw [List.length_append, be_length, hm]

end Go.Proofs.Ytgfmjgfeiokcdaa.Old
