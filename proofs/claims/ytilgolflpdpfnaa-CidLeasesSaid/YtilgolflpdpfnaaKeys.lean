
/- Keys (16 bytes) as values in memory: loads, stores, results, comparison; siphash.Of and the reference's. Conditions: none. -/
import Derived.Test.YtilgolflpdpfnaaSipAwake
import Derived.Test.YtilgolflpdpfnaaOctet
import Derived.Laws.CopyOwn
namespace Go.Proofs.Ytilgolflpdpfnaa.Old
open Go.RowKit

theorem wp_loadA {P : Program} {w : World} {ops : Array Oper} {rest : List Oper} {o : Oper} {a : Act} {Q : Exit → Act → World → Prop} (hgd : o.guard = none) (ty : TypeId) (x : Operand) (ho : o.op = .load ty x)
    (g : Nat) (t : TypeId) (l : List Value) (hx : a.eval x = .pointer (some ⟨g, 0, none⟩)) (hA : Arr w g t l) (d : TypeDesc) (hu : P.underlying ty = some d) (hd : (match d with | .struct _ | .array _ _ => true | _ => false) = true)
    (hi : (P.info? ty).map (·.size) = some l.toArray.size) (h : wpList P ops Q rest (a.put o.dst (.agg l.toArray)) w) : wpList P ops Q (o :: rest) a w := by
  refine wpList_plain hgd fun K hK => ?_
  have hr := run_loadVar_row (P := P) w g t ty l.toArray (0, 0) d hA hu hd hi
  unfold Oper.wp execOp
  simp only [ho, hx, Instr.loadAt, Instr.sureAddr, Sem.run_bind, Sem.run_pure, Result.andThen_ok, hr]
  exact hK _ _ h
theorem exec_loadA {P : Program} {w : World} {o : Oper} {ev : Operand → Value} {v : Value} (ty : TypeId) (x : Operand) (ho : o.op = .load ty x)
    (g : Nat) (t : TypeId) (l : List Value) (hx : ev x = .pointer (some ⟨g, 0, none⟩)) (hA : Arr w g t l) (d : TypeDesc) (hu : P.underlying ty = some d) (hd : (match d with | .struct _ | .array _ _ => true | _ => false) = true)
    (hi : (P.info? ty).map (·.size) = some l.toArray.size) (hv : v = .agg l.toArray) : (execOp ev o).run P w = .ok (.value v) w := by
  have hr := run_loadVar_row (P := P) w g t ty l.toArray (0, 0) d hA hu hd hi
  unfold execOp
  simp only [ho, hx, Instr.loadAt, Instr.sureAddr, Sem.run_bind, Sem.run_pure, Result.andThen_ok, hr, hv]
theorem owp_storeA {P : Program} {o : Oper} {a : Act} {w : World} {K : Act → World → Prop} {Q : Exit → Act → World → Prop} (ty : TypeId) (x y : Operand) (ho : o.op = .store ty x y)
    (g : Nat) (t : TypeId) (l old : List Value) (hx : a.eval x = .pointer (some ⟨g, 0, none⟩)) (hy : a.eval y = .agg l.toArray) (hA : Arr w g t old) (hi : (P.info? ty).map (·.size) = some l.toArray.size)
    (hold : old.length = l.length) (h1 : l.toArray.all (·.oneCell') = true) (B : Nat) (w0 : World) (hb : Below B w0 w) (hBg : B ≤ g)
    (h : ∀ w', Hid (Arr w' g t l) → Below B w0 w' → Below B w w' → K (a.put o.dst undef) w') : o.wp P a w K Q := by
  refine wp_store_row ty x y ho g l.toArray hx hy t old.toArray hA hi (by simpa using hold) h1 ?_
  exact h _ (Lib.hid (setRow_heap w g _ _ t _ hA)) (below_setRow hb hBg _) (below_setRow (Below.refl _ _) hBg _)
theorem wp_storeA {P : Program} {ops : Array Oper} {rest : List Oper} {o : Oper} {a : Act} {w : World} {Q : Exit → Act → World → Prop} (hgd : o.guard = none) (ty : TypeId) (x y : Operand) (ho : o.op = .store ty x y)
    (g : Nat) (t : TypeId) (l old : List Value) (hx : a.eval x = .pointer (some ⟨g, 0, none⟩)) (hy : a.eval y = .agg l.toArray) (hA : Arr w g t old) (hi : (P.info? ty).map (·.size) = some l.toArray.size)
    (hold : old.length = l.length) (h1 : l.toArray.all (·.oneCell') = true) (B : Nat) (w0 : World) (hb : Below B w0 w) (hBg : B ≤ g)
    (h : ∀ w', Hid (Arr w' g t l) → Below B w0 w' → wpList P ops Q rest (a.put o.dst undef) w') : wpList P ops Q (o :: rest) a w :=
  wpList_plain hgd fun _ hK => owp_storeA ty x y ho g t l old hx hy hA hi hold h1 B w0 hb hBg fun w' h2 h3 _ => hK _ _ (h w' h2 h3)

/-- The key's two types. -/
theorem key_one (l : List Nat) : (l.map u8v).toArray.all (·.oneCell') = true := by
  rw [Array.all_eq_true_iff_forall_mem]
  intro x hx
  simp at hx
  obtain ⟨y, _, rfl⟩ := hx
  rfl
theorem key_size1 {l : List Nat} (h : l.length = 16) : (Try.prog.info? 67).map (·.size) = some (l.map u8v).toArray.size := by
  rw [show (l.map u8v).toArray.size = 16 by simp [h]]
  kernel_rfl
theorem key_size2 {l : List Nat} (h : l.length = 16) : (Try.prog.info? 64).map (·.size) = some (l.map u8v).toArray.size := by
  rw [show (l.map u8v).toArray.size = 16 by simp [h]]
  kernel_rfl
theorem ret_key1 {fn : Func} {R : Ending → World → Prop} {act : Act} {w : World} {g p : Nat} {l : List Nat} (hres : fn.results = #[.cell p 67]) (hA : Arr w g 67 (l.map u8v)) (h16 : l.length = 16)
    (hp : act.tmps.getD p undef = .pointer (some ⟨g, 0, none⟩)) (hd : act.defers = [])
    (hR : R (.returned (keyV l)) w) : bodyPost Try.prog fn R .ret act w := by
  refine bodyPost_ret_by (v := keyV l) ?_ hd hR
  rw [results_cell_one hres, hp]
  have hr := run_loadVar_row (P := Try.prog) w g 67 67 (l.map u8v).toArray (0, 0) _ hA Try.underlying67 rfl (key_size1 h16)
  simp only [asAddr, Sem.run_pure, Result.andThen, hr]
  rfl
theorem ret_key2 {fn : Func} {R : Ending → World → Prop} {act : Act} {w : World} {g p : Nat} {l : List Nat} (hres : fn.results = #[.cell p 64]) (hA : Arr w g 64 (l.map u8v)) (h16 : l.length = 16)
    (hp : act.tmps.getD p undef = .pointer (some ⟨g, 0, none⟩)) (hd : act.defers = [])
    (hR : R (.returned (keyV l)) w) : bodyPost Try.prog fn R .ret act w := by
  refine bodyPost_ret_by (v := keyV l) ?_ hd hR
  rw [results_cell_one hres, hp]
  have hr := run_loadVar_row (P := Try.prog) w g 64 64 (l.map u8v).toArray (0, 0) _ hA Try.underlying64 rfl (key_size2 h16)
  simp only [asAddr, Sem.run_pure, Result.andThen, hr]
  rfl
theorem eqItems_self {P : Program} {e : TypeId} (w : World) (d : Nat) (he : P.plainKey e = true) (hu : P.underlying e = some (.int .u8)) (l : List Nat) : ∀ is : List Nat, (∀ i ∈ is, i < l.length) → (Op.eqItems (d + 1) e 1 (l.map u8v).toArray (l.map u8v).toArray is).run P w = .ok true w
  | [], _ => by simp [Op.eqItems]
  | i :: is, h => by
    have hx : (l.map u8v).toArray[i * 1]? = some (u8v (nth l i)) := by
      rw [Nat.mul_one, List.getElem?_toArray, List.getElem?_map, nth_get (h i (by simp))]
      rfl
    have hp := run_part_plain (P := P) (w := w) he hx
    have ih := eqItems_self w d he hu l is (fun j hj => h j (by simp [hj]))
    have hq : (Op.equalIn (d + 1) e (u8v (nth l i)) (u8v (nth l i))).run P w = .ok true w := by
      have h := run_equalIn_int (P := P) w d e .u8 .u8 (nth l i : Int) (nth l i : Int) hu
      rw [beq_self_eq_true] at h
      exact h
    simp only [Op.eqItems, Sem.run_bind, hp, hq, ih, Result.andThen_ok, Bool.not_true, Bool.false_eq_true, if_false]
theorem eq_key {w : World} {o : Oper} {ev : Operand → Value} (x y : Operand) (d : TypeId) (ho : o.op = .binOp .eql 67 x y d) (l : List Nat) (h16 : l.length = 16) (hx : ev x = keyV l) (hy : ev y = keyV l) :
    (execOp ev o).run Try.prog w = .ok (.value (.bool true)) w := by
  have h1 : ∀ w, (Op.equalIn (9999 + 1) 67 (keyV l) (keyV l)).run Try.prog w = .ok true w := by
    intro w
    unfold keyV
    obtain ⟨i, hi, _⟩ : ∃ i, Try.prog.info? 5 = some i ∧ True := by
      cases h : Try.prog.info? 5 with
      | none =>
        have hs : (Try.prog.info? 5).isSome = true := by kernel_rfl
        rw [h] at hs
        cases hs
      | some i => exact ⟨i, rfl, trivial⟩
    rw [run_equalIn_array (P := Try.prog) (w := w) 9999 _ _ Try.underlying67 hi]
    rw [show Try.prog.cellsOf 5 = 1 by kernel_rfl]
    exact eqItems_self w 9998 (by kernel_rfl) Try.underlying5 l _ (fun i hi => by rw [h16]; exact List.mem_range.1 hi)
  unfold execOp
  simp only [ho, hx, hy]
  unfold keyV at h1 ⊢
  generalize (l.map u8v).toArray = xs at h1 ⊢
  go_simp

theorem owp_copyA {P : Program} {o : Oper} {a : Act} {w : World} {K : Act → World → Prop} {Q : Exit → Act → World → Prop} (dst : Option Tmp) (hdst : o.dst = dst) (d s : Operand) (dT sT : TypeId)
    (ho : o.op = .call { callee := .builtin .copy, args := #[d, s], argTypes := #[dT, sT] }) (elem : TypeId) (hu : P.underlying dT = some (.slice elem)) (hsz : (P.info? elem).map (·.size) = some 1)
    (n : Nat) (h0 : 0 < n) (g : Nat) (ad : Addr) (dc sc : Nat) (hd : a.eval d = .slice (some ⟨g, 0, none⟩) n dc) (hs : a.eval s = .slice (some ad) n sc) (t : TypeId) (cur cs : List Value) (hg : Arr w g t cur) (hc : cur.length = n) (hn : cs.length = n)
    (B : Nat) (hv : View w B (some ad) cs) (h1 : ∀ v ∈ cs, v.oneCell' = true) (B0 : Nat) (w0 : World) (hb : Below B0 w0 w) (hBg : B0 ≤ g)
    (h : ∀ w', Hid (Arr w' g t cs) → Below B0 w0 w' → Below B0 w w' → K (a.put dst (.int .i64 (n : Int))) w') : o.wp P a w K Q := by
  subst hdst
  have hsrc : ∀ j v, cs[j]? = some v → w.cell? (ad.add j) = some v := by
    obtain ⟨b, o', e, _, hc⟩ := hv (by intro e; rw [e] at hn; simp at hn; omega)
    injection e with e
    subst e
    intro j v hjv
    have := hc j v hjv
    unfold Addr.add
    split
    · next h0 => subst h0; simpa using this
    · exact this
  have hrun := run_copy_row (P := P) w dT sT o.type elem g 0 n dc ad n sc cur.toArray t cs hu hsz hg (by rw [hn]; exact (Nat.min_self n).symm) hsrc (by simp; omega) h1
  have hrow : (cur.toArray.toList.take 0 ++ cs ++ cur.toArray.toList.drop (0 + cs.length)).toArray = cs.toArray := by
    rw [List.take_zero, List.nil_append, List.drop_of_length_le (by simp; omega), List.append_nil]
  rw [hrow, hn] at hrun
  unfold Oper.wp execOp
  simp only [ho, resolve, invoke, builtin, Sem.run_bind, Sem.run_pure, Result.andThen_ok, List.map_toArray, List.map_cons, List.map_nil, hd, hs, hrun]
  exact h _ (Lib.hid (setRow_heap w g _ _ t _ hg)) (below_setRow hb hBg _) (below_setRow (Below.refl _ _) hBg _)
theorem put_n (A : Option Addr) (c : Nat) (l : List Nat) (k m N : Nat) (w : World) (hv : BView w w.heap.size A l) (hk : l.length = k) (hm : k + 8 = m) (hl : k ≤ 1000000) (hN : U64 N) :
    Calls Try.prog 105 #[.slice A k c, .int .u64 (N : Int), .int .i64 8] w fun e w' => ∃ g, e = .returned (.slice (some ⟨g, 0, none⟩) m m) ∧ BView w' w'.heap.size (some ⟨g, 0, none⟩) (l ++ be N 8) ∧ Below w.heap.size w w' := by
  subst hk
  refine (put_c A c l N 8 8 w w.heap.size hv (Nat.le_refl _) hl hN (.inr (.inl ⟨rfl, by omega, by omega⟩))).mono ?_
  rintro e w' ⟨g, rfl, hg, hA, hb, hy⟩
  refine ⟨g, ?_, BView.of_arr hy hA.out hA.out.lt, hb⟩
  rw [List.length_append, be_length, hm]

set_option maxRecDepth 100000 in
theorem of_c (H L : Nat) (w : World) (hH : U64 H) (hL : U64 L) :
    Calls Try.prog 101 #[.int .u64 (H : Int), .int .u64 (L : Int)] w fun e w' => e = .returned (keyV (be H 8 ++ be L 8)) ∧ Below w.heap.size w w' := by
  have hZ1 := Lib.hid ((Arr.new w 67 ((List.replicate 16 0).map u8v)).alloc (.cells ((List.replicate 16 0).map u8v).toArray 67))
  have hZ2 := Lib.hid (arr_new2 w (.cells ((List.replicate 16 0).map u8v).toArray 67) 67 ((List.replicate 16 0).map u8v))
  have hbel := below2 w (.cells ((List.replicate 16 0).map u8v).toArray 67) (.cells ((List.replicate 16 0).map u8v).toArray 67)
  have hs2 : w.heap.size + 1 < ((w.alloc (.cells ((List.replicate 16 0).map u8v).toArray 67)).alloc (.cells ((List.replicate 16 0).map u8v).toArray 67)).heap.size := by simp
  have HH := Lib.hid hH
  have HL := Lib.hid hL
  have h16 : (be H 8 ++ be L 8).length = 16 := by simp [be_length]
  have HF := Lib.hid h16
  clear hH hL h16
  rw [show ((List.replicate 16 0).map u8v).toArray = #[.int .u8 0, .int .u8 0, .int .u8 0, .int .u8 0, .int .u8 0, .int .u8 0, .int .u8 0, .int .u8 0, .int .u8 0, .int .u8 0, .int .u8 0, .int .u8 0, .int .u8 0, .int .u8 0, .int .u8 0, .int .u8 0] from rfl] at hZ1 hZ2 hbel hs2
  go_enter Try.func101, Try.ntmps101
  go_upto_region 2 with (fail)
  generalize (w.alloc (.cells #[.int .u8 0, .int .u8 0, .int .u8 0, .int .u8 0, .int .u8 0, .int .u8 0, .int .u8 0, .int .u8 0, .int .u8 0, .int .u8 0, .int .u8 0, .int .u8 0, .int .u8 0, .int .u8 0, .int .u8 0, .int .u8 0] 67)).alloc (.cells #[.int .u8 0, .int .u8 0, .int .u8 0, .int .u8 0, .int .u8 0, .int .u8 0, .int .u8 0, .int .u8 0, .int .u8 0, .int .u8 0, .int .u8 0, .int .u8 0, .int .u8 0, .int .u8 0, .int .u8 0, .int .u8 0] 67) = w1 at hZ1 hZ2 hbel hs2 ⊢
  have hs1 : w.heap.size + 1 ≤ w1.heap.size := by omega
  refine rb_start_at (w.heap.size+1) (by assumption) (by kernel_rfl) (fun wx hwx hBwx => ?_)
  have hbx := hbel.trans (hwx.mono (by omega))
  have z1 := hZ1.out.below hwx (by omega)
  have z2 := Lib.hid ((show Arr w1 (w.heap.size + 1) 67 _ from hZ2.out))
  refine rb_take 0 (some 7) (v := ?_) rfl rfl (by kernel_rfl) (by kernel_rfl) (by kernel_rfl) (by kernel_rfl) ?_ ?_
  rotate_left
  focus (intro w' hw'; go_simp; try with_reducible rfl)
  try simp only [Act.put, List.setIfInBounds_toArray, List.set_cons_zero, List.set_cons_succ]
  refine rb_take 1 (some 8) (v := ?_) rfl rfl (by kernel_rfl) (by kernel_rfl) (by kernel_rfl) (by kernel_rfl) ?_ ?_
  rotate_left
  focus (intro w' hw'; go_simp; try with_reducible rfl)
  try simp only [Act.put, List.setIfInBounds_toArray, List.set_cons_zero, List.set_cons_succ]
  refine rb_take 3 (some 10) (v := ?_) rfl rfl (by kernel_rfl) (by kernel_rfl) (by kernel_rfl) (by kernel_rfl) ?_ ?_
  rotate_left
  focus (intro w' hw'; go_simp; try with_reducible rfl)
  try simp only [Act.put, List.setIfInBounds_toArray, List.set_cons_zero, List.set_cons_succ]
  refine rb_keep 2 rfl (by kernel_rfl) (by kernel_rfl) (by first | assumption | exact hBB _ _ | exact Nat.le_refl _) (fun K hK => ?_)
  go_simp
  refine (put_n none 0 [] 0 8 H wx BView.nil_ rfl rfl (by omega) HH.out).mono ?_
  rintro e w2 ⟨g2, rfl, hv2, hb2⟩
  refine hK.out _ _ (hb2.mono hBwx) ?_
  clear hK K
  have hB2 : w.heap.size + 1 ≤ w2.heap.size := by have := hb2.size; omega
  rw [List.nil_append] at hv2
  try simp only [Act.put, List.setIfInBounds_toArray, List.set_cons_zero, List.set_cons_succ]
  refine rb_keep 4 rfl (by kernel_rfl) (by kernel_rfl) (by first | assumption | exact hBB _ _ | exact Nat.le_refl _) (fun K hK => ?_)
  go_simp
  refine (put_n _ 8 (be H 8) 8 16 L w2 hv2 (be_length _ _) rfl (by omega) HL.out).mono ?_
  rintro e w3 ⟨g3, rfl, hv3, hb3⟩
  refine hK.out _ _ (hb3.mono hB2) ?_
  clear hK K
  have hB3 : w.heap.size + 1 ≤ w3.heap.size := by have := hb3.size; omega
  have hss1 := hwx.size
  have hss2 := hb2.size
  have z3 := ((z2.out.below hwx (by omega)).below hb2 (by omega)).below hb3 (by omega)
  have hbz := hbx.trans ((hb2.trans (hb3.mono hb2.size)).mono hbx.size)
  have z1w := hid_arr ((z1.below hb2 (by omega)).below hb3 (by omega))
  try simp only [Act.put, List.setIfInBounds_toArray, List.set_cons_zero, List.set_cons_succ]
  refine rb_keep 5 rfl (by kernel_rfl) (by kernel_rfl) (by first | assumption | exact hBB _ _ | exact Nat.le_refl _) (fun K hK => ?_)
  refine owp_copyA (some 12) rfl _ _ _ _ rfl 5 Try.underlying22 u8size 16 (by omega) (w.heap.size + 1) ⟨g3, 0, none⟩ 16 16 rfl rfl 67 ((List.replicate 16 0).map u8v) ((be H 8 ++ be L 8).map u8v) z3 rfl (by rw [List.length_map]; exact HF.out) w3.heap.size hv3.view (u8v_one _) (w.heap.size + 1) w3 (Below.refl _ _) (Nat.le_refl _) ?_
  intro w4 hA4 hb4 hb4'
  refine hK.out _ _ hb4 ?_
  clear hK K
  have hB4 : w.heap.size + 1 ≤ w4.heap.size := by have := hb4.size; omega
  try simp only [Act.put, List.setIfInBounds_toArray, List.set_cons_zero, List.set_cons_succ]
  refine rb_done (by first | assumption | exact hBB _ _ | exact Nat.le_refl _) (by kernel_rfl) ?_
  have z14 := Lib.hid ((show Arr w3 w.heap.size 67 _ from z1w.out).below hb4 (by omega))
  have hbw4 : Below w.heap.size w w4 := hbz.trans (hb4.mono (by omega))
  go_upto_region 3 with (fail)
  refine wp_region_list ?_
  refine wp_loadA rfl _ _ rfl (w.heap.size + 1) 67 ((be H 8 ++ be L 8).map u8v) rfl hA4.out _ Try.underlying67 rfl (key_size1 HF.out) ?_
  refine wp_storeA rfl _ _ _ rfl w.heap.size 67 ((be H 8 ++ be L 8).map u8v) _ rfl rfl z14.out (key_size1 HF.out) (by simp [be_length]) (key_one _) w.heap.size w hbw4 (Nat.le_refl _) ?_
  intro w5 hA5 hb5
  go_wp2_with fail
  refine ret_key1 (g := w.heap.size) rfl hA5.out HF.out rfl rfl ⟨rfl, hb5⟩
end Go.Proofs.Ytilgolflpdpfnaa.Old
