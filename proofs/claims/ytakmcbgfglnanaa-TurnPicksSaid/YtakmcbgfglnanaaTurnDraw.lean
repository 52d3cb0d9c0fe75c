
/- turn.Two by a contract. Conditions: none but bounds. -/
import Derived.Test.YtakmcbgfglnanaaTurn
import Derived.Laws.ResultCell
namespace Go.Proofs.Ytakmcbgfglnanaa
open Go.RowKit
def Cd.agg (p : Cd) : Value := .agg #[.int .i64 p.slot, .int .i64 p.backend, .int .i64 p.weight, .int .u32 p.load]

theorem below_two {B : Nat} {w : World} (h : B ≤ w.heap.size) (o1 o2 o3 o4 : Obj) : Below B ((w.alloc o1).alloc o2) ((w.alloc o3).alloc o4) :=
  ⟨rfl, rfl, rfl, by simp, fun k hk => by rw [heap_alloc_old _ _ (show k < (w.alloc o3).heap.size by simp; omega), heap_alloc_old _ _ (show k < w.heap.size by omega), heap_alloc_old _ _ (show k < (w.alloc o1).heap.size by simp; omega), heap_alloc_old _ _ (show k < w.heap.size by omega)]⟩

/-- A function whose results are a candidate in a cell and a bool, at its end. -/
theorem load_cand {w : World} {g : Nat} {a b c d : Value} (hA : Arr w g 34 [a, b, c, d]) (h1 : a.oneCell' = true) (h2 : b.oneCell' = true) (h3 : c.oneCell' = true) (h4 : d.oneCell' = true) :
    (loadVar 34 ⟨g, 0, none⟩).run Try.prog w = .ok (.agg #[a, b, c, d]) w := by
  have q0 := hA.cell 0
  have q1 := hA.cell 1
  have q2 := hA.cell 2
  have q3 := hA.cell 3
  simp only [List.getElem?_cons_zero, List.getElem?_cons_succ] at q0 q1 q2 q3
  go_simp
theorem ret_cand {fn : Func} {R : Ending → World → Prop} {act : Act} {w : World} {g p u : Nat} {a b c d v : Value} (hres : fn.results = #[.cell p 34, .tmp u]) (hA : Arr w g 34 [a, b, c, d])
    (h1 : a.oneCell' = true) (h2 : b.oneCell' = true) (h3 : c.oneCell' = true) (h4 : d.oneCell' = true)
    (hp : act.tmps.getD p undef = .pointer (some ⟨g, 0, none⟩)) (hv : act.tmps.getD u undef = v) (hd : act.defers = [])
    (hR : R (.returned (.tuple #[.agg #[a, b, c, d], v])) w) : bodyPost Try.prog fn R .ret act w := by
  refine bodyPost_ret_by (v := .tuple #[.agg #[a, b, c, d], v]) ?_ hd hR
  rw [results_cell_tmp hres, hp, hv]
  simp only [asAddr, Sem.run_pure, Result.andThen, load_cand hA h1 h2 h3 h4]

set_option maxRecDepth 100000 in
theorem turn_two_none_c (A : Option Addr) (c : Nat) (a b : Int) (w : World) :
    Calls Try.prog 74 #[.slice A 0 c, .int .u32 a, .int .u32 b] w fun e w' => e = .returned (.tuple #[.agg #[.int .i64 0, .int .i64 0, .int .i64 0, .int .u32 0], .bool false]) ∧ Below w.heap.size w w' := by
  go_enter Try.func74, Try.ntmps74
  go_wp2
  refine ret_cand (g := w.heap.size) (v := .bool false) rfl (Arr.new w 34 [.int .i64 0, .int .i64 0, .int .i64 0, .int .u32 0]) rfl rfl rfl rfl rfl rfl rfl ⟨rfl, (Below.refl _ _).alloc (Nat.le_refl _) _⟩

set_option maxRecDepth 100000 in
set_option maxHeartbeats 2000000 in
theorem turn_two_c (A : Option Addr) (c : Nat) (l : List Cd) (a b : Nat) (w : World) (hv : View w w.heap.size A (cdsV l)) (hn : l.length ≤ 1000000) (hn0 : 0 < l.length) (ha : a < 4294967296) (hb : b < 4294967296) (x y : Cd)
    (hx : l[a % l.length]? = some x) (hy : l[b % l.length]? = some y) :
    Calls Try.prog 74 #[.slice A l.length c, .int .u32 (a : Int), .int .u32 (b : Int)] w fun e w' => e = .returned (.tuple #[(if y.load < x.load ∨ y.load = x.load ∧ y.slot < x.slot then y.agg else x.agg), .bool true]) ∧ Below w.heap.size w w' := by
  have ha1 : (0 : Int) ≤ (a : Int) ∧ (a : Int) < 4294967296 := by omega
  have hb1 : (0 : Int) ≤ (b : Int) ∧ (b : Int) < 4294967296 := by omega
  have h2 : ((l.length : Int) == 0) = false := by rw [beq_eq_false_iff_ne]; omega
  have h3 : ¬ l.length = 0 := by omega
  have h4 : (0 : Int) < (l.length : Int) ∧ (l.length : Int) ≤ 1000000 := by omega
  have HA := Lib.hid (show (a : Int).tmod (l.length : Int) = ((a % l.length : Nat) : Int) by rw [Int.tmod_eq_emod_of_nonneg (by omega), ← Int.natCast_emod])
  have HB := Lib.hid (show (b : Int).tmod (l.length : Int) = ((b % l.length : Nat) : Int) by rw [Int.tmod_eq_emod_of_nonneg (by omega), ← Int.natCast_emod])
  have hi : a % l.length < l.length := Nat.mod_lt _ hn0
  have hj : b % l.length < l.length := Nat.mod_lt _ hn0
  generalize a % l.length = i at HA hi hx
  generalize b % l.length = j at HB hj hy
  obtain ⟨i0, i1, i2, i3⟩ := cdsV_get l i _ hx
  obtain ⟨j0, j1, j2, j3⟩ := cdsV_get l j _ hy
  obtain ⟨bb, o, rfl, hbb, hcell⟩ := hv (by intro e; rw [e] at i0; simp at i0)
  have ci0 := hcell _ _ i0
  have ci1 := hcell _ _ i1
  have ci2 := hcell _ _ i2
  have ci3 := hcell _ _ i3
  have cj0 := hcell _ _ j0
  have cj1 := hcell _ _ j1
  have cj2 := hcell _ _ j2
  have cj3 := hcell _ _ j3
  rw [← Nat.add_assoc] at ci1 ci2 ci3 cj1 cj2 cj3
  obtain ⟨xs, xb, xw, xl⟩ := x
  obtain ⟨ys, yb, yw, yl⟩ := y
  simp only at ci0 ci1 ci2 ci3 cj0 cj1 cj2 cj3
  have hi0 : (0 : Int) ≤ (i : Int) := by omega
  have hj0 : (0 : Int) ≤ (j : Int) := by omega
  have hi1 : (i : Int) < (l.length : Int) := by omega
  have hj1 : (j : Int) < (l.length : Int) := by omega
  clear hcell i0 i1 i2 i3 j0 j1 j2 j3 hx hy
  go_enter Try.func74, Try.ntmps74
  go_wp2_with fail
  have hB0 : w.heap.size ≤ (w.alloc (.cells #[.int .i64 0, .int .i64 0, .int .i64 0, .int .u32 0] 34)).heap.size := by simp
  refine rb_start_at (w.heap.size) (by assumption) (by kernel_rfl) (fun wx hwx hBwx => ?_)
  have hbx : Below w.heap.size w wx := ((Below.refl _ _).alloc (Nat.le_refl _) _).trans (hwx.mono hB0)
  have pi0 := (hbx.cell (p := ⟨bb, o + i * 4, none⟩) (by simp; omega)).trans ci0
  have pi1 := (hbx.cell (p := ⟨bb, o + i * 4 + 1, none⟩) (by simp; omega)).trans ci1
  have pi2 := (hbx.cell (p := ⟨bb, o + i * 4 + 2, none⟩) (by simp; omega)).trans ci2
  have pi3 := (hbx.cell (p := ⟨bb, o + i * 4 + 3, none⟩) (by simp; omega)).trans ci3
  have pj0 := (hbx.cell (p := ⟨bb, o + j * 4, none⟩) (by simp; omega)).trans cj0
  have pj1 := (hbx.cell (p := ⟨bb, o + j * 4 + 1, none⟩) (by simp; omega)).trans cj1
  have pj2 := (hbx.cell (p := ⟨bb, o + j * 4 + 2, none⟩) (by simp; omega)).trans cj2
  have pj3 := (hbx.cell (p := ⟨bb, o + j * 4 + 3, none⟩) (by simp; omega)).trans cj3
  have hBB : ∀ o1 o2, w.heap.size ≤ ((wx.alloc o1).alloc o2).heap.size := by intro o1 o2; simp; omega
  have hB12 : w.heap.size ≤ (wx.alloc (.cells #[.int .i64 0, .int .i64 0, .int .i64 0, .int .u32 0] 34)).heap.size := by simp; omega
  have hB13 : w.heap.size ≤ ((wx.alloc (.cells #[.int .i64 0, .int .i64 0, .int .i64 0, .int .u32 0] 34)).alloc (.cells #[.int .i64 0, .int .i64 0, .int .i64 0, .int .u32 0] 34)).heap.size := by simp; omega
  refine rb_take 0 (some 18) (v := ?_) rfl rfl (by kernel_rfl) (by kernel_rfl) (by kernel_rfl) (by kernel_rfl) ?_ ?_
  rotate_left
  focus (intro w' hw'; go_simp; try with_reducible rfl)
  try simp only [Act.put, List.setIfInBounds_toArray, List.set_cons_zero, List.set_cons_succ]
  refine rb_take 1 (some 19) (v := ?_) rfl rfl (by kernel_rfl) (by kernel_rfl) (by kernel_rfl) (by kernel_rfl) ?_ ?_
  rotate_left
  focus (intro w' hw'; go_simp; try with_reducible rfl)
  try simp only [Act.put, List.setIfInBounds_toArray, List.set_cons_zero, List.set_cons_succ]
  refine rb_take 2 (some 20) (v := ?_) rfl rfl (by kernel_rfl) (by kernel_rfl) (by kernel_rfl) (by kernel_rfl) ?_ ?_
  rotate_left
  focus (intro w' hw'; go_simp; try with_reducible rfl)
  try simp only [Act.put, List.setIfInBounds_toArray, List.set_cons_zero, List.set_cons_succ]
  refine rb_take 3 (some 21) (v := ?_) rfl rfl (by kernel_rfl) (by kernel_rfl) (by kernel_rfl) (by kernel_rfl) ?_ ?_
  rotate_left
  focus (intro w' hw'; go_simp; first | rw [HA.out] | with_reducible rfl)
  try simp only [Act.put, List.setIfInBounds_toArray, List.set_cons_zero, List.set_cons_succ]
  refine rb_take 4 (some 22) (v := ?_) rfl rfl (by kernel_rfl) (by kernel_rfl) (by kernel_rfl) (by kernel_rfl) ?_ ?_
  rotate_left
  focus (intro w' hw'; go_simp; try with_reducible rfl)
  try simp only [Act.put, List.setIfInBounds_toArray, List.set_cons_zero, List.set_cons_succ]
  refine rb_take 5 (some 23) (v := ?_) rfl rfl (by kernel_rfl) (by kernel_rfl) (by kernel_rfl) (by kernel_rfl) ?_ ?_
  rotate_left
  focus (intro w' hw'; have q0 := (hw'.cell (p := ⟨bb, o + i * 4, none⟩) (by have := hbx.size; simp; omega)).trans pi0; have q1 := (hw'.cell (p := ⟨bb, o + i * 4 + 1, none⟩) (by have := hbx.size; simp; omega)).trans pi1; have q2 := (hw'.cell (p := ⟨bb, o + i * 4 + 2, none⟩) (by have := hbx.size; simp; omega)).trans pi2; have q3 := (hw'.cell (p := ⟨bb, o + i * 4 + 3, none⟩) (by have := hbx.size; simp; omega)).trans pi3; go_simp; try with_reducible rfl)
  try simp only [Act.put, List.setIfInBounds_toArray, List.set_cons_zero, List.set_cons_succ]
  refine rb_take 6 (some 24) (v := ?_) rfl rfl (by kernel_rfl) (by kernel_rfl) (by kernel_rfl) (by kernel_rfl) ?_ ?_
  rotate_left
  focus (intro w' hw'; go_simp; try with_reducible rfl)
  try simp only [Act.put, List.setIfInBounds_toArray, List.set_cons_zero, List.set_cons_succ]
  refine rb_take 7 (some 25) (v := ?_) rfl rfl (by kernel_rfl) (by kernel_rfl) (by kernel_rfl) (by kernel_rfl) ?_ ?_
  rotate_left
  focus (intro w' hw'; go_simp; try with_reducible rfl)
  try simp only [Act.put, List.setIfInBounds_toArray, List.set_cons_zero, List.set_cons_succ]
  refine rb_take 8 (some 26) (v := ?_) rfl rfl (by kernel_rfl) (by kernel_rfl) (by kernel_rfl) (by kernel_rfl) ?_ ?_
  rotate_left
  focus (intro w' hw'; go_simp; try with_reducible rfl)
  try simp only [Act.put, List.setIfInBounds_toArray, List.set_cons_zero, List.set_cons_succ]
  refine rb_take 9 (some 27) (v := ?_) rfl rfl (by kernel_rfl) (by kernel_rfl) (by kernel_rfl) (by kernel_rfl) ?_ ?_
  rotate_left
  focus (intro w' hw'; go_simp; first | rw [HB.out] | with_reducible rfl)
  try simp only [Act.put, List.setIfInBounds_toArray, List.set_cons_zero, List.set_cons_succ]
  refine rb_take 10 (some 28) (v := ?_) rfl rfl (by kernel_rfl) (by kernel_rfl) (by kernel_rfl) (by kernel_rfl) ?_ ?_
  rotate_left
  focus (intro w' hw'; go_simp; try with_reducible rfl)
  try simp only [Act.put, List.setIfInBounds_toArray, List.set_cons_zero, List.set_cons_succ]
  refine rb_take 11 (some 29) (v := ?_) rfl rfl (by kernel_rfl) (by kernel_rfl) (by kernel_rfl) (by kernel_rfl) ?_ ?_
  rotate_left
  focus (intro w' hw'; have q0 := (hw'.cell (p := ⟨bb, o + j * 4, none⟩) (by have := hbx.size; simp; omega)).trans pj0; have q1 := (hw'.cell (p := ⟨bb, o + j * 4 + 1, none⟩) (by have := hbx.size; simp; omega)).trans pj1; have q2 := (hw'.cell (p := ⟨bb, o + j * 4 + 2, none⟩) (by have := hbx.size; simp; omega)).trans pj2; have q3 := (hw'.cell (p := ⟨bb, o + j * 4 + 3, none⟩) (by have := hbx.size; simp; omega)).trans pj3; go_simp; try with_reducible rfl)
  try simp only [Act.put, List.setIfInBounds_toArray, List.set_cons_zero, List.set_cons_succ]
  refine rb_keep2 12 13 rfl rfl (by kernel_rfl) (by kernel_rfl) (by kernel_rfl) (by first | assumption | exact hBB _ _) (fun K hK => ?_) (fun K hK => ?_)
  · go_simp
    first | refine hK.out _ _ ((Below.refl _ wx).alloc hBwx _) ?_ | refine hK.out _ _ ((Below.refl _ (wx.alloc (.cells #[.int .i64 0, .int .i64 0, .int .i64 0, .int .u32 0] 34))).alloc hB12 _) ?_
    clear hK K
    try simp only [Act.put, List.setIfInBounds_toArray, List.set_cons_zero, List.set_cons_succ]
    refine rb_keep 13 rfl (by kernel_rfl) (by kernel_rfl) (by first | assumption | exact hBB _ _) (fun K hK => ?_)
    go_simp
    first | refine hK.out _ _ ((Below.refl _ wx).alloc hBwx _) ?_ | refine hK.out _ _ ((Below.refl _ (wx.alloc (.cells #[.int .i64 0, .int .i64 0, .int .i64 0, .int .u32 0] 34))).alloc hB12 _) ?_
    clear hK K
    try simp only [Act.put, List.setIfInBounds_toArray, List.set_cons_zero, List.set_cons_succ]
    refine rb_keep 14 rfl (by kernel_rfl) (by kernel_rfl) (by first | assumption | exact hBB _ _) (fun K hK => ?_)
    go_simp
    refine hK.out _ _ (below_two (by omega) _ _ _ _) ?_
    clear hK K
    try simp only [Act.put, List.setIfInBounds_toArray, List.set_cons_zero, List.set_cons_succ]
    refine rb_keep 15 rfl (by kernel_rfl) (by kernel_rfl) (by first | assumption | exact hBB _ _) (fun K hK => ?_)
    go_simp
    refine hK.out _ _ (below_two (by omega) _ _ _ _) ?_
    clear hK K
    try simp only [Act.put, List.setIfInBounds_toArray, List.set_cons_zero, List.set_cons_succ]
    refine rb_done (by first | assumption | exact hBB _ _) (by kernel_rfl) ?_
    skip
    have hGx := (Arr.new w 34 [.int .i64 0, .int .i64 0, .int .i64 0, .int .u32 0]).below hwx (by simp)
    have hGl := hGx.lt
    have HGX := Lib.hid hGx
    have xg0 := hGx.cell 0
    have xf0 := hGx.frozen 0
    have xg1 := hGx.cell 1
    have xf1 := hGx.frozen 1
    have xg2 := hGx.cell 2
    have xf2 := hGx.frozen 2
    have xg3 := hGx.cell 3
    have xf3 := hGx.frozen 3
    simp only [List.getElem?_cons_zero, List.getElem?_cons_succ] at xg0 xg1 xg2 xg3
    have hGA : ∀ o1 o2, Arr ((wx.alloc o1).alloc o2) w.heap.size 34 [.int .i64 0, .int .i64 0, .int .i64 0, .int .u32 0] := fun o1 o2 => (((Arr.new w 34 [.int .i64 0, .int .i64 0, .int .i64 0, .int .u32 0]).below hwx (by simp)).alloc o1).alloc o2
    have ug0 := (hGA (.cells #[.int .i64 xs, .int .i64 xb, .int .i64 xw, .int .u32 xl] 34) (.cells #[.int .i64 ys, .int .i64 yb, .int .i64 yw, .int .u32 yl] 34)).cell 0
    have uf0 := (hGA (.cells #[.int .i64 xs, .int .i64 xb, .int .i64 xw, .int .u32 xl] 34) (.cells #[.int .i64 ys, .int .i64 yb, .int .i64 yw, .int .u32 yl] 34)).frozen 0
    have ug1 := (hGA (.cells #[.int .i64 xs, .int .i64 xb, .int .i64 xw, .int .u32 xl] 34) (.cells #[.int .i64 ys, .int .i64 yb, .int .i64 yw, .int .u32 yl] 34)).cell 1
    have uf1 := (hGA (.cells #[.int .i64 xs, .int .i64 xb, .int .i64 xw, .int .u32 xl] 34) (.cells #[.int .i64 ys, .int .i64 yb, .int .i64 yw, .int .u32 yl] 34)).frozen 1
    have ug2 := (hGA (.cells #[.int .i64 xs, .int .i64 xb, .int .i64 xw, .int .u32 xl] 34) (.cells #[.int .i64 ys, .int .i64 yb, .int .i64 yw, .int .u32 yl] 34)).cell 2
    have uf2 := (hGA (.cells #[.int .i64 xs, .int .i64 xb, .int .i64 xw, .int .u32 xl] 34) (.cells #[.int .i64 ys, .int .i64 yb, .int .i64 yw, .int .u32 yl] 34)).frozen 2
    have ug3 := (hGA (.cells #[.int .i64 xs, .int .i64 xb, .int .i64 xw, .int .u32 xl] 34) (.cells #[.int .i64 ys, .int .i64 yb, .int .i64 yw, .int .u32 yl] 34)).cell 3
    have uf3 := (hGA (.cells #[.int .i64 xs, .int .i64 xb, .int .i64 xw, .int .u32 xl] 34) (.cells #[.int .i64 ys, .int .i64 yb, .int .i64 yw, .int .u32 yl] 34)).frozen 3
    have vg0 := (hGA (.cells #[.int .i64 ys, .int .i64 yb, .int .i64 yw, .int .u32 yl] 34) (.cells #[.int .i64 xs, .int .i64 xb, .int .i64 xw, .int .u32 xl] 34)).cell 0
    have vf0 := (hGA (.cells #[.int .i64 ys, .int .i64 yb, .int .i64 yw, .int .u32 yl] 34) (.cells #[.int .i64 xs, .int .i64 xb, .int .i64 xw, .int .u32 xl] 34)).frozen 0
    have vg1 := (hGA (.cells #[.int .i64 ys, .int .i64 yb, .int .i64 yw, .int .u32 yl] 34) (.cells #[.int .i64 xs, .int .i64 xb, .int .i64 xw, .int .u32 xl] 34)).cell 1
    have vf1 := (hGA (.cells #[.int .i64 ys, .int .i64 yb, .int .i64 yw, .int .u32 yl] 34) (.cells #[.int .i64 xs, .int .i64 xb, .int .i64 xw, .int .u32 xl] 34)).frozen 1
    have vg2 := (hGA (.cells #[.int .i64 ys, .int .i64 yb, .int .i64 yw, .int .u32 yl] 34) (.cells #[.int .i64 xs, .int .i64 xb, .int .i64 xw, .int .u32 xl] 34)).cell 2
    have vf2 := (hGA (.cells #[.int .i64 ys, .int .i64 yb, .int .i64 yw, .int .u32 yl] 34) (.cells #[.int .i64 xs, .int .i64 xb, .int .i64 xw, .int .u32 xl] 34)).frozen 2
    have vg3 := (hGA (.cells #[.int .i64 ys, .int .i64 yb, .int .i64 yw, .int .u32 yl] 34) (.cells #[.int .i64 xs, .int .i64 xb, .int .i64 xw, .int .u32 xl] 34)).cell 3
    have vf3 := (hGA (.cells #[.int .i64 ys, .int .i64 yb, .int .i64 yw, .int .u32 yl] 34) (.cells #[.int .i64 xs, .int .i64 xb, .int .i64 xw, .int .u32 xl] 34)).frozen 3
    simp only [List.getElem?_cons_zero, List.getElem?_cons_succ] at ug0 ug1 ug2 ug3 vg0 vg1 vg2 vg3
    clear hGA
    go_wp2_with fail
    all_goals
    refine ret_cand (g := w.heap.size) (v := .bool true) rfl ((((((HGX.out.set_ 0 _).set_ 1 _).set_ 2 _).set_ 3 _).alloc _).alloc _) rfl rfl rfl rfl rfl rfl rfl ⟨?_, hbx.trans (((((((Mod.refl w.heap.size wx).set 0 _).set 1 _).set 2 _).set 3 _).below (Nat.le_of_lt hGl)).alloc (by simp [World.setCell]; omega) _ |>.alloc (by simp [World.setCell]; omega) _)⟩
    simp only [Cd.agg]
  · go_simp
    first | refine hK.out _ _ ((Below.refl _ wx).alloc hBwx _) ?_ | refine hK.out _ _ ((Below.refl _ (wx.alloc (.cells #[.int .i64 0, .int .i64 0, .int .i64 0, .int .u32 0] 34))).alloc hB12 _) ?_
    clear hK K
    try simp only [Act.put, List.setIfInBounds_toArray, List.set_cons_zero, List.set_cons_succ]
    refine rb_keep 12 rfl (by kernel_rfl) (by kernel_rfl) (by first | assumption | exact hBB _ _) (fun K hK => ?_)
    go_simp
    first | refine hK.out _ _ ((Below.refl _ wx).alloc hBwx _) ?_ | refine hK.out _ _ ((Below.refl _ (wx.alloc (.cells #[.int .i64 0, .int .i64 0, .int .i64 0, .int .u32 0] 34))).alloc hB12 _) ?_
    clear hK K
    try simp only [Act.put, List.setIfInBounds_toArray, List.set_cons_zero, List.set_cons_succ]
    refine rb_keep 14 rfl (by kernel_rfl) (by kernel_rfl) (by first | assumption | exact hBB _ _) (fun K hK => ?_)
    go_simp
    refine hK.out _ _ (below_two (by omega) _ _ _ _) ?_
    clear hK K
    try simp only [Act.put, List.setIfInBounds_toArray, List.set_cons_zero, List.set_cons_succ]
    refine rb_keep 15 rfl (by kernel_rfl) (by kernel_rfl) (by first | assumption | exact hBB _ _) (fun K hK => ?_)
    go_simp
    refine hK.out _ _ (below_two (by omega) _ _ _ _) ?_
    clear hK K
    try simp only [Act.put, List.setIfInBounds_toArray, List.set_cons_zero, List.set_cons_succ]
    refine rb_done (by first | assumption | exact hBB _ _) (by kernel_rfl) ?_
    skip
    have hGx := (Arr.new w 34 [.int .i64 0, .int .i64 0, .int .i64 0, .int .u32 0]).below hwx (by simp)
    have hGl := hGx.lt
    have HGX := Lib.hid hGx
    have xg0 := hGx.cell 0
    have xf0 := hGx.frozen 0
    have xg1 := hGx.cell 1
    have xf1 := hGx.frozen 1
    have xg2 := hGx.cell 2
    have xf2 := hGx.frozen 2
    have xg3 := hGx.cell 3
    have xf3 := hGx.frozen 3
    simp only [List.getElem?_cons_zero, List.getElem?_cons_succ] at xg0 xg1 xg2 xg3
    have hGA : ∀ o1 o2, Arr ((wx.alloc o1).alloc o2) w.heap.size 34 [.int .i64 0, .int .i64 0, .int .i64 0, .int .u32 0] := fun o1 o2 => (((Arr.new w 34 [.int .i64 0, .int .i64 0, .int .i64 0, .int .u32 0]).below hwx (by simp)).alloc o1).alloc o2
    have ug0 := (hGA (.cells #[.int .i64 xs, .int .i64 xb, .int .i64 xw, .int .u32 xl] 34) (.cells #[.int .i64 ys, .int .i64 yb, .int .i64 yw, .int .u32 yl] 34)).cell 0
    have uf0 := (hGA (.cells #[.int .i64 xs, .int .i64 xb, .int .i64 xw, .int .u32 xl] 34) (.cells #[.int .i64 ys, .int .i64 yb, .int .i64 yw, .int .u32 yl] 34)).frozen 0
    have ug1 := (hGA (.cells #[.int .i64 xs, .int .i64 xb, .int .i64 xw, .int .u32 xl] 34) (.cells #[.int .i64 ys, .int .i64 yb, .int .i64 yw, .int .u32 yl] 34)).cell 1
    have uf1 := (hGA (.cells #[.int .i64 xs, .int .i64 xb, .int .i64 xw, .int .u32 xl] 34) (.cells #[.int .i64 ys, .int .i64 yb, .int .i64 yw, .int .u32 yl] 34)).frozen 1
    have ug2 := (hGA (.cells #[.int .i64 xs, .int .i64 xb, .int .i64 xw, .int .u32 xl] 34) (.cells #[.int .i64 ys, .int .i64 yb, .int .i64 yw, .int .u32 yl] 34)).cell 2
    have uf2 := (hGA (.cells #[.int .i64 xs, .int .i64 xb, .int .i64 xw, .int .u32 xl] 34) (.cells #[.int .i64 ys, .int .i64 yb, .int .i64 yw, .int .u32 yl] 34)).frozen 2
    have ug3 := (hGA (.cells #[.int .i64 xs, .int .i64 xb, .int .i64 xw, .int .u32 xl] 34) (.cells #[.int .i64 ys, .int .i64 yb, .int .i64 yw, .int .u32 yl] 34)).cell 3
    have uf3 := (hGA (.cells #[.int .i64 xs, .int .i64 xb, .int .i64 xw, .int .u32 xl] 34) (.cells #[.int .i64 ys, .int .i64 yb, .int .i64 yw, .int .u32 yl] 34)).frozen 3
    have vg0 := (hGA (.cells #[.int .i64 ys, .int .i64 yb, .int .i64 yw, .int .u32 yl] 34) (.cells #[.int .i64 xs, .int .i64 xb, .int .i64 xw, .int .u32 xl] 34)).cell 0
    have vf0 := (hGA (.cells #[.int .i64 ys, .int .i64 yb, .int .i64 yw, .int .u32 yl] 34) (.cells #[.int .i64 xs, .int .i64 xb, .int .i64 xw, .int .u32 xl] 34)).frozen 0
    have vg1 := (hGA (.cells #[.int .i64 ys, .int .i64 yb, .int .i64 yw, .int .u32 yl] 34) (.cells #[.int .i64 xs, .int .i64 xb, .int .i64 xw, .int .u32 xl] 34)).cell 1
    have vf1 := (hGA (.cells #[.int .i64 ys, .int .i64 yb, .int .i64 yw, .int .u32 yl] 34) (.cells #[.int .i64 xs, .int .i64 xb, .int .i64 xw, .int .u32 xl] 34)).frozen 1
    have vg2 := (hGA (.cells #[.int .i64 ys, .int .i64 yb, .int .i64 yw, .int .u32 yl] 34) (.cells #[.int .i64 xs, .int .i64 xb, .int .i64 xw, .int .u32 xl] 34)).cell 2
    have vf2 := (hGA (.cells #[.int .i64 ys, .int .i64 yb, .int .i64 yw, .int .u32 yl] 34) (.cells #[.int .i64 xs, .int .i64 xb, .int .i64 xw, .int .u32 xl] 34)).frozen 2
    have vg3 := (hGA (.cells #[.int .i64 ys, .int .i64 yb, .int .i64 yw, .int .u32 yl] 34) (.cells #[.int .i64 xs, .int .i64 xb, .int .i64 xw, .int .u32 xl] 34)).cell 3
    have vf3 := (hGA (.cells #[.int .i64 ys, .int .i64 yb, .int .i64 yw, .int .u32 yl] 34) (.cells #[.int .i64 xs, .int .i64 xb, .int .i64 xw, .int .u32 xl] 34)).frozen 3
    simp only [List.getElem?_cons_zero, List.getElem?_cons_succ] at ug0 ug1 ug2 ug3 vg0 vg1 vg2 vg3
    clear hGA
    go_wp2_with fail
    all_goals
    refine ret_cand (g := w.heap.size) (v := .bool true) rfl ((((((HGX.out.set_ 0 _).set_ 1 _).set_ 2 _).set_ 3 _).alloc _).alloc _) rfl rfl rfl rfl rfl rfl rfl ⟨?_, hbx.trans (((((((Mod.refl w.heap.size wx).set 0 _).set 1 _).set 2 _).set 3 _).below (Nat.le_of_lt hGl)).alloc (by simp [World.setCell]; omega) _ |>.alloc (by simp [World.setCell]; omega) _)⟩
    simp only [Cd.agg]
end Go.Proofs.Ytakmcbgfglnanaa
