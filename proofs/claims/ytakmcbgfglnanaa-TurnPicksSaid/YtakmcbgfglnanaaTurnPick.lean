
/- turn.Turn's methods, and the reference's Pick, by contracts. Conditions: none but bounds of the slots. -/
import Derived.Test.YtakmcbgfglnanaaTurnMath
import Derived.Test.YtakmcbgfglnanaaTurnDraw
namespace Go.Proofs.Ytakmcbgfglnanaa
open Go.RowKit

def TurnAt (w : World) (g : Nat) (next : Int) : Prop := Hid (Arr w g 26 [.int .i64 next])
theorem TurnAt.lt {w g n} (h : TurnAt w g n) : g < w.heap.size := h.out.lt
theorem TurnAt.below {w w' g n} (h : TurnAt w g n) (hb : Below w.heap.size w w') : TurnAt w' g n := h.out.below hb h.out.lt

theorem Mod.set_new {g b : Nat} {a w : World} (h : Mod g a w) (hb : a.heap.size ≤ b) (i : Nat) (u : Value) : Mod g a (w.setCell ⟨b, i, none⟩ u) :=
  ⟨h.os, h.tape, h.output, by have := h.size; simp [World.setCell]; omega, fun k hk hne => (Below.heap_setCell w ⟨b, i, none⟩ u k (by simp; omega)).trans (h.block k hk hne)⟩
def PickPost (w : World) (g : Nat) (l : List Cd) (next : Int) (e : Ending) (w' : World) : Prop :=
  e = .returned (.tuple #[(cdAt l (pickN l next)).agg, .bool true]) ∧ TurnAt w' g ((cdAt l (pickN l next)).slot + 1) ∧ Mod g w w'

set_option maxRecDepth 100000 in
theorem turn_pick_none_c (g : Nat) (A : Option Addr) (c : Nat) (w : World) :
    Calls Try.prog 21 #[.pointer (some ⟨g, 0, none⟩), .slice A 0 c] w fun e w' => e = .returned (.tuple #[.agg #[.int .i64 0, .int .i64 0, .int .i64 0, .int .u32 0], .bool false]) ∧ Below w.heap.size w w' := by
  go_enter Try.func21, Try.ntmps21
  go_wp2
  refine ret_cand (g := w.heap.size) (v := .bool false) rfl (Arr.new w 34 [.int .i64 0, .int .i64 0, .int .i64 0, .int .u32 0]) rfl rfl rfl rfl rfl rfl rfl ⟨rfl, (Below.refl _ _).alloc (Nat.le_refl _) _⟩

set_option maxRecDepth 100000 in
set_option maxHeartbeats 1000000 in
theorem turn_pick_c (g : Nat) (A : Option Addr) (c : Nat) (l : List Cd) (next : Int) (w : World) (hv : View w w.heap.size A (cdsV l)) (hn : l.length ≤ 1000000) (hn0 : 0 < l.length) (hT : TurnAt w g next)
    (hs : ∀ j, j < l.length → 0 ≤ (cdAt l j).slot ∧ (cdAt l j).slot ≤ 4095) (hx : 0 ≤ next ∧ next ≤ 4096) :
    Calls Try.prog 21 #[.pointer (some ⟨g, 0, none⟩), .slice A l.length c] w (PickPost w g l next) := by
  obtain ⟨bb, o, rfl, hbb, hcell⟩ := hv (by intro e; have := congrArg List.length e; rw [cdsV_length] at this; simp at this; omega)
  have hz := cdsV_get l 0 _ (cdAt_get l 0 hn0)
  have z0 := hcell _ _ hz.1
  have z1 := hcell _ _ hz.2.1
  have z2 := hcell _ _ hz.2.2.1
  have z3 := hcell _ _ hz.2.2.2
  simp only [Nat.zero_mul, Nat.zero_add, Nat.add_zero] at z0 z1 z2 z3
  have h2 : ((l.length : Int) == 0) = false := by rw [beq_eq_false_iff_ne]; omega
  have h3 : ¬ l.length = 0 := by omega
  have h4 : (0 : Int) < (l.length : Int) ∧ (l.length : Int) ≤ 1000000 := by omega
  have hgl := hT.lt
  have HCELL := Lib.hid hcell
  have HS := Lib.hid hs
  have HZ0 := Lib.hid (hs 0 hn0)
  have HZ : ∃ x, Hid (cdAt l 0 = x) := ⟨_, Lib.hid rfl⟩
  obtain ⟨x0, HZ⟩ := HZ
  rw [HZ.out] at z0 z1 z2 z3 HZ0
  obtain ⟨zs, zb, zw, zl⟩ := x0
  simp only at z0 z1 z2 z3 HZ0
  clear hz hcell hs hv
  go_enter Try.func21, Try.ntmps21
  go_wp2
  go_loopw [22] (fun i wr => ∃ k : Nat, k ≤ l.length ∧ i = .int .i64 (k : Int) ∧ Hid (∀ j, j < k → (cdAt l j).slot < next) ∧ Hid (Arr wr w.heap.size 34 [.int .i64 0, .int .i64 0, .int .i64 0, .int .u32 0]) ∧ Hid (Arr wr (w.heap.size + 1) 34 [.int .i64 zs, .int .i64 zb, .int .i64 zw, .int .u32 zl]) ∧ Below w.heap.size w wr) (fun i _ => l.length - (intOf i).toNat)
  case atStart => exact ⟨0, Nat.zero_le _, rfl, Lib.hid (fun j hj => absurd hj (by omega)), hid_arr ((Arr.new w 34 [.int .i64 0, .int .i64 0, .int .i64 0, .int .u32 0]).alloc _), hid_arr (by have := Arr.new (w.alloc (.cells #[.int .i64 0, .int .i64 0, .int .i64 0, .int .u32 0] 34)) 34 [.int .i64 zs, .int .i64 zb, .int .i64 zw, .int .u32 zl]; simpa using this), ((Below.refl _ _).alloc (Nat.le_refl _) _).alloc (by simp) _⟩
  case round =>
    rename_i wr
    obtain ⟨k, hk, rfl, hlo, hR, hC, hbel⟩ := hrel
    have hws := hbel.size
    have hR1 := hR.out.lt
    have hC1 := hC.out.lt
    have hTr : TurnAt wr g next := hT.below hbel
    by_cases hlt : k < l.length
    · have hg := cdsV_get l k _ (cdAt_get l k hlt)
      have hb := fun p hp => hbel.cell (p := p) hp
      have y0 := (hbel.cell (p := ⟨bb, o + k * 4, none⟩) (by simpa using hbb)).trans (HCELL.out _ _ hg.1)
      have y1 := (hbel.cell (p := ⟨bb, o + k * 4 + 1, none⟩) (by simpa using hbb)).trans (HCELL.out _ _ hg.2.1)
      have y2 := (hbel.cell (p := ⟨bb, o + k * 4 + 2, none⟩) (by simpa using hbb)).trans (HCELL.out _ _ hg.2.2.1)
      have y3 := (hbel.cell (p := ⟨bb, o + k * 4 + 3, none⟩) (by simpa using hbb)).trans (HCELL.out _ _ hg.2.2.2)
      have HK := Lib.hid (HS.out k hlt)
      obtain ⟨xk, HX⟩ : ∃ x, Hid (cdAt l k = x) := ⟨_, Lib.hid rfl⟩
      rw [HX.out] at y0 y1 y2 y3 HK
      obtain ⟨s, sb, sw, sl⟩ := xk
      simp only at y0 y1 y2 y3 HK
      have hk0 : (0 : Int) ≤ (k : Int) := by omega
      have hk1 : (k : Int) < (l.length : Int) := by omega
      clear hg hb
      have hA8 := hid_arr (Arr.new wr 34 [.int .i64 s, .int .i64 sb, .int .i64 sw, .int .u32 sl])
      have hb8 : Below w.heap.size w (wr.alloc (.cells #[.int .i64 s, .int .i64 sb, .int .i64 sw, .int .u32 sl] 34)) := hbel.alloc hws _
      have hR8 := hid_arr (hR.out.alloc (.cells #[.int .i64 s, .int .i64 sb, .int .i64 sw, .int .u32 sl] 34))
      have hC8 := hid_arr (hC.out.alloc (.cells #[.int .i64 s, .int .i64 sb, .int .i64 sw, .int .u32 sl] 34))
      have hT8 : TurnAt (wr.alloc (.cells #[.int .i64 s, .int .i64 sb, .int .i64 sw, .int .u32 sl] 34)) g next := hT.below hb8
      clear hR hC hTr
      go_wp2_with fail
      refine rb_start (by kernel_rfl) (fun wx hwx => ?_)
      have hA := (show Arr _ wr.heap.size 34 [.int .i64 s, .int .i64 sb, .int .i64 sw, .int .u32 sl] from hA8.out).below hwx (by simp)
      have hR := hid_arr (hR8.out.below hwx hR8.out.lt)
      have hC := hid_arr (hC8.out.below hwx hC8.out.lt)
      have hTr := hT8.below hwx
      have hbx := hb8.trans (hwx.mono hb8.size)
      have k0 := hA.cell 0
      have k1 := hA.cell 1
      have k2 := hA.cell 2
      have k3 := hA.cell 3
      simp only [List.getElem?_cons_zero, List.getElem?_cons_succ] at k0 k1 k2 k3
      have hAl := hA.lt
      have hRl := hR.out.lt
      have hCl := hC.out.lt
      have hTl := hTr.lt
      have hxs := hbx.size
      have r0 := hR.out.cell 0
      have r1 := hR.out.cell 1
      have r2 := hR.out.cell 2
      have r3 := hR.out.cell 3
      have rf0 := hR.out.frozen 0
      have rf1 := hR.out.frozen 1
      have rf2 := hR.out.frozen 2
      have rf3 := hR.out.frozen 3
      have c0 := hC.out.cell 0
      have c1 := hC.out.cell 1
      have c2 := hC.out.cell 2
      have c3 := hC.out.cell 3
      have cf0 := hC.out.frozen 0
      have cf1 := hC.out.frozen 1
      have cf2 := hC.out.frozen 2
      have cf3 := hC.out.frozen 3
      have t0 := hTr.out.cell 0
      have tf0 := hTr.out.frozen 0
      simp only [List.getElem?_cons_zero, List.getElem?_cons_succ] at r0 r1 r2 r3 c0 c1 c2 c3 t0
      clear hA8 hR8 hC8 hT8 hb8 hA
      refine rb_take 0 (some 26) (v := ?_) rfl rfl (by kernel_rfl) (by kernel_rfl) (by kernel_rfl) (by kernel_rfl) ?_ ?_
      rotate_left
      focus (intro w' hw'; go_simp; try with_reducible rfl)
      try simp only [Act.put, List.setIfInBounds_toArray, List.set_cons_zero, List.set_cons_succ]
      refine rb_take 1 (some 27) (v := ?_) rfl rfl (by kernel_rfl) (by kernel_rfl) (by kernel_rfl) (by kernel_rfl) ?_ ?_
      rotate_left
      focus (intro w' hw'; have q := (hw'.cell (p := ⟨wr.heap.size, 0, none⟩) (by simp; omega)).trans k0; go_simp; try with_reducible rfl)
      try simp only [Act.put, List.setIfInBounds_toArray, List.set_cons_zero, List.set_cons_succ]
      refine rb_take 2 (some 28) (v := ?_) rfl rfl (by kernel_rfl) (by kernel_rfl) (by kernel_rfl) (by kernel_rfl) ?_ ?_
      rotate_left
      focus (intro w' hw'; go_simp; try with_reducible rfl)
      try simp only [Act.put, List.setIfInBounds_toArray, List.set_cons_zero, List.set_cons_succ]
      refine rb_take 3 (some 29) (v := ?_) rfl rfl (by kernel_rfl) (by kernel_rfl) (by kernel_rfl) (by kernel_rfl) ?_ ?_
      rotate_left
      focus (intro w' hw'; go_simp; try with_reducible rfl)
      try simp only [Act.put, List.setIfInBounds_toArray, List.set_cons_zero, List.set_cons_succ]
      refine rb_take 4 (some 30) (v := ?_) rfl rfl (by kernel_rfl) (by kernel_rfl) (by kernel_rfl) (by kernel_rfl) ?_ ?_
      rotate_left
      focus (intro w' hw'; go_simp; try with_reducible rfl)
      try simp only [Act.put, List.setIfInBounds_toArray, List.set_cons_zero, List.set_cons_succ]
      refine rb_take 5 (some 31) (v := ?_) rfl rfl (by kernel_rfl) (by kernel_rfl) (by kernel_rfl) (by kernel_rfl) ?_ ?_
      rotate_left
      focus (intro w' hw'; have q := (hw'.cell (p := ⟨g, 0, none⟩) (by simp; omega)).trans t0; go_simp; try with_reducible rfl)
      try simp only [Act.put, List.setIfInBounds_toArray, List.set_cons_zero, List.set_cons_succ]
      refine rb_take 6 (some 32) (v := ?_) rfl rfl (by kernel_rfl) (by kernel_rfl) (by kernel_rfl) (by kernel_rfl) ?_ ?_
      rotate_left
      focus (intro w' hw'; go_simp; try with_reducible rfl)
      try simp only [Act.put, List.setIfInBounds_toArray, List.set_cons_zero, List.set_cons_succ]
      refine rb_done (Nat.le_refl _) (by kernel_rfl) ?_
      by_cases hnx : next ≤ s
      · have HP := Lib.hid (show pickN l next = k from pickN_hit l next k hlt hlo.out (by rw [HX.out]; exact hnx))
        obtain ⟨hk2, hk3⟩ := HK.out
        go_wp2_with fail
        refine ret_cand (g := w.heap.size) (v := .bool true) rfl ((((((((((hR.out.far (by simp) _).far (by simp) _).far (by simp) _).far (by simp) _).far (by simp; omega) _)).set_ 0 _).set_ 1 _).set_ 2 _).set_ 3 _) rfl rfl rfl rfl rfl rfl rfl ⟨?_, ?_, ?_⟩
        · rw [HP.out, HX.out]; rfl
        · rw [HP.out, HX.out]
          exact hid_arr ((((((((((hTr.out.far (by simp; omega) _).far (by simp; omega) _).far (by simp; omega) _).far (by simp; omega) _).set_ 0 _).far (by simp; omega) _).far (by simp; omega) _).far (by simp; omega) _).far (by simp; omega) _))
        · exact ((((((((((Mod.of_below hbx).set_new (by omega) _ _).set_new (by omega) _ _).set_new (by omega) _ _).set_new (by omega) _ _).set _ _).set_new (by omega) _ _).set_new (by omega) _ _).set_new (by omega) _ _).set_new (by omega) _ _)
      · have hlo2 := Lib.hid (show ∀ j, j < k + 1 → (cdAt l j).slot < next from fun j hj => by
          rcases Nat.lt_or_ge j k with h | h
          · exact hlo.out j h
          · obtain rfl : j = k := by omega
            rw [HX.out]
            show s < next
            omega)
        go_wp2_with fail
        go_roundw
        case rel => exact ⟨k + 1, by omega, by go_num, hlo2, hR, hC, hbx⟩
        case measure => (simp [intOf] <;> omega)
    · have HP := Lib.hid (show pickN l next = 0 from pickN_none l next (fun j hj => hlo.out j (by omega)))
      obtain ⟨hz2, hz3⟩ := HZ0.out
      have r0 := hR.out.cell 0
      have r1 := hR.out.cell 1
      have r2 := hR.out.cell 2
      have r3 := hR.out.cell 3
      have rf0 := hR.out.frozen 0
      have rf1 := hR.out.frozen 1
      have rf2 := hR.out.frozen 2
      have rf3 := hR.out.frozen 3
      have c0 := hC.out.cell 0
      have c1 := hC.out.cell 1
      have c2 := hC.out.cell 2
      have c3 := hC.out.cell 3
      have cf0 := hC.out.frozen 0
      have cf1 := hC.out.frozen 1
      have cf2 := hC.out.frozen 2
      have cf3 := hC.out.frozen 3
      have t0 := hTr.out.cell 0
      have tf0 := hTr.out.frozen 0
      simp only [List.getElem?_cons_zero, List.getElem?_cons_succ] at r0 r1 r2 r3 c0 c1 c2 c3 t0
      go_wp2_with fail
      refine ret_cand (g := w.heap.size) (v := .bool true) rfl (((((hR.out.far (by simp; omega) _).set_ 0 _).set_ 1 _).set_ 2 _).set_ 3 _) rfl rfl rfl rfl rfl rfl rfl ⟨?_, ?_, ?_⟩
      · rw [HP.out, HZ.out]; rfl
      · rw [HP.out, HZ.out]
        exact hid_arr (((((hTr.out.set_ 0 _).far (by simp; omega) _).far (by simp; omega) _).far (by simp; omega) _).far (by simp; omega) _)
      · exact ((((((Mod.of_below hbel).set _ _).set_new (by omega) _ _).set_new (by omega) _ _).set_new (by omega) _ _).set_new (by omega) _ _)
end Go.Proofs.Ytakmcbgfglnanaa
