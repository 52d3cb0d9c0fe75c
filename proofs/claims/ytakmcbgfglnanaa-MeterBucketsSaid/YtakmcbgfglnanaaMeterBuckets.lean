
/- Proved: MeterBuckets returns true for every rate, size and list of calls, and changes no memory that was there. Conditions: none. -/
import Derived.Test.YtakmcbgfglnanaaMeterMath
import Derived.Test.YtakmcbgfglnanaaMeterRef
import Derived.Test.YtakmcbgfglnanaaAppend
import Derived.Test.YtakmcbgfglnanaaKit
namespace Go.Proofs.Ytakmcbgfglnanaa.MeterBuckets
open Go.RowKit

def actV (l : List (Int × Nat × Nat)) : List Value := l.flatMap fun p => [.int .i64 p.1, .int .u64 (p.2.1 : Int), .int .u64 (p.2.2 : Int)]
def Acts (l : List (Int × Nat × Nat)) : Prop := ∀ p ∈ l, U64 p.2.1 ∧ U64 p.2.2
theorem actV_get (l : List (Int × Nat × Nat)) (k : Nat) (p : Int × Nat × Nat) (h : l[k]? = some p) : (actV l)[k * 3]? = some (.int .i64 p.1) ∧ (actV l)[k * 3 + 1]? = some (.int .u64 (p.2.1 : Int)) ∧ (actV l)[k * 3 + 2]? = some (.int .u64 (p.2.2 : Int)) := by
  induction l generalizing k with
  | nil => simp at h
  | cons q l ih =>
    cases k with
    | zero => simp at h; subst h; simp [actV]
    | succ k =>
      have := ih k (by simpa using h)
      have e : actV (q :: l) = .int .i64 q.1 :: .int .u64 (q.2.1 : Int) :: .int .u64 (q.2.2 : Int) :: actV l := rfl
      rw [e, show (k + 1) * 3 = k * 3 + 1 + 1 + 1 from by omega, show k * 3 + 1 + 1 + 1 + 1 = k * 3 + 1 + 1 + 1 + 1 from rfl, show k * 3 + 1 + 1 + 1 + 2 = k * 3 + 2 + 1 + 1 + 1 from by omega]
      simpa using this
def RefAt (w : World) (g r s l t : Nat) : Prop := Hid (Arr w g 49 [.int .u64 (r : Int), .int .u64 (s : Int), .int .u64 (l : Int), .int .u64 (t : Int)])
theorem RefAt.lt {w g r s l t} (h : RefAt w g r s l t) : g < w.heap.size := h.out.lt
theorem RefAt.below {w w' g r s l t} (h : RefAt w g r s l t) (hb : Below w.heap.size w w') : RefAt w' g r s l t := h.out.below hb h.out.lt
theorem RefAt.mod {w w' g b r s l t} (h : RefAt w g r s l t) (hm : Mod b w w') (hne : g ≠ b) : RefAt w' g r s l t := hid_arr (hm.arr h.out hne)
def put4 (w : World) (g : Nat) (a b c d : Value) : World := (((w.setCell ⟨g, 0, none⟩ a).setCell ⟨g, 1, none⟩ b).setCell ⟨g, 2, none⟩ c).setCell ⟨g, 3, none⟩ d
theorem put4_arr {w : World} {g : Nat} {t : TypeId} {x y z u : Value} (h : Arr w g t [x, y, z, u]) (a b c d : Value) : Arr (put4 w g a b c d) g t [a, b, c, d] := (((h.set_ 0 a).set_ 1 b).set_ 2 c).set_ 3 d
theorem put4_far {w : World} {g g' : Nat} {t : TypeId} {l : List Value} (h : Arr w g' t l) (hne : g' ≠ g) (a b c d : Value) : Arr (put4 w g a b c d) g' t l := (((h.far (by exact hne) a).far (by exact hne) b).far (by exact hne) c).far (by exact hne) d
theorem put4_below {B : Nat} {w0 w : World} {g : Nat} (h : Below B w0 w) (hB : B ≤ g) (a b c d : Value) : Below B w0 (put4 w g a b c d) := (((h.setCell (by exact hB) a).setCell (by exact hB) b).setCell (by exact hB) c).setCell (by exact hB) d
theorem below_lit {B : Nat} {w : World} (h : B ≤ w.heap.size) (o1 o2 : Obj) : Below B (w.alloc o1) (w.alloc o2) :=
  ⟨rfl, rfl, rfl, by simp, fun k hk => by rw [heap_alloc_old _ _ (show k < w.heap.size by omega), heap_alloc_old _ _ (show k < w.heap.size by omega)]⟩
theorem take_b {w : World} {g r s l t n now : Nat} {bb : Bool} {lv2 t2 : Nat} (hb : bb = decide (n ≤ refL r s l t now)) (h2 : refL r s l t now - (if bb then n else 0) = lv2) (h3 : max t now = t2) {e : Ending} {w' : World} (h : TakePost w g r s l t n now e w') :
    e = .returned (.bool bb) ∧ BktAt w' g r s lv2 t2 ∧ Mod g w w' := by
  subst h3
  rcases h with ⟨h1, rfl, h4, h5⟩ | ⟨h1, rfl, h4, h5⟩
  · have : bb = false := by rw [hb]; exact decide_eq_false (by omega)
    subst this
    simp at h2
    subst h2
    exact ⟨rfl, h4, h5⟩
  · have : bb = true := by rw [hb]; exact decide_eq_true h1
    subst this
    simp at h2
    subst h2
    exact ⟨rfl, h4, h5⟩
theorem refL_again (r s l t now : Nat) (lv : Nat) : refL r s lv (max t now) now = lv := by unfold refL; rw [if_pos (by omega)]

set_option maxRecDepth 100000 in
set_option maxHeartbeats 4000000 in
theorem walk_ (r s : Nat) (A : Option Addr) (n c : Nat) (l : List (Int × Nat × Nat)) (w : World) (hr : U64 r) (hs : U64 s) (hn : l.length = n) (hv : View w w.heap.size A (actV l)) (hl : Acts l) (hnc : n ≤ c) (hcm : c ≤ maxLen) :
    Calls Try.prog 4 #[.int .u64 (r : Int), .int .u64 (s : Int), .slice A n c] w fun e w' => e = .returned (.bool true) ∧ Below w.heap.size w w' := by
  subst hn
  unfold maxLen at hcm
  have hr1 : (0 : Int) ≤ (r : Int) ∧ (r : Int) < 18446744073709551616 := by have := hr.out; omega
  have hs1 : (0 : Int) ≤ (s : Int) ∧ (s : Int) < 18446744073709551616 := by have := hs.out; omega
  by_cases hbad : 2147483648 < (r : Int) ∨ (s : Int) < 1 ∨ 2147483648 < (s : Int)
  · have HB := Lib.hid hbad
    have hc1 : decide ((2147483648 : Int) < (r : Int)) = true ∨ (decide ((2147483648 : Int) < (r : Int)) = false ∧ decide ((s : Int) < 1) = true) ∨ (decide ((2147483648 : Int) < (r : Int)) = false ∧ decide ((s : Int) < 1) = false ∧ decide ((2147483648 : Int) < (s : Int)) = true) := by
      simp only [decide_eq_true_eq, decide_eq_false_iff_not]; omega
    clear hbad
    rcases hc1 with h1 | ⟨h1, h2⟩ | ⟨h1, h2, h3⟩
    all_goals
      simp only [decide_eq_true_eq, decide_eq_false_iff_not] at *
      go_enter Try.func4, Try.ntmps4
      go_wp2_with fail
      refine (meter_awake_c _).mono ?_
      rintro e w1 ⟨rfl, hb1⟩
      go_wp2_with fail
      refine (new_bad_c _ _ w1 hr1 hs1 HB.out).mono ?_
      rintro e w2 ⟨rfl, rfl⟩
      go_wp2_with fail
      refine (none_take_c _ _ _).mono ?_
      rintro e w2 ⟨rfl, rfl⟩
      go_wp2_with fail
      refine (none_level_c _ _).mono ?_
      rintro e w2 ⟨rfl, rfl⟩
      go_wp2_with fail
      refine (meter_awake_c _).mono ?_
      rintro e w2 ⟨rfl, hb2⟩
      go_wp2
      go_ret
      exact ⟨rfl, hb1.trans (hb2.mono hb1.size)⟩
  · have hg1 : ¬ (2147483648 : Int) < (r : Int) := by omega
    have hg2 : ¬ (s : Int) < 1 := by omega
    have hg3 : ¬ (2147483648 : Int) < (s : Int) := by omega
    have HR := Lib.hid (show r ≤ 2147483648 ∧ s ≤ 2147483648 ∧ 1 ≤ s by omega)
    clear hbad
    go_enter Try.func4, Try.ntmps4
    go_wp2_with fail
    refine (meter_awake_c _).mono ?_
    rintro e w1 ⟨rfl, hb1⟩
    go_wp2_with fail
    refine (new_c r s w1 HR.out.1 HR.out.2.1 HR.out.2.2).mono ?_
    rintro e w2 ⟨g, rfl, hg, hB, hb2⟩
    have hb3 := hb1.trans (hb2.mono hb1.size)
    have hgw : w.heap.size ≤ g := Nat.le_trans hb1.size hg
    clear hb1 hb2 hg
    go_wp2_with fail
    refine (none_take_c _ _ _).mono ?_
    rintro e w3 ⟨rfl, rfl⟩
    go_wp2_with fail
    refine (none_level_c _ _).mono ?_
    rintro e w3 ⟨rfl, rfl⟩
    have hRf : RefAt (w2.alloc (.cells #[.int .u64 (r : Int), .int .u64 (s : Int), .int .u64 (s : Int), .int .u64 0] 49)) w2.heap.size r s s 0 := hid_arr (Arr.new w2 49 [.int .u64 (r : Int), .int .u64 (s : Int), .int .u64 (s : Int), .int .u64 0])
    have hB2 := hB.below ((Below.refl _ _).alloc (Nat.le_refl _) (.cells #[.int .u64 (r : Int), .int .u64 (s : Int), .int .u64 (s : Int), .int .u64 0] 49))
    have hb4 := hb3.alloc hb3.size (.cells #[.int .u64 (r : Int), .int .u64 (s : Int), .int .u64 (s : Int), .int .u64 0] 49)
    have hgr : g < w2.heap.size := hB.lt
    have hws2 := hb3.size
    clear hB hb3
    go_wp2_with fail
    generalize w2.heap.size = gr at hRf hgr hws2 ⊢
    go_loopw [11] (fun v11 wr => ∃ (k lv t : Nat), k ≤ l.length ∧ k ≤ 60 ∧ v11 = .int .i64 (k : Int) ∧ BktAt wr g r s lv t ∧ RefAt wr gr r s lv t ∧ Hid (lv ≤ s ∧ U64 t) ∧ Below w.heap.size w wr) (fun i _ => l.length - (intOf i).toNat)
    case atStart => exact ⟨0, s, 0, Nat.zero_le _, by omega, rfl, hB2, hRf, Lib.hid ⟨Nat.le_refl _, U64.of (by omega)⟩, hb4⟩
    case round =>
      rename_i wr
      clear hB2 hRf hb4
      obtain ⟨k, lv, t, hk, hk6, rfl, hB, hR, hI, hbel⟩ := hrel
      by_cases hlt : k < l.length ∧ k < 60
      · obtain ⟨hlt, hlt6⟩ := hlt
        obtain ⟨⟨p0, p1, p2⟩, hp⟩ : ∃ p, l[k]? = some p := ⟨_, List.getElem?_eq_getElem hlt⟩
        obtain ⟨hg0, hg1', hg2'⟩ := actV_get l k _ hp
        obtain ⟨b, o, rfl, hb, hcell⟩ := hv (by intro e; rw [e] at hg0; simp at hg0)
        have HC0 := Lib.hid (hcell _ _ hg0)
        have HC1 := Lib.hid (hcell _ _ hg1')
        have HC2 := Lib.hid (hcell _ _ hg2')
        rw [← Nat.add_assoc] at HC1 HC2
        have hpb := hl _ (List.mem_of_getElem? hp)
        have HPB := Lib.hid hpb
        have hk0 : (0 : Int) ≤ (k : Int) := by omega
        have hk1 : (k : Int) < (l.length : Int) := by omega
        have hk2 : (k : Int) < 60 := by omega
        simp only at HC0 HC1 HC2
        have hc0 := (hbel.cell (p := ⟨b, o + k * 3, none⟩) (by simpa using hb)).trans HC0.out
        clear hcell hg0 hg1' hg2' hp hpb
        have hws := hbel.size
        by_cases hkind : p0 = 1
        · subst hkind
          go_wp2_with fail
          refine rb_start_at (w.heap.size) (by assumption) (by kernel_rfl) (fun wx hwx hBwx => ?_)
          have hbx := hbel.trans (hwx.mono hbel.size)
          have hBx := hB.below hwx
          have hRx := hR.below hwx
          have r0 := hRx.out.cell 0
          have r1 := hRx.out.cell 1
          have r2 := hRx.out.cell 2
          have r3 := hRx.out.cell 3
          have rf0 := hRx.out.frozen 0
          have rf1 := hRx.out.frozen 1
          have rf2 := hRx.out.frozen 2
          have rf3 := hRx.out.frozen 3
          simp only [List.getElem?_cons_zero, List.getElem?_cons_succ] at r0 r1 r2 r3
          have rlt := hRx.lt
          have p2x := (hbx.cell (p := ⟨b, o + k * 3 + 2, none⟩) (by simpa using hb)).trans HC2.out
          refine rb_take 1 (some 75) (v := ?_) rfl rfl (by kernel_rfl) (by kernel_rfl) (by kernel_rfl) (by kernel_rfl) ?_ ?_
          rotate_left
          focus (intro w' hw'; go_simp; try with_reducible rfl)
          try simp only [Act.put, List.setIfInBounds_toArray, List.set_cons_zero, List.set_cons_succ]
          refine rb_take 2 (some 76) (v := ?_) rfl rfl (by kernel_rfl) (by kernel_rfl) (by kernel_rfl) (by kernel_rfl) ?_ ?_
          rotate_left
          focus (intro w' hw'; go_simp; try with_reducible rfl)
          try simp only [Act.put, List.setIfInBounds_toArray, List.set_cons_zero, List.set_cons_succ]
          refine rb_take 3 (some 77) (v := ?_) rfl rfl (by kernel_rfl) (by kernel_rfl) (by kernel_rfl) (by kernel_rfl) ?_ ?_
          rotate_left
          focus (intro w' hw'; go_simp; try with_reducible rfl)
          try simp only [Act.put, List.setIfInBounds_toArray, List.set_cons_zero, List.set_cons_succ]
          refine rb_take 4 (some 78) (v := ?_) rfl rfl (by kernel_rfl) (by kernel_rfl) (by kernel_rfl) (by kernel_rfl) ?_ ?_
          rotate_left
          focus (intro w' hw'; go_simp; try with_reducible rfl)
          try simp only [Act.put, List.setIfInBounds_toArray, List.set_cons_zero, List.set_cons_succ]
          refine rb_take 5 (some 79) (v := ?_) rfl rfl (by kernel_rfl) (by kernel_rfl) (by kernel_rfl) (by kernel_rfl) ?_ ?_
          rotate_left
          focus (intro w' hw'; have q := (hw'.cell (p := ⟨b, o + k * 3 + 2, none⟩) (by simpa using hb)).trans p2x; go_simp; try with_reducible rfl)
          try simp only [Act.put, List.setIfInBounds_toArray, List.set_cons_zero, List.set_cons_succ]
          refine rb_keep 0 rfl (by kernel_rfl) (by kernel_rfl) (by first | assumption | exact hBB _ _) (fun K hK => ?_)
          go_simp
          refine hK.out _ _ (Below.refl _ _) ?_
          clear hK K
          try simp only [Act.put, List.setIfInBounds_toArray, List.set_cons_zero, List.set_cons_succ]
          refine rb_keep 6 rfl (by kernel_rfl) (by kernel_rfl) (by first | assumption | exact hBB _ _) (fun K hK => ?_)
          go_simp
          refine (ref_fill_c r s lv t p2 _ HR.out.1 HR.out.2.1 hI.out.1 HPB.out.2).mono ?_
          rintro e w5 ⟨rfl, hb5⟩
          obtain ⟨lv2, HL2⟩ : ∃ v, Hid (refL r s lv t p2 = v) := ⟨_, Lib.hid rfl⟩
          obtain ⟨t2, HT2⟩ : ∃ v, Hid (max t p2 = v) := ⟨_, Lib.hid rfl⟩
          rw [HL2.out, HT2.out]
          unfold bktV
          refine hK.out _ _ (hb5.mono hBwx) ?_
          clear hK K
          have hB5 := hBx.below hb5
          have hR5 := hRx.below hb5
          have hb5w := hbx.trans (hb5.mono hbx.size)
          have hB5w := hb5w.size
          clear r0 r1 r2 r3 rf0 rf1 rf2 rf3 rlt
          have r0 := hR5.out.cell 0
          have r1 := hR5.out.cell 1
          have r2 := hR5.out.cell 2
          have r3 := hR5.out.cell 3
          have rf0 := hR5.out.frozen 0
          have rf1 := hR5.out.frozen 1
          have rf2 := hR5.out.frozen 2
          have rf3 := hR5.out.frozen 3
          simp only [List.getElem?_cons_zero, List.getElem?_cons_succ] at r0 r1 r2 r3
          have rlt := hR5.lt
          try simp only [Act.put, List.setIfInBounds_toArray, List.set_cons_zero, List.set_cons_succ]
          refine rb_keep 7 rfl (by kernel_rfl) (by kernel_rfl) (by first | assumption | exact hBB _ _) (fun K hK => ?_)
          go_simp
          refine hK.out _ (put4 w5 gr (.int .u64 (r : Int)) (.int .u64 (s : Int)) (.int .u64 (lv2 : Int)) (.int .u64 (t2 : Int))) (put4_below (Below.refl _ _) hws2 _ _ _ _) ?_
          clear hK K
          have hR6 : RefAt (put4 w5 gr (.int .u64 (r : Int)) (.int .u64 (s : Int)) (.int .u64 (lv2 : Int)) (.int .u64 (t2 : Int))) gr r s lv2 t2 := hid_arr (put4_arr hR5.out _ _ _ _)
          have hB6 : BktAt (put4 w5 gr (.int .u64 (r : Int)) (.int .u64 (s : Int)) (.int .u64 (lv2 : Int)) (.int .u64 (t2 : Int))) g r s lv t := hid_arr (put4_far hB5.out (by omega) _ _ _ _)
          have hb6 := put4_below hb5w hws2 (.int .u64 (r : Int)) (.int .u64 (s : Int)) (.int .u64 (lv2 : Int)) (.int .u64 (t2 : Int))
          clear r0 r1 r2 r3 rf0 rf1 rf2 rf3 rlt
          have hB6w := hb6.size
          generalize put4 w5 gr (.int .u64 (r : Int)) (.int .u64 (s : Int)) (.int .u64 (lv2 : Int)) (.int .u64 (t2 : Int)) = w6 at hR6 hB6 hb6 hB6w ⊢
          try simp only [Act.put, List.setIfInBounds_toArray, List.set_cons_zero, List.set_cons_succ]
          refine rb_done (by first | assumption | exact hBB _ _) (by kernel_rfl) ?_
          have HLA := Lib.hid hI.out.1
          have HLL := Lib.hid (show refL r s lv t p2 = lv2 ∧ max t p2 = t2 from ⟨HL2.out, HT2.out⟩)
          have HLN := Lib.hid (show lv2 ≤ s ∧ U64 t2 from ⟨by rw [← HL2.out]; exact refL_le hI.out.1, by rw [← HT2.out]; exact U64.of (by have h1 := hI.out.2.out; have h2 := HPB.out.2.out; omega)⟩)
          have HM := Lib.hid (show r ≤ 2147483648 ∧ s ≤ 2147483648 from ⟨HR.out.1, HR.out.2.1⟩)
          go_wp2_with fail
          refine rb_start_at (w.heap.size) (by assumption) (by kernel_rfl) (fun wy hwy hBwy => ?_)
          have hby := hb6.trans (hwy.mono hb6.size)
          have hBy := hB6.below hwy
          have hRy := hR6.below hwy
          have p2y := (hby.cell (p := ⟨b, o + k * 3 + 2, none⟩) (by simpa using hb)).trans HC2.out
          have r2 := hRy.out.cell 2
          simp only [List.getElem?_cons_zero, List.getElem?_cons_succ] at r2
          have hgy := hBy.lt
          refine rb_take 0 (some 111) (v := ?_) rfl rfl (by kernel_rfl) (by kernel_rfl) (by kernel_rfl) (by kernel_rfl) ?_ ?_
          rotate_left
          focus (intro w' hw'; go_simp; try with_reducible rfl)
          try simp only [Act.put, List.setIfInBounds_toArray, List.set_cons_zero, List.set_cons_succ]
          refine rb_take 1 (some 112) (v := ?_) rfl rfl (by kernel_rfl) (by kernel_rfl) (by kernel_rfl) (by kernel_rfl) ?_ ?_
          rotate_left
          focus (intro w' hw'; go_simp; try with_reducible rfl)
          try simp only [Act.put, List.setIfInBounds_toArray, List.set_cons_zero, List.set_cons_succ]
          refine rb_take 2 (some 113) (v := ?_) rfl rfl (by kernel_rfl) (by kernel_rfl) (by kernel_rfl) (by kernel_rfl) ?_ ?_
          rotate_left
          focus (intro w' hw'; go_simp; try with_reducible rfl)
          try simp only [Act.put, List.setIfInBounds_toArray, List.set_cons_zero, List.set_cons_succ]
          refine rb_take 3 (some 114) (v := ?_) rfl rfl (by kernel_rfl) (by kernel_rfl) (by kernel_rfl) (by kernel_rfl) ?_ ?_
          rotate_left
          focus (intro w' hw'; go_simp; try with_reducible rfl)
          try simp only [Act.put, List.setIfInBounds_toArray, List.set_cons_zero, List.set_cons_succ]
          refine rb_take 4 (some 115) (v := ?_) rfl rfl (by kernel_rfl) (by kernel_rfl) (by kernel_rfl) (by kernel_rfl) ?_ ?_
          rotate_left
          focus (intro w' hw'; go_simp; try with_reducible rfl)
          try simp only [Act.put, List.setIfInBounds_toArray, List.set_cons_zero, List.set_cons_succ]
          refine rb_take 5 (some 116) (v := ?_) rfl rfl (by kernel_rfl) (by kernel_rfl) (by kernel_rfl) (by kernel_rfl) ?_ ?_
          rotate_left
          focus (intro w' hw'; have q := (hw'.cell (p := ⟨b, o + k * 3 + 2, none⟩) (by simpa using hb)).trans p2y; go_simp; try with_reducible rfl)
          try simp only [Act.put, List.setIfInBounds_toArray, List.set_cons_zero, List.set_cons_succ]
          refine rb_take 7 (some 118) (v := ?_) rfl rfl (by kernel_rfl) (by kernel_rfl) (by kernel_rfl) (by kernel_rfl) ?_ ?_
          rotate_left
          focus (intro w' hw'; go_simp; try with_reducible rfl)
          try simp only [Act.put, List.setIfInBounds_toArray, List.set_cons_zero, List.set_cons_succ]
          refine rb_keep2 6 8 rfl rfl (by kernel_rfl) (by kernel_rfl) (by kernel_rfl) (by first | assumption | exact hBB _ _) (fun K hK => ?_) (fun K hK => ?_)
          · go_simp
            refine (bkt_level_c g r s lv t p2 _ hBy HM.out.1 HM.out.2 HLA.out HPB.out.2).mono ?_
            rintro e w7 ⟨rfl, hB7, hM7⟩
            rw [HLL.out.1, HLL.out.2] at hB7
            rw [HLL.out.1]
            refine hK.out _ _ ((hM7.below (Nat.le_of_lt hgy)).mono hgw) ?_
            clear hK K
            have hR7 := hRy.mod hM7 (by omega)
            have r27 := hR7.out.cell 2
            simp only [List.getElem?_cons_zero, List.getElem?_cons_succ] at r27
            have hB7w : w.heap.size ≤ w7.heap.size := Nat.le_trans hBwy hM7.size
            have hb7 := Below.mod hby hM7 hgw hby.size
            try simp only [Act.put, List.setIfInBounds_toArray, List.set_cons_zero, List.set_cons_succ]
            refine rb_keep 8 rfl (by kernel_rfl) (by kernel_rfl) (by first | assumption | exact hBB _ _) (fun K hK => ?_)
            go_simp
            refine hK.out _ _ (Below.refl _ _) ?_
            clear hK K
            try simp only [Act.put, List.setIfInBounds_toArray, List.set_cons_zero, List.set_cons_succ]
            refine rb_take 9 (some 120) (v := ?_) rfl rfl (by kernel_rfl) (by kernel_rfl) (by kernel_rfl) (by kernel_rfl) ?_ ?_
            rotate_left
            focus (intro w' hw'; go_simp; try with_reducible rfl)
            try simp only [Act.put, List.setIfInBounds_toArray, List.set_cons_zero, List.set_cons_succ]
            refine rb_done (by first | assumption | exact hBB _ _) (by kernel_rfl) ?_
            go_wp2_with fail
            go_roundw
            case rel => exact ⟨k + 1, lv2, t2, by omega, by omega, by go_num, hB7, hR7, HLN, hb7⟩
            case measure => (simp [intOf] <;> omega)
          · go_simp
            refine hK.out _ _ (Below.refl _ _) ?_
            clear hK K
            try simp only [Act.put, List.setIfInBounds_toArray, List.set_cons_zero, List.set_cons_succ]
            refine rb_keep 6 rfl (by kernel_rfl) (by kernel_rfl) (by first | assumption | exact hBB _ _) (fun K hK => ?_)
            go_simp
            refine (bkt_level_c g r s lv t p2 _ hBy HM.out.1 HM.out.2 HLA.out HPB.out.2).mono ?_
            rintro e w7 ⟨rfl, hB7, hM7⟩
            rw [HLL.out.1, HLL.out.2] at hB7
            rw [HLL.out.1]
            refine hK.out _ _ ((hM7.below (Nat.le_of_lt hgy)).mono hgw) ?_
            clear hK K
            have hR7 := hRy.mod hM7 (by omega)
            have r27 := hR7.out.cell 2
            simp only [List.getElem?_cons_zero, List.getElem?_cons_succ] at r27
            have hB7w : w.heap.size ≤ w7.heap.size := Nat.le_trans hBwy hM7.size
            have hb7 := Below.mod hby hM7 hgw hby.size
            try simp only [Act.put, List.setIfInBounds_toArray, List.set_cons_zero, List.set_cons_succ]
            refine rb_take 9 (some 120) (v := ?_) rfl rfl (by kernel_rfl) (by kernel_rfl) (by kernel_rfl) (by kernel_rfl) ?_ ?_
            rotate_left
            focus (intro w' hw'; go_simp; try with_reducible rfl)
            try simp only [Act.put, List.setIfInBounds_toArray, List.set_cons_zero, List.set_cons_succ]
            refine rb_done (by first | assumption | exact hBB _ _) (by kernel_rfl) ?_
            go_wp2_with fail
            go_roundw
            case rel => exact ⟨k + 1, lv2, t2, by omega, by omega, by go_num, hB7, hR7, HLN, hb7⟩
            case measure => (simp [intOf] <;> omega)
        · have hkb : (p0 == 1) = false := by simpa using hkind
          obtain ⟨lv1, HL1⟩ : ∃ v, Hid (refL r s lv t p2 = v) := ⟨_, Lib.hid rfl⟩
          obtain ⟨t2, HT2⟩ : ∃ v, Hid (max t p2 = v) := ⟨_, Lib.hid rfl⟩
          obtain ⟨bb, HBB⟩ : ∃ v, Hid (v = decide (p1 ≤ refL r s lv t p2)) := ⟨_, Lib.hid rfl⟩
          obtain ⟨lv2, HL2⟩ : ∃ v, Hid (refL r s lv t p2 - (if bb then p1 else 0) = v) := ⟨_, Lib.hid rfl⟩
          go_wp2_with fail
          refine rb_start_at (w.heap.size) (by assumption) (by kernel_rfl) (fun wx hwx hBwx => ?_)
          have hbx := hbel.trans (hwx.mono hbel.size)
          have hBx := hB.below hwx
          have hRx := hR.below hwx
          have r0 := hRx.out.cell 0
          have r1 := hRx.out.cell 1
          have r2 := hRx.out.cell 2
          have r3 := hRx.out.cell 3
          have rf0 := hRx.out.frozen 0
          have rf1 := hRx.out.frozen 1
          have rf2 := hRx.out.frozen 2
          have rf3 := hRx.out.frozen 3
          simp only [List.getElem?_cons_zero, List.getElem?_cons_succ] at r0 r1 r2 r3
          have rlt := hRx.lt
          have p1x := (hbx.cell (p := ⟨b, o + k * 3 + 1, none⟩) (by simpa using hb)).trans HC1.out
          have p2x := (hbx.cell (p := ⟨b, o + k * 3 + 2, none⟩) (by simpa using hb)).trans HC2.out
          have hAx : w.heap.size ≤ (wx.alloc (.cells #[.int .u64 0, .int .u64 0, .int .u64 0, .int .u64 0] 49)).heap.size := by simp; omega
          refine rb_take 1 (some 83) (v := ?_) rfl rfl (by kernel_rfl) (by kernel_rfl) (by kernel_rfl) (by kernel_rfl) ?_ ?_
          rotate_left
          focus (intro w' hw'; go_simp; try with_reducible rfl)
          try simp only [Act.put, List.setIfInBounds_toArray, List.set_cons_zero, List.set_cons_succ]
          refine rb_take 2 (some 84) (v := ?_) rfl rfl (by kernel_rfl) (by kernel_rfl) (by kernel_rfl) (by kernel_rfl) ?_ ?_
          rotate_left
          focus (intro w' hw'; go_simp; try with_reducible rfl)
          try simp only [Act.put, List.setIfInBounds_toArray, List.set_cons_zero, List.set_cons_succ]
          refine rb_take 3 (some 85) (v := ?_) rfl rfl (by kernel_rfl) (by kernel_rfl) (by kernel_rfl) (by kernel_rfl) ?_ ?_
          rotate_left
          focus (intro w' hw'; go_simp; try with_reducible rfl)
          try simp only [Act.put, List.setIfInBounds_toArray, List.set_cons_zero, List.set_cons_succ]
          refine rb_take 4 (some 86) (v := ?_) rfl rfl (by kernel_rfl) (by kernel_rfl) (by kernel_rfl) (by kernel_rfl) ?_ ?_
          rotate_left
          focus (intro w' hw'; go_simp; try with_reducible rfl)
          try simp only [Act.put, List.setIfInBounds_toArray, List.set_cons_zero, List.set_cons_succ]
          refine rb_take 5 (some 87) (v := ?_) rfl rfl (by kernel_rfl) (by kernel_rfl) (by kernel_rfl) (by kernel_rfl) ?_ ?_
          rotate_left
          focus (intro w' hw'; have q := (hw'.cell (p := ⟨b, o + k * 3 + 1, none⟩) (by simpa using hb)).trans p1x; go_simp; try with_reducible rfl)
          try simp only [Act.put, List.setIfInBounds_toArray, List.set_cons_zero, List.set_cons_succ]
          refine rb_take 6 (some 88) (v := ?_) rfl rfl (by kernel_rfl) (by kernel_rfl) (by kernel_rfl) (by kernel_rfl) ?_ ?_
          rotate_left
          focus (intro w' hw'; go_simp; try with_reducible rfl)
          try simp only [Act.put, List.setIfInBounds_toArray, List.set_cons_zero, List.set_cons_succ]
          refine rb_take 7 (some 89) (v := ?_) rfl rfl (by kernel_rfl) (by kernel_rfl) (by kernel_rfl) (by kernel_rfl) ?_ ?_
          rotate_left
          focus (intro w' hw'; go_simp; try with_reducible rfl)
          try simp only [Act.put, List.setIfInBounds_toArray, List.set_cons_zero, List.set_cons_succ]
          refine rb_take 8 (some 90) (v := ?_) rfl rfl (by kernel_rfl) (by kernel_rfl) (by kernel_rfl) (by kernel_rfl) ?_ ?_
          rotate_left
          focus (intro w' hw'; go_simp; try with_reducible rfl)
          try simp only [Act.put, List.setIfInBounds_toArray, List.set_cons_zero, List.set_cons_succ]
          refine rb_take 9 (some 91) (v := ?_) rfl rfl (by kernel_rfl) (by kernel_rfl) (by kernel_rfl) (by kernel_rfl) ?_ ?_
          rotate_left
          focus (intro w' hw'; go_simp; try with_reducible rfl)
          try simp only [Act.put, List.setIfInBounds_toArray, List.set_cons_zero, List.set_cons_succ]
          refine rb_take 10 (some 92) (v := ?_) rfl rfl (by kernel_rfl) (by kernel_rfl) (by kernel_rfl) (by kernel_rfl) ?_ ?_
          rotate_left
          focus (intro w' hw'; have q := (hw'.cell (p := ⟨b, o + k * 3 + 2, none⟩) (by simpa using hb)).trans p2x; go_simp; try with_reducible rfl)
          try simp only [Act.put, List.setIfInBounds_toArray, List.set_cons_zero, List.set_cons_succ]
          refine rb_keep2 0 15 rfl rfl (by kernel_rfl) (by kernel_rfl) (by kernel_rfl) (by first | assumption | exact hBB _ _) (fun K hK => ?_) (fun K hK => ?_)
          · go_simp
            refine hK.out _ _ (Below.refl _ _) ?_
            clear hK K
            try simp only [Act.put, List.setIfInBounds_toArray, List.set_cons_zero, List.set_cons_succ]
            refine rb_keep2 11 15 rfl rfl (by kernel_rfl) (by kernel_rfl) (by kernel_rfl) (by first | assumption | exact hBB _ _) (fun K hK => ?_) (fun K hK => ?_)
            · go_simp
              refine (ref_take_c r s lv t p1 p2 _ HR.out.1 HR.out.2.1 hI.out.1 HPB.out.2 HPB.out.1 bb HBB.out).mono ?_
              rintro e w5 ⟨rfl, hb5⟩
              rw [HL2.out, HT2.out]
              unfold bktV
              refine hK.out _ _ (hb5.mono (by assumption)) ?_
              clear hK K
              first | have hR5 := hRx.below hb5 | have hR5 := (hRx.below ((Below.refl _ _).alloc (Nat.le_refl _) _)).below hb5
              first | have hB5 := hBx.below hb5 | have hB5 := (hBx.below ((Below.refl _ _).alloc (Nat.le_refl _) _)).below hb5
              first | have hb5w := hbx.trans (hb5.mono hbx.size) | have hb5w := (hbx.alloc hbx.size _).trans (hb5.mono hAx)
              have hB5w := hb5w.size
              have hA5 : w.heap.size ≤ (w5.alloc (.cells #[.int .u64 0, .int .u64 0, .int .u64 0, .int .u64 0] 49)).heap.size := by simp; omega
              try have hz5 := (Arr.new wx 49 [.int .u64 0, .int .u64 0, .int .u64 0, .int .u64 0]).below hb5 (by simp)
              try (have z0 := hz5.cell 0; have z1 := hz5.cell 1; have z2 := hz5.cell 2; have z3 := hz5.cell 3; have zf0 := hz5.frozen 0; have zf1 := hz5.frozen 1; have zf2 := hz5.frozen 2; have zf3 := hz5.frozen 3; simp only [List.getElem?_cons_zero, List.getElem?_cons_succ] at z0 z1 z2 z3)
              try simp only [Act.put, List.setIfInBounds_toArray, List.set_cons_zero, List.set_cons_succ]
              refine rb_take 12 (some 81) (v := ?_) rfl rfl (by kernel_rfl) (by kernel_rfl) (by kernel_rfl) (by kernel_rfl) ?_ ?_
              rotate_left
              focus (intro w' hw'; go_simp; try with_reducible rfl)
              try simp only [Act.put, List.setIfInBounds_toArray, List.set_cons_zero, List.set_cons_succ]
              refine rb_take 13 (some 94) (v := ?_) rfl rfl (by kernel_rfl) (by kernel_rfl) (by kernel_rfl) (by kernel_rfl) ?_ ?_
              rotate_left
              focus (intro w' hw'; go_simp; try with_reducible rfl)
              try simp only [Act.put, List.setIfInBounds_toArray, List.set_cons_zero, List.set_cons_succ]
              refine rb_take 14 (some 95) (v := ?_) rfl rfl (by kernel_rfl) (by kernel_rfl) (by kernel_rfl) (by kernel_rfl) ?_ ?_
              rotate_left
              focus (intro w' hw'; go_simp; try with_reducible rfl)
              try simp only [Act.put, List.setIfInBounds_toArray, List.set_cons_zero, List.set_cons_succ]
              refine rb_keep 15 rfl (by kernel_rfl) (by kernel_rfl) (by first | assumption | exact hBB _ _) (fun K hK => ?_)
              go_simp
              refine hK.out _ _ ((Below.refl _ _).alloc (by assumption) _) ?_
              clear hK K
              try simp only [Act.put, List.setIfInBounds_toArray, List.set_cons_zero, List.set_cons_succ]
              refine rb_keep 16 rfl (by kernel_rfl) (by kernel_rfl) (by first | assumption | exact hBB _ _) (fun K hK => ?_)
              go_simp
              have hRl5 := hR5.lt
              have hBl5 := hB5.lt
              have hRlx := hRx.lt
              have hBlx := hBx.lt
              first
                | (refine hK.out _ _ (below_lit hB5w _ _) ?_
                   have hA6 := Arr.new w5 49 [.int .u64 (r : Int), .int .u64 (s : Int), .int .u64 (lv2 : Int), .int .u64 (t2 : Int)]
                   have hR6 := hR5.below ((Below.refl _ _).alloc (Nat.le_refl _) (.cells #[.int .u64 (r : Int), .int .u64 (s : Int), .int .u64 (lv2 : Int), .int .u64 (t2 : Int)] 49))
                   have hB6 := hB5.below ((Below.refl _ _).alloc (Nat.le_refl _) (.cells #[.int .u64 (r : Int), .int .u64 (s : Int), .int .u64 (lv2 : Int), .int .u64 (t2 : Int)] 49))
                   have hb6 := hb5w.alloc hB5w (.cells #[.int .u64 (r : Int), .int .u64 (s : Int), .int .u64 (lv2 : Int), .int .u64 (t2 : Int)] 49)
                   have hgz : gr < w5.heap.size ∧ g < w5.heap.size := ⟨hRl5, hBl5⟩
                   generalize w5.heap.size = gz at hA6 hgz ⊢
                   generalize w5.alloc (.cells #[.int .u64 (r : Int), .int .u64 (s : Int), .int .u64 (lv2 : Int), .int .u64 (t2 : Int)] 49) = w6 at hA6 hR6 hB6 hb6 ⊢)
                | (refine hK.out _ (put4 w5 wx.heap.size (.int .u64 (r : Int)) (.int .u64 (s : Int)) (.int .u64 (lv2 : Int)) (.int .u64 (t2 : Int))) (put4_below (Below.refl _ _) hBwx _ _ _ _) ?_
                   have hA6 := put4_arr hz5 (.int .u64 (r : Int)) (.int .u64 (s : Int)) (.int .u64 (lv2 : Int)) (.int .u64 (t2 : Int))
                   have hR6 : RefAt (put4 w5 wx.heap.size (.int .u64 (r : Int)) (.int .u64 (s : Int)) (.int .u64 (lv2 : Int)) (.int .u64 (t2 : Int))) gr r s lv t := hid_arr (put4_far hR5.out (by omega) (.int .u64 (r : Int)) (.int .u64 (s : Int)) (.int .u64 (lv2 : Int)) (.int .u64 (t2 : Int)))
                   have hB6 : BktAt (put4 w5 wx.heap.size (.int .u64 (r : Int)) (.int .u64 (s : Int)) (.int .u64 (lv2 : Int)) (.int .u64 (t2 : Int))) g r s lv t := hid_arr (put4_far hB5.out (by omega) (.int .u64 (r : Int)) (.int .u64 (s : Int)) (.int .u64 (lv2 : Int)) (.int .u64 (t2 : Int)))
                   have hb6 := put4_below hb5w hBwx (.int .u64 (r : Int)) (.int .u64 (s : Int)) (.int .u64 (lv2 : Int)) (.int .u64 (t2 : Int))
                   have hgz : gr < wx.heap.size ∧ g < wx.heap.size := ⟨hRlx, hBlx⟩
                   generalize put4 w5 wx.heap.size (.int .u64 (r : Int)) (.int .u64 (s : Int)) (.int .u64 (lv2 : Int)) (.int .u64 (t2 : Int)) = w6 at hA6 hR6 hB6 hb6 ⊢
                   generalize wx.heap.size = gz at hA6 hgz ⊢)
              clear hK K r0 r1 r2 r3 rf0 rf1 rf2 rf3 rlt
              try clear z0 z1 z2 z3 zf0 zf1 zf2 zf3
              have hB6w := hb6.size
              try simp only [Act.put, List.setIfInBounds_toArray, List.set_cons_zero, List.set_cons_succ]
              refine rb_take 17 (some 13) (v := ?_) rfl rfl (by kernel_rfl) (by kernel_rfl) (by kernel_rfl) (by kernel_rfl) ?_ ?_
              rotate_left
              focus (intro w' hw'; go_simp; try with_reducible rfl)
              try simp only [Act.put, List.setIfInBounds_toArray, List.set_cons_zero, List.set_cons_succ]
              refine rb_done (by first | assumption | exact hBB _ _) (by kernel_rfl) ?_
              skip
              have hAh := Lib.hid hA6
              have c0 := hA6.cell 0
              have c1 := hA6.cell 1
              have c2 := hA6.cell 2
              have c3 := hA6.cell 3
              simp only [List.getElem?_cons_zero, List.getElem?_cons_succ] at c0 c1 c2 c3
              clear hA6
              have r0 := hR6.out.cell 0
              have r1 := hR6.out.cell 1
              have r2 := hR6.out.cell 2
              have r3 := hR6.out.cell 3
              have rf0 := hR6.out.frozen 0
              have rf1 := hR6.out.frozen 1
              have rf2 := hR6.out.frozen 2
              have rf3 := hR6.out.frozen 3
              simp only [List.getElem?_cons_zero, List.getElem?_cons_succ] at r0 r1 r2 r3
              have rlt := hR6.lt
              have hR8 : Arr (put4 w6 gr (.int .u64 (r : Int)) (.int .u64 (s : Int)) (.int .u64 (lv2 : Int)) (.int .u64 (t2 : Int))) gr 49 _ := put4_arr hR6.out (.int .u64 (r : Int)) (.int .u64 (s : Int)) (.int .u64 (lv2 : Int)) (.int .u64 (t2 : Int))
              have hB8 : BktAt (put4 w6 gr (.int .u64 (r : Int)) (.int .u64 (s : Int)) (.int .u64 (lv2 : Int)) (.int .u64 (t2 : Int))) g r s lv t := hid_arr (put4_far hB6.out (by omega) (.int .u64 (r : Int)) (.int .u64 (s : Int)) (.int .u64 (lv2 : Int)) (.int .u64 (t2 : Int)))
              have hb8 : Below w.heap.size w (put4 w6 gr (.int .u64 (r : Int)) (.int .u64 (s : Int)) (.int .u64 (lv2 : Int)) (.int .u64 (t2 : Int))) := put4_below hb6 hws2 (.int .u64 (r : Int)) (.int .u64 (s : Int)) (.int .u64 (lv2 : Int)) (.int .u64 (t2 : Int))
              have hB8w := hb8.size
              have HR8 : RefAt (put4 w6 gr (.int .u64 (r : Int)) (.int .u64 (s : Int)) (.int .u64 (lv2 : Int)) (.int .u64 (t2 : Int))) gr r s lv2 t2 := hid_arr hR8
              have HB8 := Lib.hid hB8
              have Hb8 := Lib.hid hb8
              have HB8w := Lib.hid hB8w
              simp only [put4] at HR8 HB8 Hb8 HB8w
              clear hR8 hB8 hb8 hB8w
              go_wp2_with fail
              generalize (((w6.setCell ⟨gr, 0, none⟩ (.int .u64 (r : Int))).setCell ⟨gr, 1, none⟩ (.int .u64 (s : Int))).setCell ⟨gr, 2, none⟩ (.int .u64 (lv2 : Int))).setCell ⟨gr, 3, none⟩ (.int .u64 (t2 : Int)) = w8 at HR8 HB8 Hb8 HB8w ⊢
              have hB8w := HB8w.out
              clear c0 c1 c2 c3 r0 r1 r2 r3 rf0 rf1 rf2 rf3 rlt
              refine rb_start_at (w.heap.size) (by assumption) (by kernel_rfl) (fun wv hwv hBwv => ?_)
              have hbv := Hb8.out.trans (hwv.mono hB8w)
              have hBv := HB8.out.below hwv
              have hRv := HR8.below hwv
              have hgv := hBv.lt
              have p1v := (hbv.cell (p := ⟨b, o + k * 3 + 1, none⟩) (by simpa using hb)).trans HC1.out
              have p2v := (hbv.cell (p := ⟨b, o + k * 3 + 2, none⟩) (by simpa using hb)).trans HC2.out
              refine rb_take 0 (some 97) (v := ?_) rfl rfl (by kernel_rfl) (by kernel_rfl) (by kernel_rfl) (by kernel_rfl) ?_ ?_
              rotate_left
              focus (intro w' hw'; go_simp; try with_reducible rfl)
              try simp only [Act.put, List.setIfInBounds_toArray, List.set_cons_zero, List.set_cons_succ]
              refine rb_take 1 (some 98) (v := ?_) rfl rfl (by kernel_rfl) (by kernel_rfl) (by kernel_rfl) (by kernel_rfl) ?_ ?_
              rotate_left
              focus (intro w' hw'; go_simp; try with_reducible rfl)
              try simp only [Act.put, List.setIfInBounds_toArray, List.set_cons_zero, List.set_cons_succ]
              refine rb_take 2 (some 99) (v := ?_) rfl rfl (by kernel_rfl) (by kernel_rfl) (by kernel_rfl) (by kernel_rfl) ?_ ?_
              rotate_left
              focus (intro w' hw'; go_simp; try with_reducible rfl)
              try simp only [Act.put, List.setIfInBounds_toArray, List.set_cons_zero, List.set_cons_succ]
              refine rb_take 3 (some 100) (v := ?_) rfl rfl (by kernel_rfl) (by kernel_rfl) (by kernel_rfl) (by kernel_rfl) ?_ ?_
              rotate_left
              focus (intro w' hw'; go_simp; try with_reducible rfl)
              try simp only [Act.put, List.setIfInBounds_toArray, List.set_cons_zero, List.set_cons_succ]
              refine rb_take 4 (some 101) (v := ?_) rfl rfl (by kernel_rfl) (by kernel_rfl) (by kernel_rfl) (by kernel_rfl) ?_ ?_
              rotate_left
              focus (intro w' hw'; go_simp; try with_reducible rfl)
              try simp only [Act.put, List.setIfInBounds_toArray, List.set_cons_zero, List.set_cons_succ]
              refine rb_take 5 (some 102) (v := ?_) rfl rfl (by kernel_rfl) (by kernel_rfl) (by kernel_rfl) (by kernel_rfl) ?_ ?_
              rotate_left
              focus (intro w' hw'; have q := (hw'.cell (p := ⟨b, o + k * 3 + 1, none⟩) (by simpa using hb)).trans p1v; go_simp; try with_reducible rfl)
              try simp only [Act.put, List.setIfInBounds_toArray, List.set_cons_zero, List.set_cons_succ]
              refine rb_take 6 (some 103) (v := ?_) rfl rfl (by kernel_rfl) (by kernel_rfl) (by kernel_rfl) (by kernel_rfl) ?_ ?_
              rotate_left
              focus (intro w' hw'; go_simp; try with_reducible rfl)
              try simp only [Act.put, List.setIfInBounds_toArray, List.set_cons_zero, List.set_cons_succ]
              refine rb_take 7 (some 104) (v := ?_) rfl rfl (by kernel_rfl) (by kernel_rfl) (by kernel_rfl) (by kernel_rfl) ?_ ?_
              rotate_left
              focus (intro w' hw'; go_simp; try with_reducible rfl)
              try simp only [Act.put, List.setIfInBounds_toArray, List.set_cons_zero, List.set_cons_succ]
              refine rb_take 8 (some 105) (v := ?_) rfl rfl (by kernel_rfl) (by kernel_rfl) (by kernel_rfl) (by kernel_rfl) ?_ ?_
              rotate_left
              focus (intro w' hw'; go_simp; try with_reducible rfl)
              try simp only [Act.put, List.setIfInBounds_toArray, List.set_cons_zero, List.set_cons_succ]
              refine rb_take 9 (some 106) (v := ?_) rfl rfl (by kernel_rfl) (by kernel_rfl) (by kernel_rfl) (by kernel_rfl) ?_ ?_
              rotate_left
              focus (intro w' hw'; go_simp; try with_reducible rfl)
              try simp only [Act.put, List.setIfInBounds_toArray, List.set_cons_zero, List.set_cons_succ]
              refine rb_take 10 (some 107) (v := ?_) rfl rfl (by kernel_rfl) (by kernel_rfl) (by kernel_rfl) (by kernel_rfl) ?_ ?_
              rotate_left
              focus (intro w' hw'; have q := (hw'.cell (p := ⟨b, o + k * 3 + 2, none⟩) (by simpa using hb)).trans p2v; go_simp; try with_reducible rfl)
              try simp only [Act.put, List.setIfInBounds_toArray, List.set_cons_zero, List.set_cons_succ]
              refine rb_take 12 (some 109) (v := ?_) rfl rfl (by kernel_rfl) (by kernel_rfl) (by kernel_rfl) (by kernel_rfl) ?_ ?_
              rotate_left
              focus (intro w' hw'; go_simp; try with_reducible rfl)
              try simp only [Act.put, List.setIfInBounds_toArray, List.set_cons_zero, List.set_cons_succ]
              refine rb_keep 11 rfl (by kernel_rfl) (by kernel_rfl) (by first | assumption | exact hBB _ _) (fun K hK => ?_)
              go_simp
              refine (bkt_take_c g r s lv t p1 p2 _ hBv HR.out.1 HR.out.2.1 hI.out.1 HPB.out.2 HPB.out.1).mono ?_
              intro e w9 hpost
              obtain ⟨rfl, hB9, hM9⟩ := take_b HBB.out HL2.out HT2.out hpost
              clear hpost
              refine hK.out _ _ ((hM9.below (Nat.le_of_lt hgv)).mono hgw) ?_
              clear hK K
              have hR9 := hRv.mod hM9 (by omega)
              have hb9 := Below.mod hbv hM9 hgw hbv.size
              have hB9w := hb9.size
              try simp only [Act.put, List.setIfInBounds_toArray, List.set_cons_zero, List.set_cons_succ]
              refine rb_take 13 (some 110) (v := ?_) rfl rfl (by kernel_rfl) (by kernel_rfl) (by kernel_rfl) (by kernel_rfl) ?_ ?_
              rotate_left
              focus (intro w' hw'; go_simp; try with_reducible rfl)
              try simp only [Act.put, List.setIfInBounds_toArray, List.set_cons_zero, List.set_cons_succ]
              refine rb_done (by first | assumption | exact hBB _ _) (by kernel_rfl) ?_
              have HLA := Lib.hid (show lv2 ≤ s by rw [← HL2.out]; have := refL_le (r := r) (t := t) (now := p2) hI.out.1; omega)
              have HLL := Lib.hid (show refL r s lv2 t2 p2 = lv2 ∧ max t2 p2 = t2 from ⟨by rw [← HT2.out]; exact refL_again r s 0 t p2 _, by rw [← HT2.out]; omega⟩)
              have HLN := Lib.hid (show lv2 ≤ s ∧ U64 t2 from ⟨HLA.out, by rw [← HT2.out]; exact U64.of (by have h1 := hI.out.2.out; have h2 := HPB.out.2.out; omega)⟩)
              have hws := hB9w
              have HM := Lib.hid (show r ≤ 2147483648 ∧ s ≤ 2147483648 from ⟨HR.out.1, HR.out.2.1⟩)
              go_wp2_with fail
              refine rb_start_at (w.heap.size) (by assumption) (by kernel_rfl) (fun wy hwy hBwy => ?_)
              have hby := hb9.trans (hwy.mono hb9.size)
              have hBy := hB9.below hwy
              have hRy := hR9.below hwy
              have p2y := (hby.cell (p := ⟨b, o + k * 3 + 2, none⟩) (by simpa using hb)).trans HC2.out
              have r2 := hRy.out.cell 2
              simp only [List.getElem?_cons_zero, List.getElem?_cons_succ] at r2
              have hgy := hBy.lt
              refine rb_take 0 (some 111) (v := ?_) rfl rfl (by kernel_rfl) (by kernel_rfl) (by kernel_rfl) (by kernel_rfl) ?_ ?_
              rotate_left
              focus (intro w' hw'; go_simp; try with_reducible rfl)
              try simp only [Act.put, List.setIfInBounds_toArray, List.set_cons_zero, List.set_cons_succ]
              refine rb_take 1 (some 112) (v := ?_) rfl rfl (by kernel_rfl) (by kernel_rfl) (by kernel_rfl) (by kernel_rfl) ?_ ?_
              rotate_left
              focus (intro w' hw'; go_simp; try with_reducible rfl)
              try simp only [Act.put, List.setIfInBounds_toArray, List.set_cons_zero, List.set_cons_succ]
              refine rb_take 2 (some 113) (v := ?_) rfl rfl (by kernel_rfl) (by kernel_rfl) (by kernel_rfl) (by kernel_rfl) ?_ ?_
              rotate_left
              focus (intro w' hw'; go_simp; try with_reducible rfl)
              try simp only [Act.put, List.setIfInBounds_toArray, List.set_cons_zero, List.set_cons_succ]
              refine rb_take 3 (some 114) (v := ?_) rfl rfl (by kernel_rfl) (by kernel_rfl) (by kernel_rfl) (by kernel_rfl) ?_ ?_
              rotate_left
              focus (intro w' hw'; go_simp; try with_reducible rfl)
              try simp only [Act.put, List.setIfInBounds_toArray, List.set_cons_zero, List.set_cons_succ]
              refine rb_take 4 (some 115) (v := ?_) rfl rfl (by kernel_rfl) (by kernel_rfl) (by kernel_rfl) (by kernel_rfl) ?_ ?_
              rotate_left
              focus (intro w' hw'; go_simp; try with_reducible rfl)
              try simp only [Act.put, List.setIfInBounds_toArray, List.set_cons_zero, List.set_cons_succ]
              refine rb_take 5 (some 116) (v := ?_) rfl rfl (by kernel_rfl) (by kernel_rfl) (by kernel_rfl) (by kernel_rfl) ?_ ?_
              rotate_left
              focus (intro w' hw'; have q := (hw'.cell (p := ⟨b, o + k * 3 + 2, none⟩) (by simpa using hb)).trans p2y; go_simp; try with_reducible rfl)
              try simp only [Act.put, List.setIfInBounds_toArray, List.set_cons_zero, List.set_cons_succ]
              refine rb_take 7 (some 118) (v := ?_) rfl rfl (by kernel_rfl) (by kernel_rfl) (by kernel_rfl) (by kernel_rfl) ?_ ?_
              rotate_left
              focus (intro w' hw'; go_simp; try with_reducible rfl)
              try simp only [Act.put, List.setIfInBounds_toArray, List.set_cons_zero, List.set_cons_succ]
              refine rb_keep2 6 8 rfl rfl (by kernel_rfl) (by kernel_rfl) (by kernel_rfl) (by first | assumption | exact hBB _ _) (fun K hK => ?_) (fun K hK => ?_)
              · go_simp
                refine (bkt_level_c g r s lv2 t2 p2 _ hBy HM.out.1 HM.out.2 HLA.out HPB.out.2).mono ?_
                rintro e w7 ⟨rfl, hB7, hM7⟩
                rw [HLL.out.1, HLL.out.2] at hB7
                rw [HLL.out.1]
                refine hK.out _ _ ((hM7.below (Nat.le_of_lt hgy)).mono hgw) ?_
                clear hK K
                have hR7 := hRy.mod hM7 (by omega)
                have r27 := hR7.out.cell 2
                simp only [List.getElem?_cons_zero, List.getElem?_cons_succ] at r27
                have hB7w : w.heap.size ≤ w7.heap.size := Nat.le_trans hBwy hM7.size
                have hb7 := Below.mod hby hM7 hgw hby.size
                try simp only [Act.put, List.setIfInBounds_toArray, List.set_cons_zero, List.set_cons_succ]
                refine rb_keep 8 rfl (by kernel_rfl) (by kernel_rfl) (by first | assumption | exact hBB _ _) (fun K hK => ?_)
                go_simp
                refine hK.out _ _ (Below.refl _ _) ?_
                clear hK K
                try simp only [Act.put, List.setIfInBounds_toArray, List.set_cons_zero, List.set_cons_succ]
                refine rb_take 9 (some 120) (v := ?_) rfl rfl (by kernel_rfl) (by kernel_rfl) (by kernel_rfl) (by kernel_rfl) ?_ ?_
                rotate_left
                focus (intro w' hw'; go_simp; try with_reducible rfl)
                try simp only [Act.put, List.setIfInBounds_toArray, List.set_cons_zero, List.set_cons_succ]
                refine rb_done (by first | assumption | exact hBB _ _) (by kernel_rfl) ?_
                go_wp2_with fail
                go_roundw
                case rel => exact ⟨k + 1, lv2, t2, by omega, by omega, by go_num, hB7, hR7, HLN, hb7⟩
                case measure => (simp [intOf] <;> omega)
              · go_simp
                refine hK.out _ _ (Below.refl _ _) ?_
                clear hK K
                try simp only [Act.put, List.setIfInBounds_toArray, List.set_cons_zero, List.set_cons_succ]
                refine rb_keep 6 rfl (by kernel_rfl) (by kernel_rfl) (by first | assumption | exact hBB _ _) (fun K hK => ?_)
                go_simp
                refine (bkt_level_c g r s lv2 t2 p2 _ hBy HM.out.1 HM.out.2 HLA.out HPB.out.2).mono ?_
                rintro e w7 ⟨rfl, hB7, hM7⟩
                rw [HLL.out.1, HLL.out.2] at hB7
                rw [HLL.out.1]
                refine hK.out _ _ ((hM7.below (Nat.le_of_lt hgy)).mono hgw) ?_
                clear hK K
                have hR7 := hRy.mod hM7 (by omega)
                have r27 := hR7.out.cell 2
                simp only [List.getElem?_cons_zero, List.getElem?_cons_succ] at r27
                have hB7w : w.heap.size ≤ w7.heap.size := Nat.le_trans hBwy hM7.size
                have hb7 := Below.mod hby hM7 hgw hby.size
                try simp only [Act.put, List.setIfInBounds_toArray, List.set_cons_zero, List.set_cons_succ]
                refine rb_take 9 (some 120) (v := ?_) rfl rfl (by kernel_rfl) (by kernel_rfl) (by kernel_rfl) (by kernel_rfl) ?_ ?_
                rotate_left
                focus (intro w' hw'; go_simp; try with_reducible rfl)
                try simp only [Act.put, List.setIfInBounds_toArray, List.set_cons_zero, List.set_cons_succ]
                refine rb_done (by first | assumption | exact hBB _ _) (by kernel_rfl) ?_
                go_wp2_with fail
                go_roundw
                case rel => exact ⟨k + 1, lv2, t2, by omega, by omega, by go_num, hB7, hR7, HLN, hb7⟩
                case measure => (simp [intOf] <;> omega)
            · go_simp
              refine hK.out _ _ ((Below.refl _ _).alloc (by assumption) _) ?_
              clear hK K
              try simp only [Act.put, List.setIfInBounds_toArray, List.set_cons_zero, List.set_cons_succ]
              refine rb_keep 11 rfl (by kernel_rfl) (by kernel_rfl) (by first | assumption | exact hBB _ _) (fun K hK => ?_)
              go_simp
              refine (ref_take_c r s lv t p1 p2 _ HR.out.1 HR.out.2.1 hI.out.1 HPB.out.2 HPB.out.1 bb HBB.out).mono ?_
              rintro e w5 ⟨rfl, hb5⟩
              rw [HL2.out, HT2.out]
              unfold bktV
              refine hK.out _ _ (hb5.mono (by assumption)) ?_
              clear hK K
              first | have hR5 := hRx.below hb5 | have hR5 := (hRx.below ((Below.refl _ _).alloc (Nat.le_refl _) _)).below hb5
              first | have hB5 := hBx.below hb5 | have hB5 := (hBx.below ((Below.refl _ _).alloc (Nat.le_refl _) _)).below hb5
              first | have hb5w := hbx.trans (hb5.mono hbx.size) | have hb5w := (hbx.alloc hbx.size _).trans (hb5.mono hAx)
              have hB5w := hb5w.size
              have hA5 : w.heap.size ≤ (w5.alloc (.cells #[.int .u64 0, .int .u64 0, .int .u64 0, .int .u64 0] 49)).heap.size := by simp; omega
              try have hz5 := (Arr.new wx 49 [.int .u64 0, .int .u64 0, .int .u64 0, .int .u64 0]).below hb5 (by simp)
              try (have z0 := hz5.cell 0; have z1 := hz5.cell 1; have z2 := hz5.cell 2; have z3 := hz5.cell 3; have zf0 := hz5.frozen 0; have zf1 := hz5.frozen 1; have zf2 := hz5.frozen 2; have zf3 := hz5.frozen 3; simp only [List.getElem?_cons_zero, List.getElem?_cons_succ] at z0 z1 z2 z3)
              try simp only [Act.put, List.setIfInBounds_toArray, List.set_cons_zero, List.set_cons_succ]
              refine rb_take 12 (some 81) (v := ?_) rfl rfl (by kernel_rfl) (by kernel_rfl) (by kernel_rfl) (by kernel_rfl) ?_ ?_
              rotate_left
              focus (intro w' hw'; go_simp; try with_reducible rfl)
              try simp only [Act.put, List.setIfInBounds_toArray, List.set_cons_zero, List.set_cons_succ]
              refine rb_take 13 (some 94) (v := ?_) rfl rfl (by kernel_rfl) (by kernel_rfl) (by kernel_rfl) (by kernel_rfl) ?_ ?_
              rotate_left
              focus (intro w' hw'; go_simp; try with_reducible rfl)
              try simp only [Act.put, List.setIfInBounds_toArray, List.set_cons_zero, List.set_cons_succ]
              refine rb_take 14 (some 95) (v := ?_) rfl rfl (by kernel_rfl) (by kernel_rfl) (by kernel_rfl) (by kernel_rfl) ?_ ?_
              rotate_left
              focus (intro w' hw'; go_simp; try with_reducible rfl)
              try simp only [Act.put, List.setIfInBounds_toArray, List.set_cons_zero, List.set_cons_succ]
              refine rb_keep 16 rfl (by kernel_rfl) (by kernel_rfl) (by first | assumption | exact hBB _ _) (fun K hK => ?_)
              go_simp
              have hRl5 := hR5.lt
              have hBl5 := hB5.lt
              have hRlx := hRx.lt
              have hBlx := hBx.lt
              first
                | (refine hK.out _ _ (below_lit hB5w _ _) ?_
                   have hA6 := Arr.new w5 49 [.int .u64 (r : Int), .int .u64 (s : Int), .int .u64 (lv2 : Int), .int .u64 (t2 : Int)]
                   have hR6 := hR5.below ((Below.refl _ _).alloc (Nat.le_refl _) (.cells #[.int .u64 (r : Int), .int .u64 (s : Int), .int .u64 (lv2 : Int), .int .u64 (t2 : Int)] 49))
                   have hB6 := hB5.below ((Below.refl _ _).alloc (Nat.le_refl _) (.cells #[.int .u64 (r : Int), .int .u64 (s : Int), .int .u64 (lv2 : Int), .int .u64 (t2 : Int)] 49))
                   have hb6 := hb5w.alloc hB5w (.cells #[.int .u64 (r : Int), .int .u64 (s : Int), .int .u64 (lv2 : Int), .int .u64 (t2 : Int)] 49)
                   have hgz : gr < w5.heap.size ∧ g < w5.heap.size := ⟨hRl5, hBl5⟩
                   generalize w5.heap.size = gz at hA6 hgz ⊢
                   generalize w5.alloc (.cells #[.int .u64 (r : Int), .int .u64 (s : Int), .int .u64 (lv2 : Int), .int .u64 (t2 : Int)] 49) = w6 at hA6 hR6 hB6 hb6 ⊢)
                | (refine hK.out _ (put4 w5 wx.heap.size (.int .u64 (r : Int)) (.int .u64 (s : Int)) (.int .u64 (lv2 : Int)) (.int .u64 (t2 : Int))) (put4_below (Below.refl _ _) hBwx _ _ _ _) ?_
                   have hA6 := put4_arr hz5 (.int .u64 (r : Int)) (.int .u64 (s : Int)) (.int .u64 (lv2 : Int)) (.int .u64 (t2 : Int))
                   have hR6 : RefAt (put4 w5 wx.heap.size (.int .u64 (r : Int)) (.int .u64 (s : Int)) (.int .u64 (lv2 : Int)) (.int .u64 (t2 : Int))) gr r s lv t := hid_arr (put4_far hR5.out (by omega) (.int .u64 (r : Int)) (.int .u64 (s : Int)) (.int .u64 (lv2 : Int)) (.int .u64 (t2 : Int)))
                   have hB6 : BktAt (put4 w5 wx.heap.size (.int .u64 (r : Int)) (.int .u64 (s : Int)) (.int .u64 (lv2 : Int)) (.int .u64 (t2 : Int))) g r s lv t := hid_arr (put4_far hB5.out (by omega) (.int .u64 (r : Int)) (.int .u64 (s : Int)) (.int .u64 (lv2 : Int)) (.int .u64 (t2 : Int)))
                   have hb6 := put4_below hb5w hBwx (.int .u64 (r : Int)) (.int .u64 (s : Int)) (.int .u64 (lv2 : Int)) (.int .u64 (t2 : Int))
                   have hgz : gr < wx.heap.size ∧ g < wx.heap.size := ⟨hRlx, hBlx⟩
                   generalize put4 w5 wx.heap.size (.int .u64 (r : Int)) (.int .u64 (s : Int)) (.int .u64 (lv2 : Int)) (.int .u64 (t2 : Int)) = w6 at hA6 hR6 hB6 hb6 ⊢
                   generalize wx.heap.size = gz at hA6 hgz ⊢)
              clear hK K r0 r1 r2 r3 rf0 rf1 rf2 rf3 rlt
              try clear z0 z1 z2 z3 zf0 zf1 zf2 zf3
              have hB6w := hb6.size
              try simp only [Act.put, List.setIfInBounds_toArray, List.set_cons_zero, List.set_cons_succ]
              refine rb_take 17 (some 13) (v := ?_) rfl rfl (by kernel_rfl) (by kernel_rfl) (by kernel_rfl) (by kernel_rfl) ?_ ?_
              rotate_left
              focus (intro w' hw'; go_simp; try with_reducible rfl)
              try simp only [Act.put, List.setIfInBounds_toArray, List.set_cons_zero, List.set_cons_succ]
              refine rb_done (by first | assumption | exact hBB _ _) (by kernel_rfl) ?_
              skip
              have hAh := Lib.hid hA6
              have c0 := hA6.cell 0
              have c1 := hA6.cell 1
              have c2 := hA6.cell 2
              have c3 := hA6.cell 3
              simp only [List.getElem?_cons_zero, List.getElem?_cons_succ] at c0 c1 c2 c3
              clear hA6
              have r0 := hR6.out.cell 0
              have r1 := hR6.out.cell 1
              have r2 := hR6.out.cell 2
              have r3 := hR6.out.cell 3
              have rf0 := hR6.out.frozen 0
              have rf1 := hR6.out.frozen 1
              have rf2 := hR6.out.frozen 2
              have rf3 := hR6.out.frozen 3
              simp only [List.getElem?_cons_zero, List.getElem?_cons_succ] at r0 r1 r2 r3
              have rlt := hR6.lt
              have hR8 : Arr (put4 w6 gr (.int .u64 (r : Int)) (.int .u64 (s : Int)) (.int .u64 (lv2 : Int)) (.int .u64 (t2 : Int))) gr 49 _ := put4_arr hR6.out (.int .u64 (r : Int)) (.int .u64 (s : Int)) (.int .u64 (lv2 : Int)) (.int .u64 (t2 : Int))
              have hB8 : BktAt (put4 w6 gr (.int .u64 (r : Int)) (.int .u64 (s : Int)) (.int .u64 (lv2 : Int)) (.int .u64 (t2 : Int))) g r s lv t := hid_arr (put4_far hB6.out (by omega) (.int .u64 (r : Int)) (.int .u64 (s : Int)) (.int .u64 (lv2 : Int)) (.int .u64 (t2 : Int)))
              have hb8 : Below w.heap.size w (put4 w6 gr (.int .u64 (r : Int)) (.int .u64 (s : Int)) (.int .u64 (lv2 : Int)) (.int .u64 (t2 : Int))) := put4_below hb6 hws2 (.int .u64 (r : Int)) (.int .u64 (s : Int)) (.int .u64 (lv2 : Int)) (.int .u64 (t2 : Int))
              have hB8w := hb8.size
              have HR8 : RefAt (put4 w6 gr (.int .u64 (r : Int)) (.int .u64 (s : Int)) (.int .u64 (lv2 : Int)) (.int .u64 (t2 : Int))) gr r s lv2 t2 := hid_arr hR8
              have HB8 := Lib.hid hB8
              have Hb8 := Lib.hid hb8
              have HB8w := Lib.hid hB8w
              simp only [put4] at HR8 HB8 Hb8 HB8w
              clear hR8 hB8 hb8 hB8w
              go_wp2_with fail
              generalize (((w6.setCell ⟨gr, 0, none⟩ (.int .u64 (r : Int))).setCell ⟨gr, 1, none⟩ (.int .u64 (s : Int))).setCell ⟨gr, 2, none⟩ (.int .u64 (lv2 : Int))).setCell ⟨gr, 3, none⟩ (.int .u64 (t2 : Int)) = w8 at HR8 HB8 Hb8 HB8w ⊢
              have hB8w := HB8w.out
              clear c0 c1 c2 c3 r0 r1 r2 r3 rf0 rf1 rf2 rf3 rlt
              refine rb_start_at (w.heap.size) (by assumption) (by kernel_rfl) (fun wv hwv hBwv => ?_)
              have hbv := Hb8.out.trans (hwv.mono hB8w)
              have hBv := HB8.out.below hwv
              have hRv := HR8.below hwv
              have hgv := hBv.lt
              have p1v := (hbv.cell (p := ⟨b, o + k * 3 + 1, none⟩) (by simpa using hb)).trans HC1.out
              have p2v := (hbv.cell (p := ⟨b, o + k * 3 + 2, none⟩) (by simpa using hb)).trans HC2.out
              refine rb_take 0 (some 97) (v := ?_) rfl rfl (by kernel_rfl) (by kernel_rfl) (by kernel_rfl) (by kernel_rfl) ?_ ?_
              rotate_left
              focus (intro w' hw'; go_simp; try with_reducible rfl)
              try simp only [Act.put, List.setIfInBounds_toArray, List.set_cons_zero, List.set_cons_succ]
              refine rb_take 1 (some 98) (v := ?_) rfl rfl (by kernel_rfl) (by kernel_rfl) (by kernel_rfl) (by kernel_rfl) ?_ ?_
              rotate_left
              focus (intro w' hw'; go_simp; try with_reducible rfl)
              try simp only [Act.put, List.setIfInBounds_toArray, List.set_cons_zero, List.set_cons_succ]
              refine rb_take 2 (some 99) (v := ?_) rfl rfl (by kernel_rfl) (by kernel_rfl) (by kernel_rfl) (by kernel_rfl) ?_ ?_
              rotate_left
              focus (intro w' hw'; go_simp; try with_reducible rfl)
              try simp only [Act.put, List.setIfInBounds_toArray, List.set_cons_zero, List.set_cons_succ]
              refine rb_take 3 (some 100) (v := ?_) rfl rfl (by kernel_rfl) (by kernel_rfl) (by kernel_rfl) (by kernel_rfl) ?_ ?_
              rotate_left
              focus (intro w' hw'; go_simp; try with_reducible rfl)
              try simp only [Act.put, List.setIfInBounds_toArray, List.set_cons_zero, List.set_cons_succ]
              refine rb_take 4 (some 101) (v := ?_) rfl rfl (by kernel_rfl) (by kernel_rfl) (by kernel_rfl) (by kernel_rfl) ?_ ?_
              rotate_left
              focus (intro w' hw'; go_simp; try with_reducible rfl)
              try simp only [Act.put, List.setIfInBounds_toArray, List.set_cons_zero, List.set_cons_succ]
              refine rb_take 5 (some 102) (v := ?_) rfl rfl (by kernel_rfl) (by kernel_rfl) (by kernel_rfl) (by kernel_rfl) ?_ ?_
              rotate_left
              focus (intro w' hw'; have q := (hw'.cell (p := ⟨b, o + k * 3 + 1, none⟩) (by simpa using hb)).trans p1v; go_simp; try with_reducible rfl)
              try simp only [Act.put, List.setIfInBounds_toArray, List.set_cons_zero, List.set_cons_succ]
              refine rb_take 6 (some 103) (v := ?_) rfl rfl (by kernel_rfl) (by kernel_rfl) (by kernel_rfl) (by kernel_rfl) ?_ ?_
              rotate_left
              focus (intro w' hw'; go_simp; try with_reducible rfl)
              try simp only [Act.put, List.setIfInBounds_toArray, List.set_cons_zero, List.set_cons_succ]
              refine rb_take 7 (some 104) (v := ?_) rfl rfl (by kernel_rfl) (by kernel_rfl) (by kernel_rfl) (by kernel_rfl) ?_ ?_
              rotate_left
              focus (intro w' hw'; go_simp; try with_reducible rfl)
              try simp only [Act.put, List.setIfInBounds_toArray, List.set_cons_zero, List.set_cons_succ]
              refine rb_take 8 (some 105) (v := ?_) rfl rfl (by kernel_rfl) (by kernel_rfl) (by kernel_rfl) (by kernel_rfl) ?_ ?_
              rotate_left
              focus (intro w' hw'; go_simp; try with_reducible rfl)
              try simp only [Act.put, List.setIfInBounds_toArray, List.set_cons_zero, List.set_cons_succ]
              refine rb_take 9 (some 106) (v := ?_) rfl rfl (by kernel_rfl) (by kernel_rfl) (by kernel_rfl) (by kernel_rfl) ?_ ?_
              rotate_left
              focus (intro w' hw'; go_simp; try with_reducible rfl)
              try simp only [Act.put, List.setIfInBounds_toArray, List.set_cons_zero, List.set_cons_succ]
              refine rb_take 10 (some 107) (v := ?_) rfl rfl (by kernel_rfl) (by kernel_rfl) (by kernel_rfl) (by kernel_rfl) ?_ ?_
              rotate_left
              focus (intro w' hw'; have q := (hw'.cell (p := ⟨b, o + k * 3 + 2, none⟩) (by simpa using hb)).trans p2v; go_simp; try with_reducible rfl)
              try simp only [Act.put, List.setIfInBounds_toArray, List.set_cons_zero, List.set_cons_succ]
              refine rb_take 12 (some 109) (v := ?_) rfl rfl (by kernel_rfl) (by kernel_rfl) (by kernel_rfl) (by kernel_rfl) ?_ ?_
              rotate_left
              focus (intro w' hw'; go_simp; try with_reducible rfl)
              try simp only [Act.put, List.setIfInBounds_toArray, List.set_cons_zero, List.set_cons_succ]
              refine rb_keep 11 rfl (by kernel_rfl) (by kernel_rfl) (by first | assumption | exact hBB _ _) (fun K hK => ?_)
              go_simp
              refine (bkt_take_c g r s lv t p1 p2 _ hBv HR.out.1 HR.out.2.1 hI.out.1 HPB.out.2 HPB.out.1).mono ?_
              intro e w9 hpost
              obtain ⟨rfl, hB9, hM9⟩ := take_b HBB.out HL2.out HT2.out hpost
              clear hpost
              refine hK.out _ _ ((hM9.below (Nat.le_of_lt hgv)).mono hgw) ?_
              clear hK K
              have hR9 := hRv.mod hM9 (by omega)
              have hb9 := Below.mod hbv hM9 hgw hbv.size
              have hB9w := hb9.size
              try simp only [Act.put, List.setIfInBounds_toArray, List.set_cons_zero, List.set_cons_succ]
              refine rb_take 13 (some 110) (v := ?_) rfl rfl (by kernel_rfl) (by kernel_rfl) (by kernel_rfl) (by kernel_rfl) ?_ ?_
              rotate_left
              focus (intro w' hw'; go_simp; try with_reducible rfl)
              try simp only [Act.put, List.setIfInBounds_toArray, List.set_cons_zero, List.set_cons_succ]
              refine rb_done (by first | assumption | exact hBB _ _) (by kernel_rfl) ?_
              have HLA := Lib.hid (show lv2 ≤ s by rw [← HL2.out]; have := refL_le (r := r) (t := t) (now := p2) hI.out.1; omega)
              have HLL := Lib.hid (show refL r s lv2 t2 p2 = lv2 ∧ max t2 p2 = t2 from ⟨by rw [← HT2.out]; exact refL_again r s 0 t p2 _, by rw [← HT2.out]; omega⟩)
              have HLN := Lib.hid (show lv2 ≤ s ∧ U64 t2 from ⟨HLA.out, by rw [← HT2.out]; exact U64.of (by have h1 := hI.out.2.out; have h2 := HPB.out.2.out; omega)⟩)
              have hws := hB9w
              have HM := Lib.hid (show r ≤ 2147483648 ∧ s ≤ 2147483648 from ⟨HR.out.1, HR.out.2.1⟩)
              go_wp2_with fail
              refine rb_start_at (w.heap.size) (by assumption) (by kernel_rfl) (fun wy hwy hBwy => ?_)
              have hby := hb9.trans (hwy.mono hb9.size)
              have hBy := hB9.below hwy
              have hRy := hR9.below hwy
              have p2y := (hby.cell (p := ⟨b, o + k * 3 + 2, none⟩) (by simpa using hb)).trans HC2.out
              have r2 := hRy.out.cell 2
              simp only [List.getElem?_cons_zero, List.getElem?_cons_succ] at r2
              have hgy := hBy.lt
              refine rb_take 0 (some 111) (v := ?_) rfl rfl (by kernel_rfl) (by kernel_rfl) (by kernel_rfl) (by kernel_rfl) ?_ ?_
              rotate_left
              focus (intro w' hw'; go_simp; try with_reducible rfl)
              try simp only [Act.put, List.setIfInBounds_toArray, List.set_cons_zero, List.set_cons_succ]
              refine rb_take 1 (some 112) (v := ?_) rfl rfl (by kernel_rfl) (by kernel_rfl) (by kernel_rfl) (by kernel_rfl) ?_ ?_
              rotate_left
              focus (intro w' hw'; go_simp; try with_reducible rfl)
              try simp only [Act.put, List.setIfInBounds_toArray, List.set_cons_zero, List.set_cons_succ]
              refine rb_take 2 (some 113) (v := ?_) rfl rfl (by kernel_rfl) (by kernel_rfl) (by kernel_rfl) (by kernel_rfl) ?_ ?_
              rotate_left
              focus (intro w' hw'; go_simp; try with_reducible rfl)
              try simp only [Act.put, List.setIfInBounds_toArray, List.set_cons_zero, List.set_cons_succ]
              refine rb_take 3 (some 114) (v := ?_) rfl rfl (by kernel_rfl) (by kernel_rfl) (by kernel_rfl) (by kernel_rfl) ?_ ?_
              rotate_left
              focus (intro w' hw'; go_simp; try with_reducible rfl)
              try simp only [Act.put, List.setIfInBounds_toArray, List.set_cons_zero, List.set_cons_succ]
              refine rb_take 4 (some 115) (v := ?_) rfl rfl (by kernel_rfl) (by kernel_rfl) (by kernel_rfl) (by kernel_rfl) ?_ ?_
              rotate_left
              focus (intro w' hw'; go_simp; try with_reducible rfl)
              try simp only [Act.put, List.setIfInBounds_toArray, List.set_cons_zero, List.set_cons_succ]
              refine rb_take 5 (some 116) (v := ?_) rfl rfl (by kernel_rfl) (by kernel_rfl) (by kernel_rfl) (by kernel_rfl) ?_ ?_
              rotate_left
              focus (intro w' hw'; have q := (hw'.cell (p := ⟨b, o + k * 3 + 2, none⟩) (by simpa using hb)).trans p2y; go_simp; try with_reducible rfl)
              try simp only [Act.put, List.setIfInBounds_toArray, List.set_cons_zero, List.set_cons_succ]
              refine rb_take 7 (some 118) (v := ?_) rfl rfl (by kernel_rfl) (by kernel_rfl) (by kernel_rfl) (by kernel_rfl) ?_ ?_
              rotate_left
              focus (intro w' hw'; go_simp; try with_reducible rfl)
              try simp only [Act.put, List.setIfInBounds_toArray, List.set_cons_zero, List.set_cons_succ]
              refine rb_keep2 6 8 rfl rfl (by kernel_rfl) (by kernel_rfl) (by kernel_rfl) (by first | assumption | exact hBB _ _) (fun K hK => ?_) (fun K hK => ?_)
              · go_simp
                refine (bkt_level_c g r s lv2 t2 p2 _ hBy HM.out.1 HM.out.2 HLA.out HPB.out.2).mono ?_
                rintro e w7 ⟨rfl, hB7, hM7⟩
                rw [HLL.out.1, HLL.out.2] at hB7
                rw [HLL.out.1]
                refine hK.out _ _ ((hM7.below (Nat.le_of_lt hgy)).mono hgw) ?_
                clear hK K
                have hR7 := hRy.mod hM7 (by omega)
                have r27 := hR7.out.cell 2
                simp only [List.getElem?_cons_zero, List.getElem?_cons_succ] at r27
                have hB7w : w.heap.size ≤ w7.heap.size := Nat.le_trans hBwy hM7.size
                have hb7 := Below.mod hby hM7 hgw hby.size
                try simp only [Act.put, List.setIfInBounds_toArray, List.set_cons_zero, List.set_cons_succ]
                refine rb_keep 8 rfl (by kernel_rfl) (by kernel_rfl) (by first | assumption | exact hBB _ _) (fun K hK => ?_)
                go_simp
                refine hK.out _ _ (Below.refl _ _) ?_
                clear hK K
                try simp only [Act.put, List.setIfInBounds_toArray, List.set_cons_zero, List.set_cons_succ]
                refine rb_take 9 (some 120) (v := ?_) rfl rfl (by kernel_rfl) (by kernel_rfl) (by kernel_rfl) (by kernel_rfl) ?_ ?_
                rotate_left
                focus (intro w' hw'; go_simp; try with_reducible rfl)
                try simp only [Act.put, List.setIfInBounds_toArray, List.set_cons_zero, List.set_cons_succ]
                refine rb_done (by first | assumption | exact hBB _ _) (by kernel_rfl) ?_
                go_wp2_with fail
                go_roundw
                case rel => exact ⟨k + 1, lv2, t2, by omega, by omega, by go_num, hB7, hR7, HLN, hb7⟩
                case measure => (simp [intOf] <;> omega)
              · go_simp
                refine hK.out _ _ (Below.refl _ _) ?_
                clear hK K
                try simp only [Act.put, List.setIfInBounds_toArray, List.set_cons_zero, List.set_cons_succ]
                refine rb_keep 6 rfl (by kernel_rfl) (by kernel_rfl) (by first | assumption | exact hBB _ _) (fun K hK => ?_)
                go_simp
                refine (bkt_level_c g r s lv2 t2 p2 _ hBy HM.out.1 HM.out.2 HLA.out HPB.out.2).mono ?_
                rintro e w7 ⟨rfl, hB7, hM7⟩
                rw [HLL.out.1, HLL.out.2] at hB7
                rw [HLL.out.1]
                refine hK.out _ _ ((hM7.below (Nat.le_of_lt hgy)).mono hgw) ?_
                clear hK K
                have hR7 := hRy.mod hM7 (by omega)
                have r27 := hR7.out.cell 2
                simp only [List.getElem?_cons_zero, List.getElem?_cons_succ] at r27
                have hB7w : w.heap.size ≤ w7.heap.size := Nat.le_trans hBwy hM7.size
                have hb7 := Below.mod hby hM7 hgw hby.size
                try simp only [Act.put, List.setIfInBounds_toArray, List.set_cons_zero, List.set_cons_succ]
                refine rb_take 9 (some 120) (v := ?_) rfl rfl (by kernel_rfl) (by kernel_rfl) (by kernel_rfl) (by kernel_rfl) ?_ ?_
                rotate_left
                focus (intro w' hw'; go_simp; try with_reducible rfl)
                try simp only [Act.put, List.setIfInBounds_toArray, List.set_cons_zero, List.set_cons_succ]
                refine rb_done (by first | assumption | exact hBB _ _) (by kernel_rfl) ?_
                go_wp2_with fail
                go_roundw
                case rel => exact ⟨k + 1, lv2, t2, by omega, by omega, by go_num, hB7, hR7, HLN, hb7⟩
                case measure => (simp [intOf] <;> omega)
          · go_simp
            refine hK.out _ _ ((Below.refl _ _).alloc (by assumption) _) ?_
            clear hK K
            try simp only [Act.put, List.setIfInBounds_toArray, List.set_cons_zero, List.set_cons_succ]
            refine rb_keep 0 rfl (by kernel_rfl) (by kernel_rfl) (by first | assumption | exact hBB _ _) (fun K hK => ?_)
            go_simp
            refine hK.out _ _ (Below.refl _ _) ?_
            clear hK K
            try simp only [Act.put, List.setIfInBounds_toArray, List.set_cons_zero, List.set_cons_succ]
            refine rb_keep 11 rfl (by kernel_rfl) (by kernel_rfl) (by first | assumption | exact hBB _ _) (fun K hK => ?_)
            go_simp
            refine (ref_take_c r s lv t p1 p2 _ HR.out.1 HR.out.2.1 hI.out.1 HPB.out.2 HPB.out.1 bb HBB.out).mono ?_
            rintro e w5 ⟨rfl, hb5⟩
            rw [HL2.out, HT2.out]
            unfold bktV
            refine hK.out _ _ (hb5.mono (by assumption)) ?_
            clear hK K
            first | have hR5 := hRx.below hb5 | have hR5 := (hRx.below ((Below.refl _ _).alloc (Nat.le_refl _) _)).below hb5
            first | have hB5 := hBx.below hb5 | have hB5 := (hBx.below ((Below.refl _ _).alloc (Nat.le_refl _) _)).below hb5
            first | have hb5w := hbx.trans (hb5.mono hbx.size) | have hb5w := (hbx.alloc hbx.size _).trans (hb5.mono hAx)
            have hB5w := hb5w.size
            have hA5 : w.heap.size ≤ (w5.alloc (.cells #[.int .u64 0, .int .u64 0, .int .u64 0, .int .u64 0] 49)).heap.size := by simp; omega
            try have hz5 := (Arr.new wx 49 [.int .u64 0, .int .u64 0, .int .u64 0, .int .u64 0]).below hb5 (by simp)
            try (have z0 := hz5.cell 0; have z1 := hz5.cell 1; have z2 := hz5.cell 2; have z3 := hz5.cell 3; have zf0 := hz5.frozen 0; have zf1 := hz5.frozen 1; have zf2 := hz5.frozen 2; have zf3 := hz5.frozen 3; simp only [List.getElem?_cons_zero, List.getElem?_cons_succ] at z0 z1 z2 z3)
            try simp only [Act.put, List.setIfInBounds_toArray, List.set_cons_zero, List.set_cons_succ]
            refine rb_take 12 (some 81) (v := ?_) rfl rfl (by kernel_rfl) (by kernel_rfl) (by kernel_rfl) (by kernel_rfl) ?_ ?_
            rotate_left
            focus (intro w' hw'; go_simp; try with_reducible rfl)
            try simp only [Act.put, List.setIfInBounds_toArray, List.set_cons_zero, List.set_cons_succ]
            refine rb_take 13 (some 94) (v := ?_) rfl rfl (by kernel_rfl) (by kernel_rfl) (by kernel_rfl) (by kernel_rfl) ?_ ?_
            rotate_left
            focus (intro w' hw'; go_simp; try with_reducible rfl)
            try simp only [Act.put, List.setIfInBounds_toArray, List.set_cons_zero, List.set_cons_succ]
            refine rb_take 14 (some 95) (v := ?_) rfl rfl (by kernel_rfl) (by kernel_rfl) (by kernel_rfl) (by kernel_rfl) ?_ ?_
            rotate_left
            focus (intro w' hw'; go_simp; try with_reducible rfl)
            try simp only [Act.put, List.setIfInBounds_toArray, List.set_cons_zero, List.set_cons_succ]
            refine rb_keep 16 rfl (by kernel_rfl) (by kernel_rfl) (by first | assumption | exact hBB _ _) (fun K hK => ?_)
            go_simp
            have hRl5 := hR5.lt
            have hBl5 := hB5.lt
            have hRlx := hRx.lt
            have hBlx := hBx.lt
            first
              | (refine hK.out _ _ (below_lit hB5w _ _) ?_
                 have hA6 := Arr.new w5 49 [.int .u64 (r : Int), .int .u64 (s : Int), .int .u64 (lv2 : Int), .int .u64 (t2 : Int)]
                 have hR6 := hR5.below ((Below.refl _ _).alloc (Nat.le_refl _) (.cells #[.int .u64 (r : Int), .int .u64 (s : Int), .int .u64 (lv2 : Int), .int .u64 (t2 : Int)] 49))
                 have hB6 := hB5.below ((Below.refl _ _).alloc (Nat.le_refl _) (.cells #[.int .u64 (r : Int), .int .u64 (s : Int), .int .u64 (lv2 : Int), .int .u64 (t2 : Int)] 49))
                 have hb6 := hb5w.alloc hB5w (.cells #[.int .u64 (r : Int), .int .u64 (s : Int), .int .u64 (lv2 : Int), .int .u64 (t2 : Int)] 49)
                 have hgz : gr < w5.heap.size ∧ g < w5.heap.size := ⟨hRl5, hBl5⟩
                 generalize w5.heap.size = gz at hA6 hgz ⊢
                 generalize w5.alloc (.cells #[.int .u64 (r : Int), .int .u64 (s : Int), .int .u64 (lv2 : Int), .int .u64 (t2 : Int)] 49) = w6 at hA6 hR6 hB6 hb6 ⊢)
              | (refine hK.out _ (put4 w5 wx.heap.size (.int .u64 (r : Int)) (.int .u64 (s : Int)) (.int .u64 (lv2 : Int)) (.int .u64 (t2 : Int))) (put4_below (Below.refl _ _) hBwx _ _ _ _) ?_
                 have hA6 := put4_arr hz5 (.int .u64 (r : Int)) (.int .u64 (s : Int)) (.int .u64 (lv2 : Int)) (.int .u64 (t2 : Int))
                 have hR6 : RefAt (put4 w5 wx.heap.size (.int .u64 (r : Int)) (.int .u64 (s : Int)) (.int .u64 (lv2 : Int)) (.int .u64 (t2 : Int))) gr r s lv t := hid_arr (put4_far hR5.out (by omega) (.int .u64 (r : Int)) (.int .u64 (s : Int)) (.int .u64 (lv2 : Int)) (.int .u64 (t2 : Int)))
                 have hB6 : BktAt (put4 w5 wx.heap.size (.int .u64 (r : Int)) (.int .u64 (s : Int)) (.int .u64 (lv2 : Int)) (.int .u64 (t2 : Int))) g r s lv t := hid_arr (put4_far hB5.out (by omega) (.int .u64 (r : Int)) (.int .u64 (s : Int)) (.int .u64 (lv2 : Int)) (.int .u64 (t2 : Int)))
                 have hb6 := put4_below hb5w hBwx (.int .u64 (r : Int)) (.int .u64 (s : Int)) (.int .u64 (lv2 : Int)) (.int .u64 (t2 : Int))
                 have hgz : gr < wx.heap.size ∧ g < wx.heap.size := ⟨hRlx, hBlx⟩
                 generalize put4 w5 wx.heap.size (.int .u64 (r : Int)) (.int .u64 (s : Int)) (.int .u64 (lv2 : Int)) (.int .u64 (t2 : Int)) = w6 at hA6 hR6 hB6 hb6 ⊢
                 generalize wx.heap.size = gz at hA6 hgz ⊢)
            clear hK K r0 r1 r2 r3 rf0 rf1 rf2 rf3 rlt
            try clear z0 z1 z2 z3 zf0 zf1 zf2 zf3
            have hB6w := hb6.size
            try simp only [Act.put, List.setIfInBounds_toArray, List.set_cons_zero, List.set_cons_succ]
            refine rb_take 17 (some 13) (v := ?_) rfl rfl (by kernel_rfl) (by kernel_rfl) (by kernel_rfl) (by kernel_rfl) ?_ ?_
            rotate_left
            focus (intro w' hw'; go_simp; try with_reducible rfl)
            try simp only [Act.put, List.setIfInBounds_toArray, List.set_cons_zero, List.set_cons_succ]
            refine rb_done (by first | assumption | exact hBB _ _) (by kernel_rfl) ?_
            skip
            have hAh := Lib.hid hA6
            have c0 := hA6.cell 0
            have c1 := hA6.cell 1
            have c2 := hA6.cell 2
            have c3 := hA6.cell 3
            simp only [List.getElem?_cons_zero, List.getElem?_cons_succ] at c0 c1 c2 c3
            clear hA6
            have r0 := hR6.out.cell 0
            have r1 := hR6.out.cell 1
            have r2 := hR6.out.cell 2
            have r3 := hR6.out.cell 3
            have rf0 := hR6.out.frozen 0
            have rf1 := hR6.out.frozen 1
            have rf2 := hR6.out.frozen 2
            have rf3 := hR6.out.frozen 3
            simp only [List.getElem?_cons_zero, List.getElem?_cons_succ] at r0 r1 r2 r3
            have rlt := hR6.lt
            have hR8 : Arr (put4 w6 gr (.int .u64 (r : Int)) (.int .u64 (s : Int)) (.int .u64 (lv2 : Int)) (.int .u64 (t2 : Int))) gr 49 _ := put4_arr hR6.out (.int .u64 (r : Int)) (.int .u64 (s : Int)) (.int .u64 (lv2 : Int)) (.int .u64 (t2 : Int))
            have hB8 : BktAt (put4 w6 gr (.int .u64 (r : Int)) (.int .u64 (s : Int)) (.int .u64 (lv2 : Int)) (.int .u64 (t2 : Int))) g r s lv t := hid_arr (put4_far hB6.out (by omega) (.int .u64 (r : Int)) (.int .u64 (s : Int)) (.int .u64 (lv2 : Int)) (.int .u64 (t2 : Int)))
            have hb8 : Below w.heap.size w (put4 w6 gr (.int .u64 (r : Int)) (.int .u64 (s : Int)) (.int .u64 (lv2 : Int)) (.int .u64 (t2 : Int))) := put4_below hb6 hws2 (.int .u64 (r : Int)) (.int .u64 (s : Int)) (.int .u64 (lv2 : Int)) (.int .u64 (t2 : Int))
            have hB8w := hb8.size
            have HR8 : RefAt (put4 w6 gr (.int .u64 (r : Int)) (.int .u64 (s : Int)) (.int .u64 (lv2 : Int)) (.int .u64 (t2 : Int))) gr r s lv2 t2 := hid_arr hR8
            have HB8 := Lib.hid hB8
            have Hb8 := Lib.hid hb8
            have HB8w := Lib.hid hB8w
            simp only [put4] at HR8 HB8 Hb8 HB8w
            clear hR8 hB8 hb8 hB8w
            go_wp2_with fail
            generalize (((w6.setCell ⟨gr, 0, none⟩ (.int .u64 (r : Int))).setCell ⟨gr, 1, none⟩ (.int .u64 (s : Int))).setCell ⟨gr, 2, none⟩ (.int .u64 (lv2 : Int))).setCell ⟨gr, 3, none⟩ (.int .u64 (t2 : Int)) = w8 at HR8 HB8 Hb8 HB8w ⊢
            have hB8w := HB8w.out
            clear c0 c1 c2 c3 r0 r1 r2 r3 rf0 rf1 rf2 rf3 rlt
            refine rb_start_at (w.heap.size) (by assumption) (by kernel_rfl) (fun wv hwv hBwv => ?_)
            have hbv := Hb8.out.trans (hwv.mono hB8w)
            have hBv := HB8.out.below hwv
            have hRv := HR8.below hwv
            have hgv := hBv.lt
            have p1v := (hbv.cell (p := ⟨b, o + k * 3 + 1, none⟩) (by simpa using hb)).trans HC1.out
            have p2v := (hbv.cell (p := ⟨b, o + k * 3 + 2, none⟩) (by simpa using hb)).trans HC2.out
            refine rb_take 0 (some 97) (v := ?_) rfl rfl (by kernel_rfl) (by kernel_rfl) (by kernel_rfl) (by kernel_rfl) ?_ ?_
            rotate_left
            focus (intro w' hw'; go_simp; try with_reducible rfl)
            try simp only [Act.put, List.setIfInBounds_toArray, List.set_cons_zero, List.set_cons_succ]
            refine rb_take 1 (some 98) (v := ?_) rfl rfl (by kernel_rfl) (by kernel_rfl) (by kernel_rfl) (by kernel_rfl) ?_ ?_
            rotate_left
            focus (intro w' hw'; go_simp; try with_reducible rfl)
            try simp only [Act.put, List.setIfInBounds_toArray, List.set_cons_zero, List.set_cons_succ]
            refine rb_take 2 (some 99) (v := ?_) rfl rfl (by kernel_rfl) (by kernel_rfl) (by kernel_rfl) (by kernel_rfl) ?_ ?_
            rotate_left
            focus (intro w' hw'; go_simp; try with_reducible rfl)
            try simp only [Act.put, List.setIfInBounds_toArray, List.set_cons_zero, List.set_cons_succ]
            refine rb_take 3 (some 100) (v := ?_) rfl rfl (by kernel_rfl) (by kernel_rfl) (by kernel_rfl) (by kernel_rfl) ?_ ?_
            rotate_left
            focus (intro w' hw'; go_simp; try with_reducible rfl)
            try simp only [Act.put, List.setIfInBounds_toArray, List.set_cons_zero, List.set_cons_succ]
            refine rb_take 4 (some 101) (v := ?_) rfl rfl (by kernel_rfl) (by kernel_rfl) (by kernel_rfl) (by kernel_rfl) ?_ ?_
            rotate_left
            focus (intro w' hw'; go_simp; try with_reducible rfl)
            try simp only [Act.put, List.setIfInBounds_toArray, List.set_cons_zero, List.set_cons_succ]
            refine rb_take 5 (some 102) (v := ?_) rfl rfl (by kernel_rfl) (by kernel_rfl) (by kernel_rfl) (by kernel_rfl) ?_ ?_
            rotate_left
            focus (intro w' hw'; have q := (hw'.cell (p := ⟨b, o + k * 3 + 1, none⟩) (by simpa using hb)).trans p1v; go_simp; try with_reducible rfl)
            try simp only [Act.put, List.setIfInBounds_toArray, List.set_cons_zero, List.set_cons_succ]
            refine rb_take 6 (some 103) (v := ?_) rfl rfl (by kernel_rfl) (by kernel_rfl) (by kernel_rfl) (by kernel_rfl) ?_ ?_
            rotate_left
            focus (intro w' hw'; go_simp; try with_reducible rfl)
            try simp only [Act.put, List.setIfInBounds_toArray, List.set_cons_zero, List.set_cons_succ]
            refine rb_take 7 (some 104) (v := ?_) rfl rfl (by kernel_rfl) (by kernel_rfl) (by kernel_rfl) (by kernel_rfl) ?_ ?_
            rotate_left
            focus (intro w' hw'; go_simp; try with_reducible rfl)
            try simp only [Act.put, List.setIfInBounds_toArray, List.set_cons_zero, List.set_cons_succ]
            refine rb_take 8 (some 105) (v := ?_) rfl rfl (by kernel_rfl) (by kernel_rfl) (by kernel_rfl) (by kernel_rfl) ?_ ?_
            rotate_left
            focus (intro w' hw'; go_simp; try with_reducible rfl)
            try simp only [Act.put, List.setIfInBounds_toArray, List.set_cons_zero, List.set_cons_succ]
            refine rb_take 9 (some 106) (v := ?_) rfl rfl (by kernel_rfl) (by kernel_rfl) (by kernel_rfl) (by kernel_rfl) ?_ ?_
            rotate_left
            focus (intro w' hw'; go_simp; try with_reducible rfl)
            try simp only [Act.put, List.setIfInBounds_toArray, List.set_cons_zero, List.set_cons_succ]
            refine rb_take 10 (some 107) (v := ?_) rfl rfl (by kernel_rfl) (by kernel_rfl) (by kernel_rfl) (by kernel_rfl) ?_ ?_
            rotate_left
            focus (intro w' hw'; have q := (hw'.cell (p := ⟨b, o + k * 3 + 2, none⟩) (by simpa using hb)).trans p2v; go_simp; try with_reducible rfl)
            try simp only [Act.put, List.setIfInBounds_toArray, List.set_cons_zero, List.set_cons_succ]
            refine rb_take 12 (some 109) (v := ?_) rfl rfl (by kernel_rfl) (by kernel_rfl) (by kernel_rfl) (by kernel_rfl) ?_ ?_
            rotate_left
            focus (intro w' hw'; go_simp; try with_reducible rfl)
            try simp only [Act.put, List.setIfInBounds_toArray, List.set_cons_zero, List.set_cons_succ]
            refine rb_keep 11 rfl (by kernel_rfl) (by kernel_rfl) (by first | assumption | exact hBB _ _) (fun K hK => ?_)
            go_simp
            refine (bkt_take_c g r s lv t p1 p2 _ hBv HR.out.1 HR.out.2.1 hI.out.1 HPB.out.2 HPB.out.1).mono ?_
            intro e w9 hpost
            obtain ⟨rfl, hB9, hM9⟩ := take_b HBB.out HL2.out HT2.out hpost
            clear hpost
            refine hK.out _ _ ((hM9.below (Nat.le_of_lt hgv)).mono hgw) ?_
            clear hK K
            have hR9 := hRv.mod hM9 (by omega)
            have hb9 := Below.mod hbv hM9 hgw hbv.size
            have hB9w := hb9.size
            try simp only [Act.put, List.setIfInBounds_toArray, List.set_cons_zero, List.set_cons_succ]
            refine rb_take 13 (some 110) (v := ?_) rfl rfl (by kernel_rfl) (by kernel_rfl) (by kernel_rfl) (by kernel_rfl) ?_ ?_
            rotate_left
            focus (intro w' hw'; go_simp; try with_reducible rfl)
            try simp only [Act.put, List.setIfInBounds_toArray, List.set_cons_zero, List.set_cons_succ]
            refine rb_done (by first | assumption | exact hBB _ _) (by kernel_rfl) ?_
            have HLA := Lib.hid (show lv2 ≤ s by rw [← HL2.out]; have := refL_le (r := r) (t := t) (now := p2) hI.out.1; omega)
            have HLL := Lib.hid (show refL r s lv2 t2 p2 = lv2 ∧ max t2 p2 = t2 from ⟨by rw [← HT2.out]; exact refL_again r s 0 t p2 _, by rw [← HT2.out]; omega⟩)
            have HLN := Lib.hid (show lv2 ≤ s ∧ U64 t2 from ⟨HLA.out, by rw [← HT2.out]; exact U64.of (by have h1 := hI.out.2.out; have h2 := HPB.out.2.out; omega)⟩)
            have hws := hB9w
            have HM := Lib.hid (show r ≤ 2147483648 ∧ s ≤ 2147483648 from ⟨HR.out.1, HR.out.2.1⟩)
            go_wp2_with fail
            refine rb_start_at (w.heap.size) (by assumption) (by kernel_rfl) (fun wy hwy hBwy => ?_)
            have hby := hb9.trans (hwy.mono hb9.size)
            have hBy := hB9.below hwy
            have hRy := hR9.below hwy
            have p2y := (hby.cell (p := ⟨b, o + k * 3 + 2, none⟩) (by simpa using hb)).trans HC2.out
            have r2 := hRy.out.cell 2
            simp only [List.getElem?_cons_zero, List.getElem?_cons_succ] at r2
            have hgy := hBy.lt
            refine rb_take 0 (some 111) (v := ?_) rfl rfl (by kernel_rfl) (by kernel_rfl) (by kernel_rfl) (by kernel_rfl) ?_ ?_
            rotate_left
            focus (intro w' hw'; go_simp; try with_reducible rfl)
            try simp only [Act.put, List.setIfInBounds_toArray, List.set_cons_zero, List.set_cons_succ]
            refine rb_take 1 (some 112) (v := ?_) rfl rfl (by kernel_rfl) (by kernel_rfl) (by kernel_rfl) (by kernel_rfl) ?_ ?_
            rotate_left
            focus (intro w' hw'; go_simp; try with_reducible rfl)
            try simp only [Act.put, List.setIfInBounds_toArray, List.set_cons_zero, List.set_cons_succ]
            refine rb_take 2 (some 113) (v := ?_) rfl rfl (by kernel_rfl) (by kernel_rfl) (by kernel_rfl) (by kernel_rfl) ?_ ?_
            rotate_left
            focus (intro w' hw'; go_simp; try with_reducible rfl)
            try simp only [Act.put, List.setIfInBounds_toArray, List.set_cons_zero, List.set_cons_succ]
            refine rb_take 3 (some 114) (v := ?_) rfl rfl (by kernel_rfl) (by kernel_rfl) (by kernel_rfl) (by kernel_rfl) ?_ ?_
            rotate_left
            focus (intro w' hw'; go_simp; try with_reducible rfl)
            try simp only [Act.put, List.setIfInBounds_toArray, List.set_cons_zero, List.set_cons_succ]
            refine rb_take 4 (some 115) (v := ?_) rfl rfl (by kernel_rfl) (by kernel_rfl) (by kernel_rfl) (by kernel_rfl) ?_ ?_
            rotate_left
            focus (intro w' hw'; go_simp; try with_reducible rfl)
            try simp only [Act.put, List.setIfInBounds_toArray, List.set_cons_zero, List.set_cons_succ]
            refine rb_take 5 (some 116) (v := ?_) rfl rfl (by kernel_rfl) (by kernel_rfl) (by kernel_rfl) (by kernel_rfl) ?_ ?_
            rotate_left
            focus (intro w' hw'; have q := (hw'.cell (p := ⟨b, o + k * 3 + 2, none⟩) (by simpa using hb)).trans p2y; go_simp; try with_reducible rfl)
            try simp only [Act.put, List.setIfInBounds_toArray, List.set_cons_zero, List.set_cons_succ]
            refine rb_take 7 (some 118) (v := ?_) rfl rfl (by kernel_rfl) (by kernel_rfl) (by kernel_rfl) (by kernel_rfl) ?_ ?_
            rotate_left
            focus (intro w' hw'; go_simp; try with_reducible rfl)
            try simp only [Act.put, List.setIfInBounds_toArray, List.set_cons_zero, List.set_cons_succ]
            refine rb_keep2 6 8 rfl rfl (by kernel_rfl) (by kernel_rfl) (by kernel_rfl) (by first | assumption | exact hBB _ _) (fun K hK => ?_) (fun K hK => ?_)
            · go_simp
              refine (bkt_level_c g r s lv2 t2 p2 _ hBy HM.out.1 HM.out.2 HLA.out HPB.out.2).mono ?_
              rintro e w7 ⟨rfl, hB7, hM7⟩
              rw [HLL.out.1, HLL.out.2] at hB7
              rw [HLL.out.1]
              refine hK.out _ _ ((hM7.below (Nat.le_of_lt hgy)).mono hgw) ?_
              clear hK K
              have hR7 := hRy.mod hM7 (by omega)
              have r27 := hR7.out.cell 2
              simp only [List.getElem?_cons_zero, List.getElem?_cons_succ] at r27
              have hB7w : w.heap.size ≤ w7.heap.size := Nat.le_trans hBwy hM7.size
              have hb7 := Below.mod hby hM7 hgw hby.size
              try simp only [Act.put, List.setIfInBounds_toArray, List.set_cons_zero, List.set_cons_succ]
              refine rb_keep 8 rfl (by kernel_rfl) (by kernel_rfl) (by first | assumption | exact hBB _ _) (fun K hK => ?_)
              go_simp
              refine hK.out _ _ (Below.refl _ _) ?_
              clear hK K
              try simp only [Act.put, List.setIfInBounds_toArray, List.set_cons_zero, List.set_cons_succ]
              refine rb_take 9 (some 120) (v := ?_) rfl rfl (by kernel_rfl) (by kernel_rfl) (by kernel_rfl) (by kernel_rfl) ?_ ?_
              rotate_left
              focus (intro w' hw'; go_simp; try with_reducible rfl)
              try simp only [Act.put, List.setIfInBounds_toArray, List.set_cons_zero, List.set_cons_succ]
              refine rb_done (by first | assumption | exact hBB _ _) (by kernel_rfl) ?_
              go_wp2_with fail
              go_roundw
              case rel => exact ⟨k + 1, lv2, t2, by omega, by omega, by go_num, hB7, hR7, HLN, hb7⟩
              case measure => (simp [intOf] <;> omega)
            · go_simp
              refine hK.out _ _ (Below.refl _ _) ?_
              clear hK K
              try simp only [Act.put, List.setIfInBounds_toArray, List.set_cons_zero, List.set_cons_succ]
              refine rb_keep 6 rfl (by kernel_rfl) (by kernel_rfl) (by first | assumption | exact hBB _ _) (fun K hK => ?_)
              go_simp
              refine (bkt_level_c g r s lv2 t2 p2 _ hBy HM.out.1 HM.out.2 HLA.out HPB.out.2).mono ?_
              rintro e w7 ⟨rfl, hB7, hM7⟩
              rw [HLL.out.1, HLL.out.2] at hB7
              rw [HLL.out.1]
              refine hK.out _ _ ((hM7.below (Nat.le_of_lt hgy)).mono hgw) ?_
              clear hK K
              have hR7 := hRy.mod hM7 (by omega)
              have r27 := hR7.out.cell 2
              simp only [List.getElem?_cons_zero, List.getElem?_cons_succ] at r27
              have hB7w : w.heap.size ≤ w7.heap.size := Nat.le_trans hBwy hM7.size
              have hb7 := Below.mod hby hM7 hgw hby.size
              try simp only [Act.put, List.setIfInBounds_toArray, List.set_cons_zero, List.set_cons_succ]
              refine rb_take 9 (some 120) (v := ?_) rfl rfl (by kernel_rfl) (by kernel_rfl) (by kernel_rfl) (by kernel_rfl) ?_ ?_
              rotate_left
              focus (intro w' hw'; go_simp; try with_reducible rfl)
              try simp only [Act.put, List.setIfInBounds_toArray, List.set_cons_zero, List.set_cons_succ]
              refine rb_done (by first | assumption | exact hBB _ _) (by kernel_rfl) ?_
              go_wp2_with fail
              go_roundw
              case rel => exact ⟨k + 1, lv2, t2, by omega, by omega, by go_num, hB7, hR7, HLN, hb7⟩
              case measure => (simp [intOf] <;> omega)
      · have hb2 : ¬ ((k : Int) < l.length ∧ (k : Int) < 60) := by omega
        by_cases h1 : (k : Int) < l.length
        · have h2 : ¬ (k : Int) < 60 := by omega
          clear hb2 hlt
          go_wp2_with fail
          refine (meter_awake_c _).mono ?_
          rintro e w4 ⟨rfl, hb4⟩
          go_wp2
          go_ret
          exact ⟨rfl, hbel.trans (hb4.mono hbel.size)⟩
        · clear hb2 hlt
          go_wp2_with fail
          refine (meter_awake_c _).mono ?_
          rintro e w4 ⟨rfl, hb4⟩
          go_wp2
          go_ret
          exact ⟨rfl, hbel.trans (hb4.mono hbel.size)⟩

open Go.ChangeShapes Go.WideShapes Go.ChangeAt in
set_option maxRecDepth 100000 in
theorem walk {H : Type} {enc : TypeId × Value → H} {r : Reach} {b0 : Nat} {d : DataW H} {ps : List MemPlace} (a b : Int) (v : Value) (w : World) (ha : 0 ≤ a ∧ a < 18446744073709551616) (hb : 0 ≤ b ∧ b < 18446744073709551616)
    (hval : Value.okWide Try.prog w r b0 41 v) (hd : DataW.Trod enc Try.prog w 0 (fun _ => true) true 41 v d ps) (hlt : ∀ x ∈ ps, x.block < w.heap.size) :
    Calls Try.prog 4 #[.int .u64 a, .int .u64 b, v] w fun e w' => e = .returned (.bool true) ∧ Below w.heap.size w w' := by
  have hC : Try.prog.cellsOf 51 = 3 := by kernel_rfl
  obtain ⟨A, n, c, es, rfl, hn, hA, hnc, hcm, hv, hes⟩ := open_elems Try.underlying41 (by rw [hC]; omega) hval hd hlt
  obtain ⟨l, rfl, hl⟩ := list_decode (fun p : Int × Nat × Nat => [Value.int .i64 p.1, .int .u64 (p.2.1 : Int), .int .u64 (p.2.2 : Int)]) (fun p => U64 p.2.1 ∧ U64 p.2.2) es (by
    intro cs hcs
    obtain ⟨hl, m, x, ht, _⟩ := hes cs hcs
    rw [hC] at hl
    have hf := struct_fields Try.underlying51 (by kernel_rfl) ht hl
    obtain ⟨v0, y0, k0, h0, t0, _⟩ := hf 0 _ rfl
    obtain ⟨v1, y1, k1, h1, t1, _⟩ := hf 1 _ rfl
    obtain ⟨v2, y2, k2, h2, t2, _⟩ := hf 2 _ rfl
    obtain ⟨z0, e0, _, z0w⟩ := DataW.trod_int Try.underlying3 t0
    obtain ⟨z1, e1, _, z1w⟩ := DataW.trod_int Try.underlying40 t1
    obtain ⟨z2, e2, _, z2w⟩ := DataW.trod_int Try.underlying40 t2
    injection e0 with e0; injection e1 with e1; injection e2 with e2
    subst e0; subst e1; subst e2
    have w1 := wf_u64 z1w
    have w2 := wf_u64 z2w
    refine ⟨(z0, z1.toNat, z2.toNat), ?_, U64.of (n := z1.toNat) (by omega), U64.of (n := z2.toNat) (by omega)⟩
    match cs, hl with
    | [c0, c1, c2], _ => simp at h0 h1 h2; rw [h0, h1, h2]; simp only [Int.toNat_of_nonneg w1.1, Int.toNat_of_nonneg w2.1])
  obtain ⟨r, rfl⟩ := Int.eq_ofNat_of_zero_le ha.1
  obtain ⟨s, rfl⟩ := Int.eq_ofNat_of_zero_le hb.1
  exact walk_ r s A n c l w (U64.of (by omega)) (U64.of (by omega)) (by simpa using hn) (by rw [actV, List.flatMap_def]; exact hv) hl hnc hcm
end Go.Proofs.Ytakmcbgfglnanaa.MeterBuckets

