/- Proved: SpreadAdds returns true for all keys and rows, and changes no memory that was there. Conditions: none. -/
import Derived.Test.YtaaincffbaaopaaSpreadAwake
import Derived.Test.YtaaincffbaaopaaKit
namespace Go.Proofs.Ytaaincffbaaopaa.SpreadAdds
open Go.RowKit

theorem xorB_bytes {a b : List Nat} (ha : Bytes a) (hb : Bytes b) (n : Nat) (h1 : n ≤ a.length) (h2 : n ≤ b.length) : Bytes (xorB a b n) := by
  induction n with
  | zero => exact Bytes.nil
  | succ n ih =>
    refine (ih (by omega) (by omega)).append ?_
    intro x hx
    rw [List.mem_singleton] at hx
    subst hx
    exact Nat.xor_lt_two_pow (n := 8) (nth_lt ha n) (nth_lt hb n)
theorem bit_take (l : List Nat) (n i : Nat) (h : i < 8 * n) : bitOf (l.take n) i = bitOf l i := by
  unfold bitOf nth
  rw [List.getD_eq_getElem?_getD, List.getD_eq_getElem?_getD, List.getElem?_take_of_lt (by omega)]
theorem sumV_take (key l : List Nat) (n i : Nat) (h : i ≤ 8 * n) : sumV key (l.take n) i = sumV key l i := by
  induction i with
  | zero => rfl
  | succ i ih => rw [sumV, sumV, bit_take l n i (by omega), ih (by omega)]
theorem sum_n (A A' : Option Addr) (c c' m : Nat) (key b : List Nat) (w : World) (B : Nat) (hv : BView w B A key) (hv' : BView w B A' b) (hb : b.length ≤ 100000) (hn : key.length ≤ 1000000) (hm : b.length = m) :
    Calls Try.prog 56 #[.slice A key.length c, .slice A' m c'] w fun e w' => e = .returned (.int .u32 (sumV key b (8 * m) : Nat)) ∧ w = w' := by
  subst hm; exact spread_sum_c A A' c c' key b w B hv hv' hb hn

set_option maxRecDepth 100000 in
set_option maxHeartbeats 1000000 in
theorem walk (a0 : Option Addr) (n0 c0 : Nat) (l0 : List Nat) (a1 : Option Addr) (n1 c1 : Nat) (l1 : List Nat) (a2 : Option Addr) (n2 c2 : Nat) (l2 : List Nat) (w : World)
    (w0 : l0.length = n0 ∧ (a0 = none → c0 = 0) ∧ BView w w.heap.size a0 l0 ∧ n0 ≤ c0) (w1 : l1.length = n1 ∧ (a1 = none → c1 = 0) ∧ BView w w.heap.size a1 l1 ∧ n1 ≤ c1) (w2 : l2.length = n2 ∧ (a2 = none → c2 = 0) ∧ BView w w.heap.size a2 l2 ∧ n2 ≤ c2) :
    Calls Try.prog 14 #[.slice a0 n0 c0, .slice a1 n1 c1, .slice a2 n2 c2] w fun e w' => e = .returned (.bool true) ∧ Below w.heap.size w w' := by
  obtain ⟨rfl, _, hv0, hc0⟩ := w0
  obtain ⟨rfl, _, hv1, hc1⟩ := w1
  obtain ⟨rfl, _, hv2, hc2⟩ := w2
  by_cases hb0 : (60 : Int) < (l0.length : Int)
  · go_enter Try.func14, Try.ntmps14
    go_wp2_with fail
    refine (spread_awake_c _).mono ?_
    rintro e w' ⟨rfl, hb⟩
    go_wp2
    go_ret
    exact ⟨rfl, hb⟩
  by_cases hb1 : (100 : Int) < (l1.length : Int)
  · go_enter Try.func14, Try.ntmps14
    go_wp2_with fail
    refine (spread_awake_c _).mono ?_
    rintro e w' ⟨rfl, hb⟩
    go_wp2
    go_ret
    exact ⟨rfl, hb⟩
  by_cases hb2 : (100 : Int) < (l2.length : Int)
  · go_enter Try.func14, Try.ntmps14
    go_wp2_with fail
    refine (spread_awake_c _).mono ?_
    rintro e w' ⟨rfl, hb⟩
    go_wp2
    go_ret
    exact ⟨rfl, hb⟩
  by_cases hle : (l2.length : Int) < (l1.length : Int)
  · have hN1 : l2.length ≤ l1.length := by omega
    have hN2 : l2.length ≤ l2.length := Nat.le_refl _
    go_enter Try.func14, Try.ntmps14
    go_wp2_with fail
    go_loopw [8, 9] (fun v i wr => ∃ (k : Nat) (A' : Option Addr) (c' : Nat), k ≤ l2.length ∧ i = .int .i64 (k : Int) ∧ v = .slice A' k c' ∧ Hid (Own wr w.heap.size 5 A' k c' ((xorB l1 l2 k).map u8v)) ∧ Below w.heap.size w wr) (fun _ i _ => l2.length - (intOf i).toNat)
    case atStart => exact ⟨0, none, 0, Nat.zero_le _, rfl, rfl, Own.nil_ _ _ _, Below.refl _ _⟩
    case round =>
      rename_i wr
      obtain ⟨k, A', c', hk, rfl, rfl, hO, hbel⟩ := hrel
      by_cases hlt : k < l2.length
      · have hk0 : (k : Int) < (l2.length : Int) := by omega
        obtain ⟨b1, o1, rfl, hb1, hct1⟩ := (hv1.below hbel).at_ (show k < l1.length by omega)
        have q1 := hct1 k (by omega)
        obtain ⟨b2, o2, rfl, hb2, hct2⟩ := (hv2.below hbel).at_ (show k < l2.length by omega)
        have q2 := hct2 k (by omega)
        have HX := Lib.hid (u8_xor_nat _ _ (nth_lt hv1.bytes k) (nth_lt hv2.bytes k))
        have HC := Lib.hid (show xorB l1 l2 (k + 1) = xorB l1 l2 k ++ [nth l1 k ^^^ nth l2 k] from rfl)
        have hk1 : (0 : Int) ≤ (k : Int) := by omega
        have hk2 : (k : Int) < (l1.length : Int) := by omega
        have hk3 : (k : Int) < (l2.length : Int) := by omega
        have hws : w.heap.size ≤ wr.heap.size := hbel.size
        clear hct1 hct2
        go_wp2_with fail
        refine rb_start_at (w.heap.size) (by assumption) (by kernel_rfl) (fun wx hwx hBwx => ?_)
        have hOx := Lib.hid (own_keep hO.out (Mod.of_below (g := wr.heap.size) hwx) (by intro a ha e; injection e with e; have := (World.ownsRow.lt hO.out a (by rw [ha]; rfl)).2; omega))
        have p1 := (hwx.cell (p := ⟨b1, o1 + k, none⟩) (by simp; omega)).trans q1
        have p2 := (hwx.cell (p := ⟨b2, o2 + k, none⟩) (by simp; omega)).trans q2
        have hbx := hbel.trans (hwx.mono hbel.size)
        refine rb_take 0 (some 34) (v := ?_) rfl rfl (by kernel_rfl) (by kernel_rfl) (by kernel_rfl) (by kernel_rfl) ?_ ?_
        rotate_left
        focus (intro w' hw'; go_simp; try with_reducible rfl)
        try simp only [Act.put, List.setIfInBounds_toArray, List.set_cons_zero, List.set_cons_succ]
        refine rb_take 1 (some 35) (v := ?_) rfl rfl (by kernel_rfl) (by kernel_rfl) (by kernel_rfl) (by kernel_rfl) ?_ ?_
        rotate_left
        focus (intro w' hw'; go_simp; try with_reducible rfl)
        try simp only [Act.put, List.setIfInBounds_toArray, List.set_cons_zero, List.set_cons_succ]
        refine rb_take 2 (some 36) (v := ?_) rfl rfl (by kernel_rfl) (by kernel_rfl) (by kernel_rfl) (by kernel_rfl) ?_ ?_
        rotate_left
        focus (intro w' hw'; go_simp; try with_reducible rfl)
        try simp only [Act.put, List.setIfInBounds_toArray, List.set_cons_zero, List.set_cons_succ]
        refine rb_take 3 (some 37) (v := ?_) rfl rfl (by kernel_rfl) (by kernel_rfl) (by kernel_rfl) (by kernel_rfl) ?_ ?_
        rotate_left
        focus (intro w' hw'; go_simp; try with_reducible rfl)
        try simp only [Act.put, List.setIfInBounds_toArray, List.set_cons_zero, List.set_cons_succ]
        refine rb_take 4 (some 38) (v := ?_) rfl rfl (by kernel_rfl) (by kernel_rfl) (by kernel_rfl) (by kernel_rfl) ?_ ?_
        rotate_left
        focus (intro w' hw'; have q := (hw'.cell (p := ⟨b1, o1 + k, none⟩) (by simp; omega)).trans p1; go_simp; try with_reducible rfl)
        try simp only [Act.put, List.setIfInBounds_toArray, List.set_cons_zero, List.set_cons_succ]
        refine rb_take 5 (some 39) (v := ?_) rfl rfl (by kernel_rfl) (by kernel_rfl) (by kernel_rfl) (by kernel_rfl) ?_ ?_
        rotate_left
        focus (intro w' hw'; go_simp; try with_reducible rfl)
        try simp only [Act.put, List.setIfInBounds_toArray, List.set_cons_zero, List.set_cons_succ]
        refine rb_take 6 (some 40) (v := ?_) rfl rfl (by kernel_rfl) (by kernel_rfl) (by kernel_rfl) (by kernel_rfl) ?_ ?_
        rotate_left
        focus (intro w' hw'; go_simp; try with_reducible rfl)
        try simp only [Act.put, List.setIfInBounds_toArray, List.set_cons_zero, List.set_cons_succ]
        refine rb_take 7 (some 41) (v := ?_) rfl rfl (by kernel_rfl) (by kernel_rfl) (by kernel_rfl) (by kernel_rfl) ?_ ?_
        rotate_left
        focus (intro w' hw'; go_simp; try with_reducible rfl)
        try simp only [Act.put, List.setIfInBounds_toArray, List.set_cons_zero, List.set_cons_succ]
        refine rb_take 8 (some 42) (v := ?_) rfl rfl (by kernel_rfl) (by kernel_rfl) (by kernel_rfl) (by kernel_rfl) ?_ ?_
        rotate_left
        focus (intro w' hw'; have q := (hw'.cell (p := ⟨b2, o2 + k, none⟩) (by simp; omega)).trans p2; go_simp; try with_reducible rfl)
        try simp only [Act.put, List.setIfInBounds_toArray, List.set_cons_zero, List.set_cons_succ]
        refine rb_take 9 (some 43) (v := ?_) rfl rfl (by kernel_rfl) (by kernel_rfl) (by kernel_rfl) (by kernel_rfl) ?_ ?_
        rotate_left
        focus (intro w' hw'; go_simp; first | rw [HX.out] | with_reducible rfl)
        try simp only [Act.put, List.setIfInBounds_toArray, List.set_cons_zero, List.set_cons_succ]
        refine rb_keep 10 rfl (by kernel_rfl) (by kernel_rfl) (by assumption) (fun K hK => ?_)
        go_simp
        refine hK.out _ _ ((Below.refl _ _).alloc hBwx _) ?_
        clear hK K
        have hB9 : w.heap.size ≤ (wx.alloc (.cells #[.int .u8 ((nth l1 k ^^^ nth l2 k : Nat) : Int)] 5)).heap.size := by simp; omega
        try simp only [Act.put, List.setIfInBounds_toArray, List.set_cons_zero, List.set_cons_succ]
        refine rb_keep 11 rfl (by kernel_rfl) (by kernel_rfl) (by assumption) (fun K hK => ?_)
        refine owp_append_one _ _ _ rfl w.heap.size 5 (.int .u8 0) 1 rfl Try.underlying22 u8info A' k c' ((xorB l1 l2 k).map u8v) rfl (Own.alloc hOx.out _) wx.heap.size (.int .u8 ((nth l1 k ^^^ nth l2 k : Nat) : Int)) rfl ((Arr.new wx 5 [.int .u8 ((nth l1 k ^^^ nth l2 k : Nat) : Int)]).cell 0) rfl (by unfold maxLen; omega) (by omega) hB9 ?_
        intro ga ca wz hoz hgz hplz hlz
        have hbz := (Below.refl w.heap.size (wx.alloc (.cells #[.int .u8 ((nth l1 k ^^^ nth l2 k : Nat) : Int)] 5))).grown hgz hB9 (by intro k9 hk9; rcases row_form hOx.out with h | ⟨g9, h, h1, _⟩ <;> rw [h] at hk9 <;> simp at hk9; omega)
        refine hK.out _ _ hbz ?_
        clear hK K
        have hB10 : w.heap.size ≤ wz.heap.size := Nat.le_trans hB9 hbz.size
        try simp only [Act.put, List.setIfInBounds_toArray, List.set_cons_zero, List.set_cons_succ]
        refine rb_take 12 (some 8) (v := ?_) rfl rfl (by kernel_rfl) (by kernel_rfl) (by kernel_rfl) (by kernel_rfl) ?_ ?_
        rotate_left
        focus (intro w' hw'; go_simp; try with_reducible rfl)
        try simp only [Act.put, List.setIfInBounds_toArray, List.set_cons_zero, List.set_cons_succ]
        refine rb_done (by assumption) (by kernel_rfl) ?_
        go_wp2
        go_roundw
        case rel => exact ⟨k + 1, some ⟨ga, 0, none⟩, ca, by omega, by go_num, rfl, by rw [HC.out, List.map_append]; exact hoz, hbx.trans (((Below.refl _ _).alloc hBwx _).trans hbz)⟩
        case measure => (simp [intOf] <;> omega)
      · obtain rfl : k = l2.length := by omega
        have hvc : BView wr wr.heap.size A' (xorB l1 l2 l2.length) := Own.bview hO.out (xorB_bytes hv1.bytes hv2.bytes _ hN1 hN2)
        have HE := Lib.hid (sumV_xor l0 l1 l2 l2.length (8 * l2.length) (Nat.le_refl _))
        have H1 := Lib.hid (sumV_take l0 l1 l2.length (8 * l2.length) (Nat.le_refl _))
        have H2 := Lib.hid (sumV_take l0 l2 l2.length (8 * l2.length) (Nat.le_refl _))
        have HXX := Lib.hid (u32_xor_nat _ _ (sumV_lt l0 l1 (8 * l2.length)) (sumV_lt l0 l2 (8 * l2.length)))
        have hv0r := (hv0.below hbel).more hbel.size
        have hv1r := ((hv1.take l2.length).below hbel).more hbel.size
        have hv2r := ((hv2.take l2.length).below hbel).more hbel.size
        have HL := Lib.hid (show (xorB l1 l2 l2.length).length = l2.length ∧ (l1.take l2.length).length = l2.length ∧ (l2.take l2.length).length = l2.length ∧ l2.length ≤ 100 from ⟨xorB_length _ _ _, by rw [List.length_take]; omega, by rw [List.length_take]; omega, by omega⟩)
        have hx1 : (0 : Int) ≤ (l2.length : Int) := by omega
        have hx2 : (l2.length : Int) ≤ (c1 : Int) := by omega
        have hx3 : (l2.length : Int) ≤ (c2 : Int) := by omega
        have hx4 : (l1.length : Int) ≤ (c1 : Int) := by omega
        have hx5 : (l2.length : Int) ≤ (c2 : Int) := by omega
        go_wp2_with fail
        refine rb_start (by kernel_rfl) (fun wx hwx => ?_)
        have hbx := hbel.trans (hwx.mono hbel.size)
        have hvcx := (hvc.below hwx).more hwx.size
        have hv0x := (hv0r.below hwx).more hwx.size
        have hv1x := (hv1r.below hwx).more hwx.size
        have hv2x := (hv2r.below hwx).more hwx.size
        refine rb_take 0 (some 46) (v := ?_) rfl rfl (by kernel_rfl) (by kernel_rfl) (by kernel_rfl) (by kernel_rfl) ?_ ?_
        rotate_left
        focus (intro w' hw'; go_simp; try with_reducible rfl)
        try simp only [Act.put, List.setIfInBounds_toArray, List.set_cons_zero, List.set_cons_succ]
        refine rb_take 1 (some 47) (v := ?_) rfl rfl (by kernel_rfl) (by kernel_rfl) (by kernel_rfl) (by kernel_rfl) ?_ ?_
        rotate_left
        focus (intro w' hw'; go_simp; try with_reducible rfl)
        try simp only [Act.put, List.setIfInBounds_toArray, List.set_cons_zero, List.set_cons_succ]
        refine rb_take 3 (some 49) (v := ?_) rfl rfl (by kernel_rfl) (by kernel_rfl) (by kernel_rfl) (by kernel_rfl) ?_ ?_
        rotate_left
        focus (intro w' hw'; go_simp; try with_reducible rfl)
        try simp only [Act.put, List.setIfInBounds_toArray, List.set_cons_zero, List.set_cons_succ]
        refine rb_take 4 (some 50) (v := ?_) rfl rfl (by kernel_rfl) (by kernel_rfl) (by kernel_rfl) (by kernel_rfl) ?_ ?_
        rotate_left
        focus (intro w' hw'; go_simp; try with_reducible rfl)
        try simp only [Act.put, List.setIfInBounds_toArray, List.set_cons_zero, List.set_cons_succ]
        refine rb_take 5 (some 51) (v := ?_) rfl rfl (by kernel_rfl) (by kernel_rfl) (by kernel_rfl) (by kernel_rfl) ?_ ?_
        rotate_left
        focus (intro w' hw'; go_simp; try with_reducible rfl)
        try simp only [Act.put, List.setIfInBounds_toArray, List.set_cons_zero, List.set_cons_succ]
        refine rb_take 6 (some 52) (v := ?_) rfl rfl (by kernel_rfl) (by kernel_rfl) (by kernel_rfl) (by kernel_rfl) ?_ ?_
        rotate_left
        focus (intro w' hw'; go_simp; try with_reducible rfl)
        try simp only [Act.put, List.setIfInBounds_toArray, List.set_cons_zero, List.set_cons_succ]
        refine rb_take 8 (some 54) (v := ?_) rfl rfl (by kernel_rfl) (by kernel_rfl) (by kernel_rfl) (by kernel_rfl) ?_ ?_
        rotate_left
        focus (intro w' hw'; go_simp; try with_reducible rfl)
        try simp only [Act.put, List.setIfInBounds_toArray, List.set_cons_zero, List.set_cons_succ]
        refine rb_take 9 (some 55) (v := ?_) rfl rfl (by kernel_rfl) (by kernel_rfl) (by kernel_rfl) (by kernel_rfl) ?_ ?_
        rotate_left
        focus (intro w' hw'; go_simp; try with_reducible rfl)
        try simp only [Act.put, List.setIfInBounds_toArray, List.set_cons_zero, List.set_cons_succ]
        refine rb_take 10 (some 56) (v := ?_) rfl rfl (by kernel_rfl) (by kernel_rfl) (by kernel_rfl) (by kernel_rfl) ?_ ?_
        rotate_left
        focus (intro w' hw'; go_simp; try with_reducible rfl)
        try simp only [Act.put, List.setIfInBounds_toArray, List.set_cons_zero, List.set_cons_succ]
        refine rb_take 11 (some 57) (v := ?_) rfl rfl (by kernel_rfl) (by kernel_rfl) (by kernel_rfl) (by kernel_rfl) ?_ ?_
        rotate_left
        focus (intro w' hw'; go_simp; try with_reducible rfl)
        try simp only [Act.put, List.setIfInBounds_toArray, List.set_cons_zero, List.set_cons_succ]
        refine rb_step 2 rfl (by kernel_rfl) (by kernel_rfl) (Nat.le_refl _) (fun K hK => ?_)
        go_simp
        refine (sum_n a0 A' c0 c' l2.length l0 (xorB l1 l2 l2.length) wx wx.heap.size hv0x hvcx (by have := HL.out; omega) (by omega) HL.out.1).mono ?_
        rintro e w7 ⟨rfl, rfl⟩
        rw [HE.out]
        refine hK.out _ _ (Below.refl _ _) ?_
        clear hK K
        try simp only [Act.put, List.setIfInBounds_toArray, List.set_cons_zero, List.set_cons_succ]
        refine rb_step 7 rfl (by kernel_rfl) (by kernel_rfl) (Nat.le_refl _) (fun K hK => ?_)
        go_simp
        refine (sum_n a0 a1 c0 c1 l2.length l0 (l1.take l2.length) wx wx.heap.size hv0x hv1x (by have := HL.out; omega) (by omega) HL.out.2.1).mono ?_
        rintro e w7 ⟨rfl, rfl⟩
        rw [H1.out]
        refine hK.out _ _ (Below.refl _ _) ?_
        clear hK K
        try simp only [Act.put, List.setIfInBounds_toArray, List.set_cons_zero, List.set_cons_succ]
        refine rb_step 12 rfl (by kernel_rfl) (by kernel_rfl) (Nat.le_refl _) (fun K hK => ?_)
        go_simp
        refine (sum_n a0 a2 c0 c2 l2.length l0 (l2.take l2.length) wx wx.heap.size hv0x hv2x (by have := HL.out; omega) (by omega) HL.out.2.2.1).mono ?_
        rintro e w7 ⟨rfl, rfl⟩
        rw [H2.out]
        refine hK.out _ _ (Below.refl _ _) ?_
        clear hK K
        try simp only [Act.put, List.setIfInBounds_toArray, List.set_cons_zero, List.set_cons_succ]
        refine rb_take 13 (some 59) (v := ?_) rfl rfl (by kernel_rfl) (by kernel_rfl) (by kernel_rfl) (by kernel_rfl) ?_ ?_
        rotate_left
        focus (intro w' hw'; go_simp; first | rw [HXX.out] | with_reducible rfl)
        try simp only [Act.put, List.setIfInBounds_toArray, List.set_cons_zero, List.set_cons_succ]
        refine rb_take 14 (some 60) (v := ?_) rfl rfl (by kernel_rfl) (by kernel_rfl) (by kernel_rfl) (by kernel_rfl) ?_ ?_
        rotate_left
        focus (intro w' hw'; go_simp; try with_reducible rfl)
        try simp only [Act.put, List.setIfInBounds_toArray, List.set_cons_zero, List.set_cons_succ]
        refine rb_take 15 (some 61) (v := ?_) rfl rfl (by kernel_rfl) (by kernel_rfl) (by kernel_rfl) (by kernel_rfl) ?_ ?_
        rotate_left
        focus (intro w' hw'; go_simp; try with_reducible rfl)
        try simp only [Act.put, List.setIfInBounds_toArray, List.set_cons_zero, List.set_cons_succ]
        refine rb_step 16 rfl (by kernel_rfl) (by kernel_rfl) (Nat.le_refl _) (fun K hK => ?_)
        go_simp
        refine (spread_awake_c _).mono ?_
        rintro e wl ⟨rfl, hb5⟩
        refine hK.out _ _ hb5 ?_
        clear hK K
        have hball := hbx.trans (hb5.mono hbx.size)
        try simp only [Act.put, List.setIfInBounds_toArray, List.set_cons_zero, List.set_cons_succ]
        refine rb_take 17 (some 63) (v := ?_) rfl rfl (by kernel_rfl) (by kernel_rfl) (by kernel_rfl) (by kernel_rfl) ?_ ?_
        rotate_left
        focus (intro w' hw'; go_simp; try with_reducible rfl)
        try simp only [Act.put, List.setIfInBounds_toArray, List.set_cons_zero, List.set_cons_succ]
        refine rb_take 18 (some 6) (v := ?_) rfl rfl (by kernel_rfl) (by kernel_rfl) (by kernel_rfl) (by kernel_rfl) ?_ ?_
        rotate_left
        focus (intro w' hw'; go_simp; try with_reducible rfl)
        try simp only [Act.put, List.setIfInBounds_toArray, List.set_cons_zero, List.set_cons_succ]
        refine rb_done (Nat.le_refl _) (by kernel_rfl) ?_
        go_wp2
        go_ret
        exact ⟨rfl, hball⟩
  · have hN1 : l1.length ≤ l1.length := Nat.le_refl _
    have hN2 : l1.length ≤ l2.length := by omega
    go_enter Try.func14, Try.ntmps14
    go_wp2_with fail
    go_loopw [8, 9] (fun v i wr => ∃ (k : Nat) (A' : Option Addr) (c' : Nat), k ≤ l1.length ∧ i = .int .i64 (k : Int) ∧ v = .slice A' k c' ∧ Hid (Own wr w.heap.size 5 A' k c' ((xorB l1 l2 k).map u8v)) ∧ Below w.heap.size w wr) (fun _ i _ => l1.length - (intOf i).toNat)
    case atStart => exact ⟨0, none, 0, Nat.zero_le _, rfl, rfl, Own.nil_ _ _ _, Below.refl _ _⟩
    case round =>
      rename_i wr
      obtain ⟨k, A', c', hk, rfl, rfl, hO, hbel⟩ := hrel
      by_cases hlt : k < l1.length
      · have hk0 : (k : Int) < (l1.length : Int) := by omega
        obtain ⟨b1, o1, rfl, hb1, hct1⟩ := (hv1.below hbel).at_ (show k < l1.length by omega)
        have q1 := hct1 k (by omega)
        obtain ⟨b2, o2, rfl, hb2, hct2⟩ := (hv2.below hbel).at_ (show k < l2.length by omega)
        have q2 := hct2 k (by omega)
        have HX := Lib.hid (u8_xor_nat _ _ (nth_lt hv1.bytes k) (nth_lt hv2.bytes k))
        have HC := Lib.hid (show xorB l1 l2 (k + 1) = xorB l1 l2 k ++ [nth l1 k ^^^ nth l2 k] from rfl)
        have hk1 : (0 : Int) ≤ (k : Int) := by omega
        have hk2 : (k : Int) < (l1.length : Int) := by omega
        have hk3 : (k : Int) < (l2.length : Int) := by omega
        have hws : w.heap.size ≤ wr.heap.size := hbel.size
        clear hct1 hct2
        go_wp2_with fail
        refine rb_start_at (w.heap.size) (by assumption) (by kernel_rfl) (fun wx hwx hBwx => ?_)
        have hOx := Lib.hid (own_keep hO.out (Mod.of_below (g := wr.heap.size) hwx) (by intro a ha e; injection e with e; have := (World.ownsRow.lt hO.out a (by rw [ha]; rfl)).2; omega))
        have p1 := (hwx.cell (p := ⟨b1, o1 + k, none⟩) (by simp; omega)).trans q1
        have p2 := (hwx.cell (p := ⟨b2, o2 + k, none⟩) (by simp; omega)).trans q2
        have hbx := hbel.trans (hwx.mono hbel.size)
        refine rb_take 0 (some 34) (v := ?_) rfl rfl (by kernel_rfl) (by kernel_rfl) (by kernel_rfl) (by kernel_rfl) ?_ ?_
        rotate_left
        focus (intro w' hw'; go_simp; try with_reducible rfl)
        try simp only [Act.put, List.setIfInBounds_toArray, List.set_cons_zero, List.set_cons_succ]
        refine rb_take 1 (some 35) (v := ?_) rfl rfl (by kernel_rfl) (by kernel_rfl) (by kernel_rfl) (by kernel_rfl) ?_ ?_
        rotate_left
        focus (intro w' hw'; go_simp; try with_reducible rfl)
        try simp only [Act.put, List.setIfInBounds_toArray, List.set_cons_zero, List.set_cons_succ]
        refine rb_take 2 (some 36) (v := ?_) rfl rfl (by kernel_rfl) (by kernel_rfl) (by kernel_rfl) (by kernel_rfl) ?_ ?_
        rotate_left
        focus (intro w' hw'; go_simp; try with_reducible rfl)
        try simp only [Act.put, List.setIfInBounds_toArray, List.set_cons_zero, List.set_cons_succ]
        refine rb_take 3 (some 37) (v := ?_) rfl rfl (by kernel_rfl) (by kernel_rfl) (by kernel_rfl) (by kernel_rfl) ?_ ?_
        rotate_left
        focus (intro w' hw'; go_simp; try with_reducible rfl)
        try simp only [Act.put, List.setIfInBounds_toArray, List.set_cons_zero, List.set_cons_succ]
        refine rb_take 4 (some 38) (v := ?_) rfl rfl (by kernel_rfl) (by kernel_rfl) (by kernel_rfl) (by kernel_rfl) ?_ ?_
        rotate_left
        focus (intro w' hw'; have q := (hw'.cell (p := ⟨b1, o1 + k, none⟩) (by simp; omega)).trans p1; go_simp; try with_reducible rfl)
        try simp only [Act.put, List.setIfInBounds_toArray, List.set_cons_zero, List.set_cons_succ]
        refine rb_take 5 (some 39) (v := ?_) rfl rfl (by kernel_rfl) (by kernel_rfl) (by kernel_rfl) (by kernel_rfl) ?_ ?_
        rotate_left
        focus (intro w' hw'; go_simp; try with_reducible rfl)
        try simp only [Act.put, List.setIfInBounds_toArray, List.set_cons_zero, List.set_cons_succ]
        refine rb_take 6 (some 40) (v := ?_) rfl rfl (by kernel_rfl) (by kernel_rfl) (by kernel_rfl) (by kernel_rfl) ?_ ?_
        rotate_left
        focus (intro w' hw'; go_simp; try with_reducible rfl)
        try simp only [Act.put, List.setIfInBounds_toArray, List.set_cons_zero, List.set_cons_succ]
        refine rb_take 7 (some 41) (v := ?_) rfl rfl (by kernel_rfl) (by kernel_rfl) (by kernel_rfl) (by kernel_rfl) ?_ ?_
        rotate_left
        focus (intro w' hw'; go_simp; try with_reducible rfl)
        try simp only [Act.put, List.setIfInBounds_toArray, List.set_cons_zero, List.set_cons_succ]
        refine rb_take 8 (some 42) (v := ?_) rfl rfl (by kernel_rfl) (by kernel_rfl) (by kernel_rfl) (by kernel_rfl) ?_ ?_
        rotate_left
        focus (intro w' hw'; have q := (hw'.cell (p := ⟨b2, o2 + k, none⟩) (by simp; omega)).trans p2; go_simp; try with_reducible rfl)
        try simp only [Act.put, List.setIfInBounds_toArray, List.set_cons_zero, List.set_cons_succ]
        refine rb_take 9 (some 43) (v := ?_) rfl rfl (by kernel_rfl) (by kernel_rfl) (by kernel_rfl) (by kernel_rfl) ?_ ?_
        rotate_left
        focus (intro w' hw'; go_simp; first | rw [HX.out] | with_reducible rfl)
        try simp only [Act.put, List.setIfInBounds_toArray, List.set_cons_zero, List.set_cons_succ]
        refine rb_keep 10 rfl (by kernel_rfl) (by kernel_rfl) (by assumption) (fun K hK => ?_)
        go_simp
        refine hK.out _ _ ((Below.refl _ _).alloc hBwx _) ?_
        clear hK K
        have hB9 : w.heap.size ≤ (wx.alloc (.cells #[.int .u8 ((nth l1 k ^^^ nth l2 k : Nat) : Int)] 5)).heap.size := by simp; omega
        try simp only [Act.put, List.setIfInBounds_toArray, List.set_cons_zero, List.set_cons_succ]
        refine rb_keep 11 rfl (by kernel_rfl) (by kernel_rfl) (by assumption) (fun K hK => ?_)
        refine owp_append_one _ _ _ rfl w.heap.size 5 (.int .u8 0) 1 rfl Try.underlying22 u8info A' k c' ((xorB l1 l2 k).map u8v) rfl (Own.alloc hOx.out _) wx.heap.size (.int .u8 ((nth l1 k ^^^ nth l2 k : Nat) : Int)) rfl ((Arr.new wx 5 [.int .u8 ((nth l1 k ^^^ nth l2 k : Nat) : Int)]).cell 0) rfl (by unfold maxLen; omega) (by omega) hB9 ?_
        intro ga ca wz hoz hgz hplz hlz
        have hbz := (Below.refl w.heap.size (wx.alloc (.cells #[.int .u8 ((nth l1 k ^^^ nth l2 k : Nat) : Int)] 5))).grown hgz hB9 (by intro k9 hk9; rcases row_form hOx.out with h | ⟨g9, h, h1, _⟩ <;> rw [h] at hk9 <;> simp at hk9; omega)
        refine hK.out _ _ hbz ?_
        clear hK K
        have hB10 : w.heap.size ≤ wz.heap.size := Nat.le_trans hB9 hbz.size
        try simp only [Act.put, List.setIfInBounds_toArray, List.set_cons_zero, List.set_cons_succ]
        refine rb_take 12 (some 8) (v := ?_) rfl rfl (by kernel_rfl) (by kernel_rfl) (by kernel_rfl) (by kernel_rfl) ?_ ?_
        rotate_left
        focus (intro w' hw'; go_simp; try with_reducible rfl)
        try simp only [Act.put, List.setIfInBounds_toArray, List.set_cons_zero, List.set_cons_succ]
        refine rb_done (by assumption) (by kernel_rfl) ?_
        go_wp2
        go_roundw
        case rel => exact ⟨k + 1, some ⟨ga, 0, none⟩, ca, by omega, by go_num, rfl, by rw [HC.out, List.map_append]; exact hoz, hbx.trans (((Below.refl _ _).alloc hBwx _).trans hbz)⟩
        case measure => (simp [intOf] <;> omega)
      · obtain rfl : k = l1.length := by omega
        have hvc : BView wr wr.heap.size A' (xorB l1 l2 l1.length) := Own.bview hO.out (xorB_bytes hv1.bytes hv2.bytes _ hN1 hN2)
        have HE := Lib.hid (sumV_xor l0 l1 l2 l1.length (8 * l1.length) (Nat.le_refl _))
        have H1 := Lib.hid (sumV_take l0 l1 l1.length (8 * l1.length) (Nat.le_refl _))
        have H2 := Lib.hid (sumV_take l0 l2 l1.length (8 * l1.length) (Nat.le_refl _))
        have HXX := Lib.hid (u32_xor_nat _ _ (sumV_lt l0 l1 (8 * l1.length)) (sumV_lt l0 l2 (8 * l1.length)))
        have hv0r := (hv0.below hbel).more hbel.size
        have hv1r := ((hv1.take l1.length).below hbel).more hbel.size
        have hv2r := ((hv2.take l1.length).below hbel).more hbel.size
        have HL := Lib.hid (show (xorB l1 l2 l1.length).length = l1.length ∧ (l1.take l1.length).length = l1.length ∧ (l2.take l1.length).length = l1.length ∧ l1.length ≤ 100 from ⟨xorB_length _ _ _, by rw [List.length_take]; omega, by rw [List.length_take]; omega, by omega⟩)
        have hx1 : (0 : Int) ≤ (l1.length : Int) := by omega
        have hx2 : (l1.length : Int) ≤ (c1 : Int) := by omega
        have hx3 : (l1.length : Int) ≤ (c2 : Int) := by omega
        have hx4 : (l1.length : Int) ≤ (c1 : Int) := by omega
        have hx5 : (l2.length : Int) ≤ (c2 : Int) := by omega
        go_wp2_with fail
        refine rb_start (by kernel_rfl) (fun wx hwx => ?_)
        have hbx := hbel.trans (hwx.mono hbel.size)
        have hvcx := (hvc.below hwx).more hwx.size
        have hv0x := (hv0r.below hwx).more hwx.size
        have hv1x := (hv1r.below hwx).more hwx.size
        have hv2x := (hv2r.below hwx).more hwx.size
        refine rb_take 0 (some 46) (v := ?_) rfl rfl (by kernel_rfl) (by kernel_rfl) (by kernel_rfl) (by kernel_rfl) ?_ ?_
        rotate_left
        focus (intro w' hw'; go_simp; try with_reducible rfl)
        try simp only [Act.put, List.setIfInBounds_toArray, List.set_cons_zero, List.set_cons_succ]
        refine rb_take 1 (some 47) (v := ?_) rfl rfl (by kernel_rfl) (by kernel_rfl) (by kernel_rfl) (by kernel_rfl) ?_ ?_
        rotate_left
        focus (intro w' hw'; go_simp; try with_reducible rfl)
        try simp only [Act.put, List.setIfInBounds_toArray, List.set_cons_zero, List.set_cons_succ]
        refine rb_take 3 (some 49) (v := ?_) rfl rfl (by kernel_rfl) (by kernel_rfl) (by kernel_rfl) (by kernel_rfl) ?_ ?_
        rotate_left
        focus (intro w' hw'; go_simp; try with_reducible rfl)
        try simp only [Act.put, List.setIfInBounds_toArray, List.set_cons_zero, List.set_cons_succ]
        refine rb_take 4 (some 50) (v := ?_) rfl rfl (by kernel_rfl) (by kernel_rfl) (by kernel_rfl) (by kernel_rfl) ?_ ?_
        rotate_left
        focus (intro w' hw'; go_simp; try with_reducible rfl)
        try simp only [Act.put, List.setIfInBounds_toArray, List.set_cons_zero, List.set_cons_succ]
        refine rb_take 5 (some 51) (v := ?_) rfl rfl (by kernel_rfl) (by kernel_rfl) (by kernel_rfl) (by kernel_rfl) ?_ ?_
        rotate_left
        focus (intro w' hw'; go_simp; try with_reducible rfl)
        try simp only [Act.put, List.setIfInBounds_toArray, List.set_cons_zero, List.set_cons_succ]
        refine rb_take 6 (some 52) (v := ?_) rfl rfl (by kernel_rfl) (by kernel_rfl) (by kernel_rfl) (by kernel_rfl) ?_ ?_
        rotate_left
        focus (intro w' hw'; go_simp; try with_reducible rfl)
        try simp only [Act.put, List.setIfInBounds_toArray, List.set_cons_zero, List.set_cons_succ]
        refine rb_take 8 (some 54) (v := ?_) rfl rfl (by kernel_rfl) (by kernel_rfl) (by kernel_rfl) (by kernel_rfl) ?_ ?_
        rotate_left
        focus (intro w' hw'; go_simp; try with_reducible rfl)
        try simp only [Act.put, List.setIfInBounds_toArray, List.set_cons_zero, List.set_cons_succ]
        refine rb_take 9 (some 55) (v := ?_) rfl rfl (by kernel_rfl) (by kernel_rfl) (by kernel_rfl) (by kernel_rfl) ?_ ?_
        rotate_left
        focus (intro w' hw'; go_simp; try with_reducible rfl)
        try simp only [Act.put, List.setIfInBounds_toArray, List.set_cons_zero, List.set_cons_succ]
        refine rb_take 10 (some 56) (v := ?_) rfl rfl (by kernel_rfl) (by kernel_rfl) (by kernel_rfl) (by kernel_rfl) ?_ ?_
        rotate_left
        focus (intro w' hw'; go_simp; try with_reducible rfl)
        try simp only [Act.put, List.setIfInBounds_toArray, List.set_cons_zero, List.set_cons_succ]
        refine rb_take 11 (some 57) (v := ?_) rfl rfl (by kernel_rfl) (by kernel_rfl) (by kernel_rfl) (by kernel_rfl) ?_ ?_
        rotate_left
        focus (intro w' hw'; go_simp; try with_reducible rfl)
        try simp only [Act.put, List.setIfInBounds_toArray, List.set_cons_zero, List.set_cons_succ]
        refine rb_step 2 rfl (by kernel_rfl) (by kernel_rfl) (Nat.le_refl _) (fun K hK => ?_)
        go_simp
        refine (sum_n a0 A' c0 c' l1.length l0 (xorB l1 l2 l1.length) wx wx.heap.size hv0x hvcx (by have := HL.out; omega) (by omega) HL.out.1).mono ?_
        rintro e w7 ⟨rfl, rfl⟩
        rw [HE.out]
        refine hK.out _ _ (Below.refl _ _) ?_
        clear hK K
        try simp only [Act.put, List.setIfInBounds_toArray, List.set_cons_zero, List.set_cons_succ]
        refine rb_step 7 rfl (by kernel_rfl) (by kernel_rfl) (Nat.le_refl _) (fun K hK => ?_)
        go_simp
        refine (sum_n a0 a1 c0 c1 l1.length l0 (l1.take l1.length) wx wx.heap.size hv0x hv1x (by have := HL.out; omega) (by omega) HL.out.2.1).mono ?_
        rintro e w7 ⟨rfl, rfl⟩
        rw [H1.out]
        refine hK.out _ _ (Below.refl _ _) ?_
        clear hK K
        try simp only [Act.put, List.setIfInBounds_toArray, List.set_cons_zero, List.set_cons_succ]
        refine rb_step 12 rfl (by kernel_rfl) (by kernel_rfl) (Nat.le_refl _) (fun K hK => ?_)
        go_simp
        refine (sum_n a0 a2 c0 c2 l1.length l0 (l2.take l1.length) wx wx.heap.size hv0x hv2x (by have := HL.out; omega) (by omega) HL.out.2.2.1).mono ?_
        rintro e w7 ⟨rfl, rfl⟩
        rw [H2.out]
        refine hK.out _ _ (Below.refl _ _) ?_
        clear hK K
        try simp only [Act.put, List.setIfInBounds_toArray, List.set_cons_zero, List.set_cons_succ]
        refine rb_take 13 (some 59) (v := ?_) rfl rfl (by kernel_rfl) (by kernel_rfl) (by kernel_rfl) (by kernel_rfl) ?_ ?_
        rotate_left
        focus (intro w' hw'; go_simp; first | rw [HXX.out] | with_reducible rfl)
        try simp only [Act.put, List.setIfInBounds_toArray, List.set_cons_zero, List.set_cons_succ]
        refine rb_take 14 (some 60) (v := ?_) rfl rfl (by kernel_rfl) (by kernel_rfl) (by kernel_rfl) (by kernel_rfl) ?_ ?_
        rotate_left
        focus (intro w' hw'; go_simp; try with_reducible rfl)
        try simp only [Act.put, List.setIfInBounds_toArray, List.set_cons_zero, List.set_cons_succ]
        refine rb_take 15 (some 61) (v := ?_) rfl rfl (by kernel_rfl) (by kernel_rfl) (by kernel_rfl) (by kernel_rfl) ?_ ?_
        rotate_left
        focus (intro w' hw'; go_simp; try with_reducible rfl)
        try simp only [Act.put, List.setIfInBounds_toArray, List.set_cons_zero, List.set_cons_succ]
        refine rb_step 16 rfl (by kernel_rfl) (by kernel_rfl) (Nat.le_refl _) (fun K hK => ?_)
        go_simp
        refine (spread_awake_c _).mono ?_
        rintro e wl ⟨rfl, hb5⟩
        refine hK.out _ _ hb5 ?_
        clear hK K
        have hball := hbx.trans (hb5.mono hbx.size)
        try simp only [Act.put, List.setIfInBounds_toArray, List.set_cons_zero, List.set_cons_succ]
        refine rb_take 17 (some 63) (v := ?_) rfl rfl (by kernel_rfl) (by kernel_rfl) (by kernel_rfl) (by kernel_rfl) ?_ ?_
        rotate_left
        focus (intro w' hw'; go_simp; try with_reducible rfl)
        try simp only [Act.put, List.setIfInBounds_toArray, List.set_cons_zero, List.set_cons_succ]
        refine rb_take 18 (some 6) (v := ?_) rfl rfl (by kernel_rfl) (by kernel_rfl) (by kernel_rfl) (by kernel_rfl) ?_ ?_
        rotate_left
        focus (intro w' hw'; go_simp; try with_reducible rfl)
        try simp only [Act.put, List.setIfInBounds_toArray, List.set_cons_zero, List.set_cons_succ]
        refine rb_done (Nat.le_refl _) (by kernel_rfl) ?_
        go_wp2
        go_ret
        exact ⟨rfl, hball⟩
end Go.Proofs.Ytaaincffbaaopaa.SpreadAdds
