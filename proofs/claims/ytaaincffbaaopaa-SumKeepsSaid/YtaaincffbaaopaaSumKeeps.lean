/- Proved: SumKeeps returns true for all bytes, places and words, and changes no memory that was there. Conditions: none. -/
import Derived.Test.YtaaincffbaaopaaSum
import Derived.Test.YtaaincffbaaopaaRegion
import Derived.Deep.Cut
namespace Go.Proofs.Ytaaincffbaaopaa.SumKeeps
open Go.RowKit

theorem keep_math (S was now : Int) (h0 : 0 < S) (h1 : 0 ≤ was ∧ was < 65536) (h2 : 0 ≤ now ∧ now < 65536) (h3 : 0 < S - was + now) : foldN (S - was + now + updN (65535 - foldN S) was now) = 65535 := by
  unfold updN foldN
  (repeat' split) <;> omega
theorem or_u16_8 (x y : Int) (h1 : 0 ≤ x ∧ x < 256) (h2 : 0 ≤ y ∧ y < 256) : bits .or .u16 (x * 256) y = x * 256 + y := by
  rw [u16_or _ _ (by omega) (by omega) (by omega) (by omega), nat_join 8 _ _ (by simp; omega) (by simp; omega)]
  omega

set_option maxRecDepth 100000 in
set_option maxHeartbeats 1000000 in
theorem walk (a0 : Option Addr) (n0 c0 : Nat) (l0 : List Nat) (a1 a2 : Int) (w : World)
    (w0 : l0.length = n0 ∧ (a0 = none → c0 = 0) ∧ BView w w.heap.size a0 l0 ∧ n0 ≤ c0) (w1 : 0 ≤ a1 ∧ a1 < 65536) (w2 : 0 ≤ a2 ∧ a2 < 65536) :
    Calls Try.prog 6 #[.slice a0 n0 c0, .int .u16 a1, .int .u16 a2] w fun e w' => e = .returned (.bool true) ∧ Below w.heap.size w w' := by
  obtain ⟨rfl, hc0, hv0, hlc⟩ := w0
  obtain ⟨N2, rfl⟩ := Int.eq_ofNat_of_zero_le w2.1
  by_cases hb : (2000 : Int) < l0.length
  · go_enter Try.func6, Try.ntmps6
    go_wp2_with (go_at_call 27; refine (sum_awake_c _).mono ?_; rintro e w' ⟨rfl, hbel⟩)
    go_ret
    exact ⟨rfl, hbel⟩
  by_cases hc : (l0.length : Int) < 4
  · go_enter Try.func6, Try.ntmps6
    go_wp2_with (go_at_call 27; refine (sum_awake_c _).mono ?_; rintro e w' ⟨rfl, hbel⟩)
    go_ret
    exact ⟨rfl, hbel⟩
  have hnl : (l0.length : Int) / 2 * 2 ≤ (c0 : Int) := by omega
  have hm0 := Int.emod_nonneg a1 (show (l0.length : Int) / 2 - 1 ≠ 0 by omega)
  have hm1 := Int.emod_lt_of_pos a1 (show (0 : Int) < (l0.length : Int) / 2 - 1 by omega)
  obtain ⟨k, hk⟩ : ∃ k : Nat, (2 + a1 % ((l0.length : Int) / 2 - 1) * 2) = (k : Int) := ⟨(2 + a1 % ((l0.length : Int) / 2 - 1) * 2).toNat, by omega⟩
  have HK := Lib.hid hk
  have hk2 : 2 ≤ k := by omega
  have hke : k % 2 = 0 := by omega
  have hkl : k + 1 < l0.length / 2 * 2 := by omega
  clear hk
  go_enter Try.func6, Try.ntmps6
  go_upto_region 5 with (at_builtin; refine wp_append1 rfl _ _ _ rfl w.heap.size 5 (.int .u8 0) 1 rfl Try.underlying22 u8info _ 0 _ _ rfl (Own.lit w 5 #[] 0 (by decide) rfl) w.heap.size a0 _ c0 ((l0.take (l0.length / 2 * 2)).map u8v) rfl ((hv0.take _).view.alloc (Nat.le_refl _) _) (by simp; omega) hc0 (u8v_one _) (by unfold maxLen; omega) (by omega) (by simp) w.heap.size w ((Below.refl _ _).alloc (Nat.le_refl _) _) (Nat.le_refl _) ?_; intro A2 c2 w2 hown2 hbel2)
  rw [Nat.zero_add, List.nil_append] at hown2
  rw [HK.out]
  clear hm0 hm1
  obtain ⟨L, hL⟩ : ∃ L, L = l0.take (l0.length / 2 * 2) := ⟨_, rfl⟩
  have hLb : Bytes L := by rw [hL]; exact hv0.bytes.take _
  have hLl : L.length = l0.length / 2 * 2 := by rw [hL]; simp; omega
  rw [← hL] at hown2
  clear hL
  obtain ⟨g, rfl⟩ := hown2.out.addr (by omega)
  have hg := hown2.out.ge
  have q0 := hown2.out.cellAt 0 (by omega)
  have q1 := hown2.out.cellAt 1 (by omega)
  rw [List.getElem?_map, nth_get (by omega), Option.map_some] at q0 q1
  have f0 := hown2.out.frozenAt 0
  have f1 := hown2.out.frozenAt 1
  have hx0 : (0 : Int) < ((l0.length / 2 * 2 : Nat) : Int) := by omega
  have hx1 : (1 : Int) < ((l0.length / 2 * 2 : Nat) : Int) := by omega
  go_upto_region 6 with (fail)
  have hown3 := hown2.out.two 0 1 0 0
  have hbel3 : Below w.heap.size w ((w2.setCell ⟨g, 0, none⟩ (.int .u8 ((0 : Nat) : Int))).setCell ⟨g, 1, none⟩ (.int .u8 ((0 : Nat) : Int))) := (hbel2.setCell (by exact hg) _).setCell (by exact hg) _
  obtain ⟨w3, hw3⟩ : ∃ w3, w3 = (w2.setCell ⟨g, 0, none⟩ (.int .u8 ((0 : Nat) : Int))).setCell ⟨g, 1, none⟩ (.int .u8 ((0 : Nat) : Int)) := ⟨_, rfl⟩
  rw [← hw3] at hown3 hbel3
  rw [show (w2.setCell ⟨g, 0, none⟩ (.int .u8 0)).setCell ⟨g, 1, none⟩ (.int .u8 0) = w3 from hw3.symm]
  clear hw3 q0 q1 f0 f1 hown2 hbel2
  obtain ⟨L1, hL1⟩ : ∃ L1, L1 = (L.set 0 0).set 1 0 := ⟨_, rfl⟩
  have hL1b : Bytes L1 := by rw [hL1]; exact (hLb.set_ 0 0 (by omega)).set_ 1 0 (by omega)
  have hL1l : L1.length = l0.length / 2 * 2 := by rw [hL1]; simpa using hLl
  have z0 : nth L1 0 = 0 := by rw [hL1, nth_set _ _ _ _ (by simp; omega), if_neg (by omega), nth_set _ _ _ _ (by omega), if_pos rfl]
  have z1 : nth L1 1 = 0 := by rw [hL1, nth_set _ _ _ _ (by simp; omega), if_pos rfl]
  rw [← hL1] at hown3
  clear hL1
  have Z0 := Lib.hid z0
  have Z1 := Lib.hid z1
  clear z0 z1
  have hr1 := one_row w3 (some ⟨g, 0, none⟩) L1 c2 (hown3.out.bview hL1b) (by intro h; cases h) 22
  rw [hL1l] at hr1
  have HR1 := Lib.hid hr1
  have HP1 : Hid (psums [(some ⟨g, 0, none⟩, L1, c2)] = psumAll L1) := by simp [psums, Hid]
  have hj1 : (joined [(some (⟨g, 0, none⟩ : Addr), L1, c2)]).length ≤ 1000000 := by simp [joined]; omega
  have hfb := foldN_bd (psumAll L1)
  have hpb := psum_le_len hL1b
  clear hr1
  go_upto_region 7 with (go_at_call 32; refine (of_c _ _ [(some ⟨g, 0, none⟩, L1, c2)] _ _ HR1.out.1 HR1.out.2 (by simp) hj1).mono ?_; rintro e w' ⟨rfl, rfl⟩; rw [HP1.out])
  have hown4 := hid_own (hown3.out.alloc (.cells #[.slice (some ⟨g, 0, none⟩) (l0.length / 2 * 2) c2] 22))
  have hbel4 := hbel3.alloc hbel3.size (.cells #[.slice (some ⟨g, 0, none⟩) (l0.length / 2 * 2) c2] 22)
  generalize w3.alloc (.cells #[.slice (some ⟨g, 0, none⟩) (l0.length / 2 * 2) c2] 22) = w4 at hown4 hbel4 ⊢
  clear hown3 hbel3 HR1 HP1 hj1
  by_cases hS : psumAll L1 = 0
  · have e0 : foldN (psumAll L1) = 0 := by rw [hS]; rfl
    have E0 := Lib.hid e0
    rw [E0.out]
    clear e0 hS
    go_wp2_with (go_at_call 27; refine (sum_awake_c _).mono ?_; rintro e w5 ⟨rfl, hbel5⟩)
    go_ret
    exact ⟨rfl, hbel4.trans (hbel5.mono hbel4.size)⟩
  have hfp : 1 ≤ foldN (psumAll L1) := by unfold foldN; rw [if_neg hS]; omega
  have q0 := hown4.out.cellAt k (by omega)
  have q1 := hown4.out.cellAt (k + 1) (by omega)
  rw [List.getElem?_map, nth_get (by omega), Option.map_some] at q0 q1
  unfold u8v at q0 q1
  have f0 := hown4.out.frozenAt k
  have f1 := hown4.out.frozenAt (k + 1)
  have n0 := nth_lt hL1b k
  have n1 := nth_lt hL1b (k + 1)
  have hk0 : (0 : Int) ≤ (k : Int) := by omega
  have hk1 : (k : Int) < ((l0.length / 2 * 2 : Nat) : Int) := by omega
  have hk2' : (k : Int) + 1 < ((l0.length / 2 * 2 : Nat) : Int) := by omega
  have hor := or_u16_8 (nth L1 k) (nth L1 (k + 1)) (by omega) (by omega)
  go_upto_region 9 with (fail)
  go_quiet (fail)
  have hown5 : Hid (Own (w4.drewN nq) w.heap.size 5 (some ⟨g, 0, none⟩) (l0.length / 2 * 2) c2 (L1.map u8v)) := hown4
  have hbel5 : Below w.heap.size w (w4.drewN nq) := below_drawn hbel4 nq
  generalize w4.drewN nq = w5 at hown5 hbel5 ⊢
  clear hown4 hbel4 q0 q1 f0 f1 hor
  have q0 := hown5.out.cellAt k (by omega)
  have q1 := hown5.out.cellAt (k + 1) (by omega)
  rw [List.getElem?_map, nth_get (by omega), Option.map_some] at q0 q1
  have f0 := hown5.out.frozenAt k
  have f1 := hown5.out.frozenAt (k + 1)
  obtain ⟨W, hW⟩ : ∃ W : Int, W = (nth L1 k : Int) * 256 + nth L1 (k + 1) := ⟨_, rfl⟩
  have hWb : 0 ≤ W ∧ W < 65536 := by omega
  obtain ⟨T, hT⟩ : ∃ T : Nat, updN (65535 - foldN (psumAll L1)) W N2 = (T : Int) := ⟨(updN (65535 - foldN (psumAll L1)) W N2).toNat, by have := updN_bd (65535 - foldN (psumAll L1)) W N2; omega⟩
  have hTb : (T : Int) < 65536 := by have := updN_bd (65535 - foldN (psumAll L1)) W N2; omega
  rw [← hW]
  have HT := Lib.hid hT
  have HW := Lib.hid hW
  clear hT hW n0 n1
  go_upto_region 11 with (go_at_call 29; refine (update_c _ _ _ _ (by omega) (by omega) (by omega)).mono ?_; rintro e w' ⟨rfl, rfl⟩; rw [HT.out])
  go_upto_region 12 with (fail)
  have hown6 := hown5.out.two k (k + 1) (N2 / 256) (N2 % 256)
  have hbel6 : Below w.heap.size w ((w5.setCell ⟨g, k, none⟩ (.int .u8 ((N2 / 256 : Nat) : Int))).setCell ⟨g, k + 1, none⟩ (.int .u8 ((N2 % 256 : Nat) : Int))) := (hbel5.setCell (by exact hg) _).setCell (by exact hg) _
  obtain ⟨w6, hw6⟩ : ∃ w6, w6 = (w5.setCell ⟨g, k, none⟩ (.int .u8 ((N2 / 256 : Nat) : Int))).setCell ⟨g, k + 1, none⟩ (.int .u8 ((N2 % 256 : Nat) : Int)) := ⟨_, rfl⟩
  rw [← hw6] at hown6 hbel6
  rw [show (w5.setCell ⟨g, k, none⟩ (.int .u8 ((N2 : Int) / 256))).setCell ⟨g, k + 1, none⟩ (.int .u8 ((N2 : Int) % 256)) = w6 from hw6.symm]
  clear hw6 q0 q1 f0 f1 hown5 hbel5
  have hw2b : N2 / 256 < 256 := by omega
  obtain ⟨L2, hL2⟩ : ∃ L2, L2 = (L1.set k (N2 / 256)).set (k + 1) (N2 % 256) := ⟨_, rfl⟩
  have hL2b : Bytes L2 := by rw [hL2]; exact (hL1b.set_ _ _ hw2b).set_ _ _ (by omega)
  have hL2l : L2.length = l0.length / 2 * 2 := by rw [hL2]; simpa using hL1l
  have z0 : nth L2 0 = 0 := by rw [hL2, nth_set _ _ _ _ (by simp; omega), if_neg (by omega), nth_set _ _ _ _ (by omega), if_neg (by omega)]; exact Z0.out
  have z1 : nth L2 1 = 0 := by rw [hL2, nth_set _ _ _ _ (by simp; omega), if_neg (by omega), nth_set _ _ _ _ (by omega), if_neg (by omega)]; exact Z1.out
  have hS2 : psumAll L2 = psumAll L1 - W + N2 := by
    rw [hL2, psum_word L1 k _ _ (by omega) hke, HW.out]; omega
  rw [← hL2] at hown6
  clear hL2 hw2b
  have Z02 := Lib.hid z0
  have Z12 := Lib.hid z1
  have HS2 := Lib.hid hS2
  have hpb2 := psum_le_len hL2b
  have hfb2 := foldN_bd (psumAll L2)
  clear z0 z1 hS2
  rw [← hL2l] at hown6 ⊢
  have hl4 : 4 ≤ L2.length := by omega
  have hl5 : L2.length ≤ 2000 := by omega
  have hl6 : k + 1 < L2.length := by omega
  clear hL2l hL1l hLl hkl
  by_cases hS2 : psumAll L2 = 0
  · have e0 : foldN (psumAll L2) = 0 := by rw [hS2]; rfl
    have E0 := Lib.hid e0
    clear e0 hS2
    go_wp2_with (first
      | (go_at_call 33; refine (ref_of_c _ _ L2 _ _ (hown6.out.bview hL2b) (by omega)).mono ?_; rintro e w' ⟨rfl, rfl⟩; rw [E0.out])
      | (go_at_call 27; refine (sum_awake_c _).mono ?_; rintro e w7 ⟨rfl, hbel7⟩))
    go_ret
    exact ⟨rfl, hbel6.trans (hbel7.mono hbel6.size)⟩
  have hfp2 : 1 ≤ foldN (psumAll L2) := by unfold foldN; rw [if_neg hS2]; omega
  have hpos2 : 0 < psumAll L1 - W + N2 := by have := HS2.out; omega
  have q0 := hown6.out.cellAt 0 (by omega)
  have q1 := hown6.out.cellAt 1 (by omega)
  rw [List.getElem?_map, nth_get (by omega), Option.map_some] at q0 q1
  have f0 := hown6.out.frozenAt 0
  have f1 := hown6.out.frozenAt 1
  have hx2 : (0 : Int) < (L2.length : Int) := by omega
  have hx3 : (1 : Int) < (L2.length : Int) := by omega
  clear hx0 hx1
  have HPOS := Lib.hid hpos2
  clear hpos2 hpb hpb2 hS2 hS hnl
  go_wp2_with fail
  refine (ref_of_c _ _ L2 _ _ (hown6.out.bview hL2b) (by omega)).mono ?_
  rintro e w' ⟨rfl, rfl⟩
  have hT0 : (0 : Int) ≤ (T : Int) ∧ (T : Int) < 65536 := by omega
  clear hfb hfb2 hWb hTb
  go_upto_region 14 with (fail)
  go_upto_region 15 with (fail)
  have hown7 := hown6.out.two 0 1 (T / 256) (T % 256)
  have hbel7 : Below w.heap.size w ((w6.setCell ⟨g, 0, none⟩ (.int .u8 ((T / 256 : Nat) : Int))).setCell ⟨g, 1, none⟩ (.int .u8 ((T % 256 : Nat) : Int))) := (hbel6.setCell (by exact hg) _).setCell (by exact hg) _
  obtain ⟨w7, hw7⟩ : ∃ w7, w7 = (w6.setCell ⟨g, 0, none⟩ (.int .u8 ((T / 256 : Nat) : Int))).setCell ⟨g, 1, none⟩ (.int .u8 ((T % 256 : Nat) : Int)) := ⟨_, rfl⟩
  rw [← hw7] at hown7 hbel7
  rw [show (w6.setCell ⟨g, 0, none⟩ (.int .u8 ((T : Int) / 256))).setCell ⟨g, 1, none⟩ (.int .u8 ((T : Int) % 256)) = w7 from hw7.symm]
  clear hw7 q0 q1 f0 f1 hown6 hbel6
  have hTd : T / 256 < 256 := by omega
  obtain ⟨L3, hL3⟩ : ∃ L3, L3 = (L2.set 0 (T / 256)).set 1 (T % 256) := ⟨_, rfl⟩
  have hL3b : Bytes L3 := by rw [hL3]; exact (hL2b.set_ _ _ hTd).set_ _ _ (by omega)
  have hL3l : L3.length = L2.length := by rw [hL3]; simp
  have hS3 : foldN (psumAll L3) = 65535 := by
    have h1 := psum_word L2 0 (T / 256) (T % 256) (by omega) rfl
    rw [← hL3, Z02.out, Z12.out, HS2.out] at h1
    have h2 := HT.out
    have hW2 := HW.out
    have n0' := nth_lt hL1b k
    have n1' := nth_lt hL1b (k + 1)
    have hne : psumAll L1 ≠ 0 := fun h => by rw [h] at hfp; exact absurd hfp (by decide)
    have hge := psum_le_len hL1b
    have h3 := keep_math (psumAll L1) W N2 (by omega) (by omega) (by omega) HPOS.out
    rw [h2] at h3
    rw [← h3, h1]
    congr 1
    omega
  rw [← hL3] at hown7
  clear hL3 hTd
  rw [← hL3l] at hown7 ⊢
  have hl3 : L3.length ≤ 2000 := by omega
  clear hL3l
  have hr3 := one_row w7 (some ⟨g, 0, none⟩) L3 c2 (hown7.out.bview hL3b) (by intro h; cases h) 22
  have HR3 := Lib.hid hr3
  have HP3 : Hid (foldN (psums [(some ⟨g, 0, none⟩, L3, c2)]) = 65535) := by
    have e : psums [(some ⟨g, 0, none⟩, L3, c2)] = psumAll L3 := by simp [psums]
    show _ = _
    rw [e]; exact hS3
  have hj3 : (joined [(some (⟨g, 0, none⟩ : Addr), L3, c2)]).length ≤ 1000000 := by simp [joined]; omega
  clear hr3 hS3
  go_wp2_with (first
    | (go_at_call 34; refine (right_c _ _ [(some ⟨g, 0, none⟩, L3, c2)] _ _ HR3.out.1 HR3.out.2 (by simp) hj3 HP3.out).mono ?_; rintro e w' ⟨rfl, rfl⟩)
    | (go_at_call 27; refine (sum_awake_c _).mono ?_; rintro e w8 ⟨rfl, hbel8⟩))
  go_ret
  exact ⟨rfl, (hbel7.alloc hbel7.size _).trans (hbel8.mono (by have := hbel7.size; simp; omega))⟩
end Go.Proofs.Ytaaincffbaaopaa.SumKeeps
