
/- Proved: VarintTakes returns true for all bytes, and changes no memory that was there. Conditions: none. -/
import Derived.Test.YtakmcbgfglnanaaVAll
import Derived.Test.YtakmcbgfglnanaaKit
namespace Go.Proofs.Ytakmcbgfglnanaa.VarintTakes
open Go.RowKit

theorem ref_take_yes (A : Option Addr) (n c : Nat) (l : List Nat) (w : World) (hv : BView w w.heap.size A l) (hn : l.length = n) (hl : n ≤ 1000000) (hlc : n ≤ c) (hok : VOk l) :
    Calls Try.prog 50 #[.slice A n c] w fun e w' => e = .returned (.tuple #[.int .u64 (vval l : Nat), .int .i64 (vsz l : Nat)]) ∧ Below w.heap.size w w' := by
  subst hn
  refine (ref_vTake_c A c l w hv hl hlc).mono ?_
  rintro e w' (⟨_, h1, h2⟩ | ⟨h, _⟩)
  · exact ⟨h1, h2⟩
  · exact absurd hok h
theorem ref_take_no (A : Option Addr) (n c : Nat) (l : List Nat) (w : World) (hv : BView w w.heap.size A l) (hn : l.length = n) (hl : n ≤ 1000000) (hlc : n ≤ c) (hok : ¬ VOk l) :
    Calls Try.prog 50 #[.slice A n c] w fun e w' => e = .returned (.tuple #[.int .u64 0, .int .i64 0]) ∧ Below w.heap.size w w' := by
  subst hn
  refine (ref_vTake_c A c l w hv hl hlc).mono ?_
  rintro e w' (⟨h, _⟩ | ⟨_, h1, h2⟩)
  · exact absurd h hok
  · exact ⟨h1, h2⟩

theorem map_add (b o k : Nat) : (some (⟨b, o, none⟩ : Addr)).map (·.add k) = some ⟨b, o + k, none⟩ := by
  simp only [Option.map_some, Addr.add]
  split <;> simp_all

set_option maxRecDepth 100000 in
set_option maxHeartbeats 6000000 in
theorem walk (A : Option Addr) (n c : Nat) (l : List Nat) (w : World) (hr : l.length = n ∧ (A = none → c = 0) ∧ BView w w.heap.size A l ∧ n ≤ c) :
    Calls Try.prog 8 #[.slice A n c] w fun e w' => e = .returned (.bool true) ∧ Below w.heap.size w w' := by
  obtain ⟨rfl, hA0, hv, hnc⟩ := hr
  by_cases hlong : (500 : Int) < (l.length : Int)
  · by_cases hbig : l.length ≤ 9223372036854775807
    all_goals
      go_enter Try.func8, Try.ntmps8
      go_wp2_with fail
      refine (varint_awake_c _).mono ?_
      rintro e wa ⟨rfl, rfl⟩
      go_wp2
      go_ret
      exact ⟨rfl, Below.refl _ _⟩
  have hl5 : l.length ≤ 500 := by omega
  by_cases hok : VOk l
  · obtain ⟨s0, HS0⟩ : ∃ s, Hid (vsz l = s) := ⟨_, Lib.hid rfl⟩
    obtain ⟨y0, HY0⟩ : ∃ y, Hid (vval l = y) := ⟨_, Lib.hid rfl⟩
    have hs1 : 1 ≤ s0 := by rw [← HS0.out]; exact vsz_pos _
    have hsl : s0 ≤ l.length := by rw [← HS0.out]; exact hok.2
    have hsi : (1 : Int) ≤ (s0 : Int) ∧ (s0 : Int) ≤ (l.length : Int) := by omega
    have hsc : (s0 : Int) ≤ (c : Int) := by omega
    have hlc : (l.length : Int) ≤ (c : Int) := by omega
    have hsd : 0 < s0 := by omega
    have hse : ¬ s0 = 0 := by omega
    have hsp : ((s0 : Int) == 0) = false := by rw [beq_eq_false_iff_ne]; omega
    have hvc := hv.cut (k := s0) (c := c) hnc
    go_enter Try.func8, Try.ntmps8
    go_wp2_with fail
    refine (vTake_c A c l w hv (by omega)).mono ?_
    rintro e w1 (⟨_, A1, c1, rfl, hv1, hb1⟩ | ⟨hno, _⟩)
    rotate_left
    · exact absurd hok hno
    rw [HY0.out, HS0.out]
    rw [HS0.out] at hv1
    go_wp2_with fail
    refine (ref_take_yes A l.length c l w1 (hv.step hb1) rfl (by omega) hnc hok).mono ?_
    rintro e w2 ⟨rfl, hb2⟩
    rw [HY0.out, HS0.out]
    have hb3 := hb1.trans (hb2.mono hb1.size)
    have hv2 := hv1.step hb2
    have hvl := hv.below hb3
    by_cases hcv : c = s0
    · rw [if_pos hcv] at hvc
      have hvd := hvc.below hb3
      obtain ⟨bq, oq, rfl, _, _⟩ := hv.at_ (k := 0) (by omega)
      obtain rfl : s0 = c := hcv.symm
      have hls : l.length = s0 := by omega
      have HLS := Lib.hid (show (l.drop s0).length = 0 by rw [List.length_drop]; omega)
      clear hls
      go_wp2_with fail
      refine rb_start (by kernel_rfl) (fun wx hwx => ?_)
      have hbx := hb3.trans (hwx.mono hb3.size)
      have hx1 := hv2.step hwx
      have hx2 := hvd.below (hwx.mono hb3.size) |>.more hbx.size
      refine rb_take 0 (some 31) (v := ?_) rfl rfl (by kernel_rfl) (by kernel_rfl) (by kernel_rfl) (by kernel_rfl) ?_ ?_
      rotate_left
      focus (intro w' hw'; go_simp; try with_reducible rfl)
      try simp only [Act.put, List.setIfInBounds_toArray, List.set_cons_zero, List.set_cons_succ]
      refine rb_take 1 (some 32) (v := ?_) rfl rfl (by kernel_rfl) (by kernel_rfl) (by kernel_rfl) (by kernel_rfl) ?_ ?_
      rotate_left
      focus (intro w' hw'; go_simp; try with_reducible rfl)
      try simp only [Act.put, List.setIfInBounds_toArray, List.set_cons_zero, List.set_cons_succ]
      refine rb_take 2 (some 33) (v := ?_) rfl rfl (by kernel_rfl) (by kernel_rfl) (by kernel_rfl) (by kernel_rfl) ?_ ?_
      rotate_left
      focus (intro w' hw'; go_simp; try with_reducible rfl)
      try simp only [Act.put, List.setIfInBounds_toArray, List.set_cons_zero, List.set_cons_succ]
      refine rb_take 3 (some 34) (v := ?_) rfl rfl (by kernel_rfl) (by kernel_rfl) (by kernel_rfl) (by kernel_rfl) ?_ ?_
      rotate_left
      focus (intro w' hw'; go_simp; try with_reducible rfl)
      try simp only [Act.put, List.setIfInBounds_toArray, List.set_cons_zero, List.set_cons_succ]
      refine rb_take 4 (some 35) (v := ?_) rfl rfl (by kernel_rfl) (by kernel_rfl) (by kernel_rfl) (by kernel_rfl) ?_ ?_
      rotate_left
      focus (intro w' hw'; go_simp; try with_reducible rfl)
      try simp only [Act.put, List.setIfInBounds_toArray, List.set_cons_zero, List.set_cons_succ]
      refine rb_take 5 (some 36) (v := ?_) rfl rfl (by kernel_rfl) (by kernel_rfl) (by kernel_rfl) (by kernel_rfl) ?_ ?_
      rotate_left
      focus (intro w' hw'; go_simp; try with_reducible rfl)
      try simp only [Act.put, List.setIfInBounds_toArray, List.set_cons_zero, List.set_cons_succ]
      refine rb_take 6 (some 37) (v := ?_) rfl rfl (by kernel_rfl) (by kernel_rfl) (by kernel_rfl) (by kernel_rfl) ?_ ?_
      rotate_left
      focus (intro w' hw'; go_simp; try with_reducible rfl)
      try simp only [Act.put, List.setIfInBounds_toArray, List.set_cons_zero, List.set_cons_succ]
      refine rb_take 7 (some 38) (v := ?_) rfl rfl (by kernel_rfl) (by kernel_rfl) (by kernel_rfl) (by kernel_rfl) ?_ ?_
      rotate_left
      focus (intro w' hw'; go_simp; try with_reducible rfl)
      try simp only [Act.put, List.setIfInBounds_toArray, List.set_cons_zero, List.set_cons_succ]
      refine rb_take 8 (some 39) (v := ?_) rfl rfl (by kernel_rfl) (by kernel_rfl) (by kernel_rfl) (by kernel_rfl) ?_ ?_
      rotate_left
      focus (intro w' hw'; go_simp; try with_reducible rfl)
      try simp only [Act.put, List.setIfInBounds_toArray, List.set_cons_zero, List.set_cons_succ]
      refine rb_take 9 (some 40) (v := ?_) rfl rfl (by kernel_rfl) (by kernel_rfl) (by kernel_rfl) (by kernel_rfl) ?_ ?_
      rotate_left
      focus (intro w' hw'; go_simp; try with_reducible rfl)
      try simp only [Act.put, List.setIfInBounds_toArray, List.set_cons_zero, List.set_cons_succ]
      refine rb_take 10 (some 41) (v := ?_) rfl rfl (by kernel_rfl) (by kernel_rfl) (by kernel_rfl) (by kernel_rfl) ?_ ?_
      rotate_left
      focus (intro w' hw'; go_simp; try with_reducible rfl)
      try simp only [Act.put, List.setIfInBounds_toArray, List.set_cons_zero, List.set_cons_succ]
      refine rb_take 11 (some 42) (v := ?_) rfl rfl (by kernel_rfl) (by kernel_rfl) (by kernel_rfl) (by kernel_rfl) ?_ ?_
      rotate_left
      focus (intro w' hw'; go_simp; try with_reducible rfl)
      try simp only [Act.put, List.setIfInBounds_toArray, List.set_cons_zero, List.set_cons_succ]
      refine rb_take 12 (some 43) (v := ?_) rfl rfl (by kernel_rfl) (by kernel_rfl) (by kernel_rfl) (by kernel_rfl) ?_ ?_
      rotate_left
      focus (intro w' hw'; go_simp; try with_reducible rfl)
      try simp only [Act.put, List.setIfInBounds_toArray, List.set_cons_zero, List.set_cons_succ]
      refine rb_take 13 (some 44) (v := ?_) rfl rfl (by kernel_rfl) (by kernel_rfl) (by kernel_rfl) (by kernel_rfl) ?_ ?_
      rotate_left
      focus (intro w' hw'; go_simp; try with_reducible rfl)
      try simp only [Act.put, List.setIfInBounds_toArray, List.set_cons_zero, List.set_cons_succ]
      refine rb_take 14 (some 45) (v := ?_) rfl rfl (by kernel_rfl) (by kernel_rfl) (by kernel_rfl) (by kernel_rfl) ?_ ?_
      rotate_left
      focus (intro w' hw'; go_simp; try with_reducible rfl)
      try simp only [Act.put, List.setIfInBounds_toArray, List.set_cons_zero, List.set_cons_succ]
      refine rb_take 15 (some 46) (v := .string (bstr (l.drop s0))) rfl rfl (by kernel_rfl) (by kernel_rfl) (by kernel_rfl) (by kernel_rfl) ?_ ?_
      focus (intro w' hw'; exact exec_bstr (n := 0) c1 (.tmp 45) _ _ rfl (by kernel_rfl) (hx1.step hw') HLS.out _ Try.underlying80 Try.underlying5 Try.underlying9 rfl)
      try simp only [Act.put, List.setIfInBounds_toArray, List.set_cons_zero, List.set_cons_succ]
      refine rb_take 16 (some 47) (v := ?_) rfl rfl (by kernel_rfl) (by kernel_rfl) (by kernel_rfl) (by kernel_rfl) ?_ ?_
      rotate_left
      focus (intro w' hw'; go_simp; try with_reducible rfl)
      try simp only [Act.put, List.setIfInBounds_toArray, List.set_cons_zero, List.set_cons_succ]
      refine rb_take 17 (some 48) (v := ?_) rfl rfl (by kernel_rfl) (by kernel_rfl) (by kernel_rfl) (by kernel_rfl) ?_ ?_
      rotate_left
      focus (intro w' hw'; go_simp; try with_reducible rfl)
      try simp only [Act.put, List.setIfInBounds_toArray, List.set_cons_zero, List.set_cons_succ]
      refine rb_take 18 (some 49) (v := ?_) rfl rfl (by kernel_rfl) (by kernel_rfl) (by kernel_rfl) (by kernel_rfl) ?_ ?_
      rotate_left
      focus (intro w' hw'; go_simp; try with_reducible rfl)
      try simp only [Act.put, List.setIfInBounds_toArray, List.set_cons_zero, List.set_cons_succ]
      refine rb_take 19 (some 50) (v := .string (bstr (l.drop s0))) rfl rfl (by kernel_rfl) (by kernel_rfl) (by kernel_rfl) (by kernel_rfl) ?_ ?_
      focus (intro w' hw'; exact exec_bstr (n := 0) 0 (.tmp 49) _ _ rfl (by kernel_rfl) (hx2.step hw') HLS.out _ Try.underlying80 Try.underlying5 Try.underlying9 rfl)
      try simp only [Act.put, List.setIfInBounds_toArray, List.set_cons_zero, List.set_cons_succ]
      refine rb_take 20 (some 51) (v := .bool false) rfl rfl (by kernel_rfl) (by kernel_rfl) (by kernel_rfl) (by kernel_rfl) ?_ ?_
      focus (intro w' hw'; go_simp; try simp)
      try simp only [Act.put, List.setIfInBounds_toArray, List.set_cons_zero, List.set_cons_succ]
      refine rb_take 21 (some 52) (v := ?_) rfl rfl (by kernel_rfl) (by kernel_rfl) (by kernel_rfl) (by kernel_rfl) ?_ ?_
      rotate_left
      focus (intro w' hw'; go_simp; try with_reducible rfl)
      try simp only [Act.put, List.setIfInBounds_toArray, List.set_cons_zero, List.set_cons_succ]
      refine rb_take 22 (some 53) (v := ?_) rfl rfl (by kernel_rfl) (by kernel_rfl) (by kernel_rfl) (by kernel_rfl) ?_ ?_
      rotate_left
      focus (intro w' hw'; go_simp; try with_reducible rfl)
      try simp only [Act.put, List.setIfInBounds_toArray, List.set_cons_zero, List.set_cons_succ]
      refine rb_take 23 (some 54) (v := ?_) rfl rfl (by kernel_rfl) (by kernel_rfl) (by kernel_rfl) (by kernel_rfl) ?_ ?_
      rotate_left
      focus (intro w' hw'; go_simp; try with_reducible rfl)
      try simp only [Act.put, List.setIfInBounds_toArray, List.set_cons_zero, List.set_cons_succ]
      refine rb_take 24 (some 55) (v := ?_) rfl rfl (by kernel_rfl) (by kernel_rfl) (by kernel_rfl) (by kernel_rfl) ?_ ?_
      rotate_left
      focus (intro w' hw'; go_simp; try with_reducible rfl)
      try simp only [Act.put, List.setIfInBounds_toArray, List.set_cons_zero, List.set_cons_succ]
      refine rb_take 25 (some 56) (v := ?_) rfl rfl (by kernel_rfl) (by kernel_rfl) (by kernel_rfl) (by kernel_rfl) ?_ ?_
      rotate_left
      focus (intro w' hw'; go_simp; try with_reducible rfl)
      try simp only [Act.put, List.setIfInBounds_toArray, List.set_cons_zero, List.set_cons_succ]
      refine rb_take 26 (some 57) (v := ?_) rfl rfl (by kernel_rfl) (by kernel_rfl) (by kernel_rfl) (by kernel_rfl) ?_ ?_
      rotate_left
      focus (intro w' hw'; go_simp; try with_reducible rfl)
      try simp only [Act.put, List.setIfInBounds_toArray, List.set_cons_zero, List.set_cons_succ]
      refine rb_skip 27 (some 58) rfl rfl (by kernel_rfl) (by kernel_rfl) (by kernel_rfl) (by kernel_rfl) ?_
      try simp only [Act.put, List.setIfInBounds_toArray, List.set_cons_zero, List.set_cons_succ]
      refine rb_skip 28 (some 59) rfl rfl (by kernel_rfl) (by kernel_rfl) (by kernel_rfl) (by kernel_rfl) ?_
      try simp only [Act.put, List.setIfInBounds_toArray, List.set_cons_zero, List.set_cons_succ]
      refine rb_skip 29 (some 60) rfl rfl (by kernel_rfl) (by kernel_rfl) (by kernel_rfl) (by kernel_rfl) ?_
      try simp only [Act.put, List.setIfInBounds_toArray, List.set_cons_zero, List.set_cons_succ]
      refine rb_skip 30 (some 61) rfl rfl (by kernel_rfl) (by kernel_rfl) (by kernel_rfl) (by kernel_rfl) ?_
      try simp only [Act.put, List.setIfInBounds_toArray, List.set_cons_zero, List.set_cons_succ]
      refine rb_skip 31 (some 62) rfl rfl (by kernel_rfl) (by kernel_rfl) (by kernel_rfl) (by kernel_rfl) ?_
      try simp only [Act.put, List.setIfInBounds_toArray, List.set_cons_zero, List.set_cons_succ]
      refine rb_skip 32 (some 63) rfl rfl (by kernel_rfl) (by kernel_rfl) (by kernel_rfl) (by kernel_rfl) ?_
      try simp only [Act.put, List.setIfInBounds_toArray, List.set_cons_zero, List.set_cons_succ]
      refine rb_skip 33 (some 64) rfl rfl (by kernel_rfl) (by kernel_rfl) (by kernel_rfl) (by kernel_rfl) ?_
      try simp only [Act.put, List.setIfInBounds_toArray, List.set_cons_zero, List.set_cons_succ]
      refine rb_take 34 (some 65) (v := ?_) rfl rfl (by kernel_rfl) (by kernel_rfl) (by kernel_rfl) (by kernel_rfl) ?_ ?_
      rotate_left
      focus (intro w' hw'; go_simp; try with_reducible rfl)
      try simp only [Act.put, List.setIfInBounds_toArray, List.set_cons_zero, List.set_cons_succ]
      refine rb_take 35 (some 66) (v := ?_) rfl rfl (by kernel_rfl) (by kernel_rfl) (by kernel_rfl) (by kernel_rfl) ?_ ?_
      rotate_left
      focus (intro w' hw'; go_simp; try with_reducible rfl)
      try simp only [Act.put, List.setIfInBounds_toArray, List.set_cons_zero, List.set_cons_succ]
      refine rb_done (Nat.le_refl _) (by kernel_rfl) ?_
      have hbz := hbx
      have hvz := hv.below hbz
      generalize wx = wz at hbz hvz ⊢
      have hncs : l.length ≤ s0 := hnc
      go_wp2_with fail
      refine (vAll_c (some ⟨bq, oq, none⟩) s0 l wz (hvz.more hbz.size) (by omega)).mono ?_
      rintro e w5 ⟨K, hK, hb5, hcase⟩
      have hbw5 := hbz.trans (hb5.mono hbz.size)
      have h5w := hbw5.size
      have hvl5 := hv.below hbw5
      rcases hcase with ⟨hKn, A8, c8, rfl, hv8⟩ | ⟨hKn, hKv, rfl⟩
      · have HV8 := Lib.hid hv8
        clear hv8
        go_wp2_with fail
        go_loopw [0, 10, 11, 12] (fun v0 v10 v11 v12 wr => ∃ (k m : Nat) (Ab : Option Addr) (cb : Nat) (Aw : Option Addr) (cw : Nat), k ≤ K ∧ m + k ≤ 500 ∧ v0 = .slice Ab m cb ∧ m ≤ cb ∧ v10 = .slice Aw k cw ∧ v11 = .bool true ∧ v12 = .int .i64 (k : Int) ∧ Hid ((rkN l k).length = m) ∧ Hid (BView wr w.heap.size Ab (rkN l k)) ∧ Hid (Own wr w5.heap.size 40 Aw k cw ((mkN l k).map u64v)) ∧ Below w5.heap.size w5 wr) (fun _ _ _ i _ => 501 - (intOf i).toNat)
        case atStart => exact ⟨0, l.length, (some ⟨bq, oq, none⟩), s0, none, 0, Nat.zero_le _, by omega, rfl, hnc, rfl, rfl, rfl, Lib.hid rfl, hvl5, Own.nil_ _ _ _, Below.refl _ _⟩
        case round =>
          rename World => wr
          obtain ⟨k, m, Ab, cb, Aw, cw, hk, hmk, rfl, hmc, rfl, rfl, rfl, HM, hbv, hO, hbel⟩ := hrel
          have hw5 := hbel.size
          by_cases hkK : k < K
          · have hok := hK k hkK
            have hm0 : 0 < m := by rw [← HM.out]; exact hok.1
            obtain ⟨y, HY⟩ : ∃ y, Hid (vval (rkN l k) = y) := ⟨_, Lib.hid rfl⟩
            obtain ⟨s, HS⟩ : ∃ s, Hid (vsz (rkN l k) = s) := ⟨_, Lib.hid rfl⟩
            have hs1 : 1 ≤ s := by rw [← HS.out]; exact vsz_pos _
            have hsm : s ≤ m := by rw [← HS.out, ← HM.out]; exact hok.2
            have hvc := hbv.out.cut (k := s) (c := cb) (by rw [HM.out]; omega)
            have hrk1 : (rkN l k).drop s = rkN l (k + 1) := by rw [← HS.out]; rfl
            rw [hrk1] at hvc
            have HRL := Lib.hid (show (rkN l (k + 1)).length = m - s by rw [← hrk1, List.length_drop, HM.out])
            clear hrk1
            have hsd : 0 < s := by omega
            have hki : (k : Int) < 500 := by omega
            have hmi : (0 : Int) < (m : Int) := by omega
            have hsi : (1 : Int) ≤ (s : Int) ∧ (s : Int) ≤ (m : Int) := by omega
            have hsc : (s : Int) ≤ (cb : Int) := by omega
            have hmci : (m : Int) ≤ (cb : Int) := by omega
            have hvr := Lib.hid (hbv.out.more (show w.heap.size ≤ wr.heap.size by omega))
            obtain ⟨bq, oq, rfl, _, _⟩ := hbv.out.at_ (k := 0) (by rw [HM.out]; omega)
            by_cases hcs : cb = s
            · rw [if_pos hcs] at hvc
              have HVC := Lib.hid hvc
              clear hvc
              obtain rfl : s = cb := hcs.symm
              go_wp2_with fail
              refine (ref_take_yes _ m _ (rkN l k) wr hvr.out HM.out (by omega) hmc hok).mono ?_
              rintro e w6 ⟨rfl, hb6⟩
              rw [HY.out, HS.out]
              have hO6 := Lib.hid (own_keep hO.out (Mod.of_below (g := wr.heap.size) hb6) (by intro g' e e2; have := (World.ownsRow.lt hO.out g' (by rw [e]; rfl)).2; injection e2 with e2; omega))
              have hb7 := hbel.trans (hb6.mono hw5)
              have hw6 := hb6.size
              go_wp2_with (at_builtin; (refine wp_append1 rfl _ _ _ rfl w5.heap.size 40 (.int .u64 0) 8 rfl Try.underlying56 u64info' Aw k cw _ rfl (Own.alloc hO6.out _) (w6.heap.size + 1) (some ⟨w6.heap.size, 0, none⟩) 1 1 ([y].map u64v) rfl ((Arr.new w6 40 ([y].map u64v)).view (by simp)) rfl (by intro h; cases h) (u64v_one [y]) (by unfold maxLen; omega) (by omega) (by simp; omega) w5.heap.size (w6.alloc (.cells #[.int .u64 (y : Int)] 40)) (Below.refl _ _) (Nat.le_refl _) ?_); intro A8' c8' w8 hown8 hbel8)
              have hb8 := (hb7.alloc (by omega) (.cells #[.int .u64 (y : Int)] 40)).trans hbel8
              have hbr8 := ((hb6.mono hw5).alloc (by omega) (.cells #[.int .u64 (y : Int)] 40)).trans hbel8
              go_roundw
              case rel => exact ⟨k + 1, 0, _, 0, A8', c8', by omega, by omega, rfl, by omega, rfl, rfl, by go_num, Lib.hid (by rw [HRL.out]; omega), Lib.hid (HVC.out.below (hbr8.mono h5w)), by have h := hown8.out; rw [← List.map_append, ← HY.out] at h; exact h, hb8⟩
              case measure => (simp [intOf] <;> omega)
            · rw [if_neg hcs, map_add] at hvc
              have HVC := Lib.hid hvc
              clear hvc
              go_wp2_with fail
              refine (ref_take_yes _ m _ (rkN l k) wr hvr.out HM.out (by omega) hmc hok).mono ?_
              rintro e w6 ⟨rfl, hb6⟩
              rw [HY.out, HS.out]
              have hO6 := Lib.hid (own_keep hO.out (Mod.of_below (g := wr.heap.size) hb6) (by intro g' e e2; have := (World.ownsRow.lt hO.out g' (by rw [e]; rfl)).2; injection e2 with e2; omega))
              have hb7 := hbel.trans (hb6.mono hw5)
              have hw6 := hb6.size
              go_wp2_with (at_builtin; (refine wp_append1 rfl _ _ _ rfl w5.heap.size 40 (.int .u64 0) 8 rfl Try.underlying56 u64info' Aw k cw _ rfl (Own.alloc hO6.out _) (w6.heap.size + 1) (some ⟨w6.heap.size, 0, none⟩) 1 1 ([y].map u64v) rfl ((Arr.new w6 40 ([y].map u64v)).view (by simp)) rfl (by intro h; cases h) (u64v_one [y]) (by unfold maxLen; omega) (by omega) (by simp; omega) w5.heap.size (w6.alloc (.cells #[.int .u64 (y : Int)] 40)) (Below.refl _ _) (Nat.le_refl _) ?_); intro A8' c8' w8 hown8 hbel8)
              have hb8 := (hb7.alloc (by omega) (.cells #[.int .u64 (y : Int)] 40)).trans hbel8
              have hbr8 := ((hb6.mono hw5).alloc (by omega) (.cells #[.int .u64 (y : Int)] 40)).trans hbel8
              go_roundw
              case rel => exact ⟨k + 1, m - s, _, _, A8', c8', by omega, by omega, rfl, by omega, rfl, rfl, by go_num, HRL, Lib.hid (HVC.out.below (hbr8.mono h5w)), by have h := hown8.out; rw [← List.map_append, ← HY.out] at h; exact h, hb8⟩
              case measure => (simp [intOf] <;> omega)
          · obtain rfl : k = K := by omega
            obtain rfl : m = 0 := by have := HM.out; rw [hKn] at this; simpa using this.symm
            have hvw := Own.view hO.out
            have hv8r := HV8.out.below hbel
            have hbwr := hbw5.trans (hbel.mono h5w)
            have hlenK := mkN_length l k
            by_cases hk5 : (k : Int) < 500
            · go_wp2_with fail
              go_loopw [15] (fun v wq => ∃ i : Nat, i ≤ k ∧ v = .int .i64 (i : Int) ∧ Below wr.heap.size wr wq) (fun v _ => k - (intOf v).toNat)
              case atStart => exact ⟨0, Nat.zero_le _, rfl, Below.refl _ _⟩
              case round =>
                rename World => wq
                obtain ⟨i, hi, rfl, hbq⟩ := hrel
                have hbwq := hbwr.trans (hbq.mono hbwr.size)
                by_cases hik : i < k
                · have hik2 : (i : Int) < (k : Int) := by omega
                  have hi0 : (0 : Int) ≤ (i : Int) := by omega
                  have hik3 : ¬ (k : Int) ≤ (i : Int) := by omega
                  have hik4 : ¬ k ≤ i := by omega
                  have hne : (mkN l k).map u64v ≠ [] := by intro e; have := congrArg List.length e; rw [List.length_map, hlenK] at this; simp at this; omega
                  obtain ⟨b1, o1, rfl, hb1', hc1⟩ := hv8r hne
                  obtain ⟨b2, o2, rfl, hb2', hc2⟩ := hvw hne
                  obtain ⟨z, hz⟩ : ∃ z, ((mkN l k).map u64v)[i]? = some (.int .u64 (z : Int)) := ⟨_, by rw [List.getElem?_map, List.getElem?_eq_getElem (by rw [hlenK]; exact hik)]; rfl⟩
                  have d1 := (hbq.cell (p := ⟨b1, o1 + i, none⟩) (by simp; omega)).trans (hc1 i _ hz)
                  have d2 := (hbq.cell (p := ⟨b2, o2 + i, none⟩) (by simpa using hb2')).trans (hc2 i _ hz)
                  have hwq := hbq.size
                  clear hc1 hc2 hz hne
                  go_wp2_with fail
                  refine rb_start (by kernel_rfl) (fun wx hwx => ?_)
                  have hbx := hbq.trans (hwx.mono hbq.size)
                  have e1 := (hwx.cell (p := ⟨b1, o1 + i, none⟩) (by simp; omega)).trans d1
                  have e2 := (hwx.cell (p := ⟨b2, o2 + i, none⟩) (by simp; omega)).trans d2
                  have hwx2 := hwx.size
                  refine rb_take 0 (some 116) (v := ?_) rfl rfl (by kernel_rfl) (by kernel_rfl) (by kernel_rfl) (by kernel_rfl) ?_ ?_
                  rotate_left
                  focus (intro w' hw'; go_simp; try with_reducible rfl)
                  try simp only [Act.put, List.setIfInBounds_toArray, List.set_cons_zero, List.set_cons_succ]
                  refine rb_take 1 (some 117) (v := ?_) rfl rfl (by kernel_rfl) (by kernel_rfl) (by kernel_rfl) (by kernel_rfl) ?_ ?_
                  rotate_left
                  focus (intro w' hw'; go_simp; try with_reducible rfl)
                  try simp only [Act.put, List.setIfInBounds_toArray, List.set_cons_zero, List.set_cons_succ]
                  refine rb_take 2 (some 118) (v := ?_) rfl rfl (by kernel_rfl) (by kernel_rfl) (by kernel_rfl) (by kernel_rfl) ?_ ?_
                  rotate_left
                  focus (intro w' hw'; go_simp; try with_reducible rfl)
                  try simp only [Act.put, List.setIfInBounds_toArray, List.set_cons_zero, List.set_cons_succ]
                  refine rb_take 3 (some 119) (v := .bool false) rfl rfl (by kernel_rfl) (by kernel_rfl) (by kernel_rfl) (by kernel_rfl) ?_ ?_
                  focus (intro w' hw'; go_simp; first | done | (simp; omega))
                  try simp only [Act.put, List.setIfInBounds_toArray, List.set_cons_zero, List.set_cons_succ]
                  refine rb_take 4 (some 120) (v := ?_) rfl rfl (by kernel_rfl) (by kernel_rfl) (by kernel_rfl) (by kernel_rfl) ?_ ?_
                  rotate_left
                  focus (intro w' hw'; go_simp; try with_reducible rfl)
                  try simp only [Act.put, List.setIfInBounds_toArray, List.set_cons_zero, List.set_cons_succ]
                  refine rb_take 5 (some 121) (v := ?_) rfl rfl (by kernel_rfl) (by kernel_rfl) (by kernel_rfl) (by kernel_rfl) ?_ ?_
                  rotate_left
                  focus (intro w' hw'; go_simp; try with_reducible rfl)
                  try simp only [Act.put, List.setIfInBounds_toArray, List.set_cons_zero, List.set_cons_succ]
                  refine rb_take 6 (some 122) (v := ?_) rfl rfl (by kernel_rfl) (by kernel_rfl) (by kernel_rfl) (by kernel_rfl) ?_ ?_
                  rotate_left
                  focus (intro w' hw'; go_simp; try with_reducible rfl)
                  try simp only [Act.put, List.setIfInBounds_toArray, List.set_cons_zero, List.set_cons_succ]
                  refine rb_take 7 (some 123) (v := ?_) rfl rfl (by kernel_rfl) (by kernel_rfl) (by kernel_rfl) (by kernel_rfl) ?_ ?_
                  rotate_left
                  focus (intro w' hw'; go_simp; try with_reducible rfl)
                  try simp only [Act.put, List.setIfInBounds_toArray, List.set_cons_zero, List.set_cons_succ]
                  refine rb_take 8 (some 124) (v := ?_) rfl rfl (by kernel_rfl) (by kernel_rfl) (by kernel_rfl) (by kernel_rfl) ?_ ?_
                  rotate_left
                  focus (intro w' hw'; have q := (hw'.cell (p := ⟨b1, o1 + i, none⟩) (by simp; omega)).trans e1; go_simp; try with_reducible rfl)
                  try simp only [Act.put, List.setIfInBounds_toArray, List.set_cons_zero, List.set_cons_succ]
                  refine rb_take 9 (some 125) (v := ?_) rfl rfl (by kernel_rfl) (by kernel_rfl) (by kernel_rfl) (by kernel_rfl) ?_ ?_
                  rotate_left
                  focus (intro w' hw'; go_simp; try with_reducible rfl)
                  try simp only [Act.put, List.setIfInBounds_toArray, List.set_cons_zero, List.set_cons_succ]
                  refine rb_take 10 (some 126) (v := ?_) rfl rfl (by kernel_rfl) (by kernel_rfl) (by kernel_rfl) (by kernel_rfl) ?_ ?_
                  rotate_left
                  focus (intro w' hw'; go_simp; try with_reducible rfl)
                  try simp only [Act.put, List.setIfInBounds_toArray, List.set_cons_zero, List.set_cons_succ]
                  refine rb_take 11 (some 127) (v := ?_) rfl rfl (by kernel_rfl) (by kernel_rfl) (by kernel_rfl) (by kernel_rfl) ?_ ?_
                  rotate_left
                  focus (intro w' hw'; go_simp; try with_reducible rfl)
                  try simp only [Act.put, List.setIfInBounds_toArray, List.set_cons_zero, List.set_cons_succ]
                  refine rb_take 12 (some 128) (v := ?_) rfl rfl (by kernel_rfl) (by kernel_rfl) (by kernel_rfl) (by kernel_rfl) ?_ ?_
                  rotate_left
                  focus (intro w' hw'; have q := (hw'.cell (p := ⟨b2, o2 + i, none⟩) (by simp; omega)).trans e2; go_simp; try with_reducible rfl)
                  try simp only [Act.put, List.setIfInBounds_toArray, List.set_cons_zero, List.set_cons_succ]
                  refine rb_take 13 (some 129) (v := ?_) rfl rfl (by kernel_rfl) (by kernel_rfl) (by kernel_rfl) (by kernel_rfl) ?_ ?_
                  rotate_left
                  focus (intro w' hw'; go_simp; try with_reducible rfl)
                  try simp only [Act.put, List.setIfInBounds_toArray, List.set_cons_zero, List.set_cons_succ]
                  refine rb_take 14 (some 130) (v := ?_) rfl rfl (by kernel_rfl) (by kernel_rfl) (by kernel_rfl) (by kernel_rfl) ?_ ?_
                  rotate_left
                  focus (intro w' hw'; go_simp; try with_reducible rfl)
                  try simp only [Act.put, List.setIfInBounds_toArray, List.set_cons_zero, List.set_cons_succ]
                  refine rb_done (Nat.le_refl _) (by kernel_rfl) ?_
                  go_wp2_with fail
                  go_roundw
                  case rel => exact ⟨i + 1, by omega, by go_num, hbx⟩
                  case measure => (simp [intOf] <;> omega)
                · have hik2 : ¬ (i : Int) < (k : Int) := by omega
                  go_wp2_with fail
                  refine (varint_awake_c _).mono ?_
                  rintro e wa ⟨rfl, rfl⟩
                  go_wp2
                  go_ret
                  exact ⟨rfl, hbwq⟩
            · go_wp2_with fail
              go_loopw [15] (fun v wq => ∃ i : Nat, i ≤ k ∧ v = .int .i64 (i : Int) ∧ Below wr.heap.size wr wq) (fun v _ => k - (intOf v).toNat)
              case atStart => exact ⟨0, Nat.zero_le _, rfl, Below.refl _ _⟩
              case round =>
                rename World => wq
                obtain ⟨i, hi, rfl, hbq⟩ := hrel
                have hbwq := hbwr.trans (hbq.mono hbwr.size)
                by_cases hik : i < k
                · have hik2 : (i : Int) < (k : Int) := by omega
                  have hi0 : (0 : Int) ≤ (i : Int) := by omega
                  have hik3 : ¬ (k : Int) ≤ (i : Int) := by omega
                  have hik4 : ¬ k ≤ i := by omega
                  have hne : (mkN l k).map u64v ≠ [] := by intro e; have := congrArg List.length e; rw [List.length_map, hlenK] at this; simp at this; omega
                  obtain ⟨b1, o1, rfl, hb1', hc1⟩ := hv8r hne
                  obtain ⟨b2, o2, rfl, hb2', hc2⟩ := hvw hne
                  obtain ⟨z, hz⟩ : ∃ z, ((mkN l k).map u64v)[i]? = some (.int .u64 (z : Int)) := ⟨_, by rw [List.getElem?_map, List.getElem?_eq_getElem (by rw [hlenK]; exact hik)]; rfl⟩
                  have d1 := (hbq.cell (p := ⟨b1, o1 + i, none⟩) (by simp; omega)).trans (hc1 i _ hz)
                  have d2 := (hbq.cell (p := ⟨b2, o2 + i, none⟩) (by simpa using hb2')).trans (hc2 i _ hz)
                  have hwq := hbq.size
                  clear hc1 hc2 hz hne
                  go_wp2_with fail
                  refine rb_start (by kernel_rfl) (fun wx hwx => ?_)
                  have hbx := hbq.trans (hwx.mono hbq.size)
                  have e1 := (hwx.cell (p := ⟨b1, o1 + i, none⟩) (by simp; omega)).trans d1
                  have e2 := (hwx.cell (p := ⟨b2, o2 + i, none⟩) (by simp; omega)).trans d2
                  have hwx2 := hwx.size
                  refine rb_take 0 (some 116) (v := ?_) rfl rfl (by kernel_rfl) (by kernel_rfl) (by kernel_rfl) (by kernel_rfl) ?_ ?_
                  rotate_left
                  focus (intro w' hw'; go_simp; try with_reducible rfl)
                  try simp only [Act.put, List.setIfInBounds_toArray, List.set_cons_zero, List.set_cons_succ]
                  refine rb_take 1 (some 117) (v := ?_) rfl rfl (by kernel_rfl) (by kernel_rfl) (by kernel_rfl) (by kernel_rfl) ?_ ?_
                  rotate_left
                  focus (intro w' hw'; go_simp; try with_reducible rfl)
                  try simp only [Act.put, List.setIfInBounds_toArray, List.set_cons_zero, List.set_cons_succ]
                  refine rb_take 2 (some 118) (v := ?_) rfl rfl (by kernel_rfl) (by kernel_rfl) (by kernel_rfl) (by kernel_rfl) ?_ ?_
                  rotate_left
                  focus (intro w' hw'; go_simp; try with_reducible rfl)
                  try simp only [Act.put, List.setIfInBounds_toArray, List.set_cons_zero, List.set_cons_succ]
                  refine rb_take 3 (some 119) (v := .bool false) rfl rfl (by kernel_rfl) (by kernel_rfl) (by kernel_rfl) (by kernel_rfl) ?_ ?_
                  focus (intro w' hw'; go_simp; first | done | (simp; omega))
                  try simp only [Act.put, List.setIfInBounds_toArray, List.set_cons_zero, List.set_cons_succ]
                  refine rb_take 4 (some 120) (v := ?_) rfl rfl (by kernel_rfl) (by kernel_rfl) (by kernel_rfl) (by kernel_rfl) ?_ ?_
                  rotate_left
                  focus (intro w' hw'; go_simp; try with_reducible rfl)
                  try simp only [Act.put, List.setIfInBounds_toArray, List.set_cons_zero, List.set_cons_succ]
                  refine rb_take 5 (some 121) (v := ?_) rfl rfl (by kernel_rfl) (by kernel_rfl) (by kernel_rfl) (by kernel_rfl) ?_ ?_
                  rotate_left
                  focus (intro w' hw'; go_simp; try with_reducible rfl)
                  try simp only [Act.put, List.setIfInBounds_toArray, List.set_cons_zero, List.set_cons_succ]
                  refine rb_take 6 (some 122) (v := ?_) rfl rfl (by kernel_rfl) (by kernel_rfl) (by kernel_rfl) (by kernel_rfl) ?_ ?_
                  rotate_left
                  focus (intro w' hw'; go_simp; try with_reducible rfl)
                  try simp only [Act.put, List.setIfInBounds_toArray, List.set_cons_zero, List.set_cons_succ]
                  refine rb_take 7 (some 123) (v := ?_) rfl rfl (by kernel_rfl) (by kernel_rfl) (by kernel_rfl) (by kernel_rfl) ?_ ?_
                  rotate_left
                  focus (intro w' hw'; go_simp; try with_reducible rfl)
                  try simp only [Act.put, List.setIfInBounds_toArray, List.set_cons_zero, List.set_cons_succ]
                  refine rb_take 8 (some 124) (v := ?_) rfl rfl (by kernel_rfl) (by kernel_rfl) (by kernel_rfl) (by kernel_rfl) ?_ ?_
                  rotate_left
                  focus (intro w' hw'; have q := (hw'.cell (p := ⟨b1, o1 + i, none⟩) (by simp; omega)).trans e1; go_simp; try with_reducible rfl)
                  try simp only [Act.put, List.setIfInBounds_toArray, List.set_cons_zero, List.set_cons_succ]
                  refine rb_take 9 (some 125) (v := ?_) rfl rfl (by kernel_rfl) (by kernel_rfl) (by kernel_rfl) (by kernel_rfl) ?_ ?_
                  rotate_left
                  focus (intro w' hw'; go_simp; try with_reducible rfl)
                  try simp only [Act.put, List.setIfInBounds_toArray, List.set_cons_zero, List.set_cons_succ]
                  refine rb_take 10 (some 126) (v := ?_) rfl rfl (by kernel_rfl) (by kernel_rfl) (by kernel_rfl) (by kernel_rfl) ?_ ?_
                  rotate_left
                  focus (intro w' hw'; go_simp; try with_reducible rfl)
                  try simp only [Act.put, List.setIfInBounds_toArray, List.set_cons_zero, List.set_cons_succ]
                  refine rb_take 11 (some 127) (v := ?_) rfl rfl (by kernel_rfl) (by kernel_rfl) (by kernel_rfl) (by kernel_rfl) ?_ ?_
                  rotate_left
                  focus (intro w' hw'; go_simp; try with_reducible rfl)
                  try simp only [Act.put, List.setIfInBounds_toArray, List.set_cons_zero, List.set_cons_succ]
                  refine rb_take 12 (some 128) (v := ?_) rfl rfl (by kernel_rfl) (by kernel_rfl) (by kernel_rfl) (by kernel_rfl) ?_ ?_
                  rotate_left
                  focus (intro w' hw'; have q := (hw'.cell (p := ⟨b2, o2 + i, none⟩) (by simp; omega)).trans e2; go_simp; try with_reducible rfl)
                  try simp only [Act.put, List.setIfInBounds_toArray, List.set_cons_zero, List.set_cons_succ]
                  refine rb_take 13 (some 129) (v := ?_) rfl rfl (by kernel_rfl) (by kernel_rfl) (by kernel_rfl) (by kernel_rfl) ?_ ?_
                  rotate_left
                  focus (intro w' hw'; go_simp; try with_reducible rfl)
                  try simp only [Act.put, List.setIfInBounds_toArray, List.set_cons_zero, List.set_cons_succ]
                  refine rb_take 14 (some 130) (v := ?_) rfl rfl (by kernel_rfl) (by kernel_rfl) (by kernel_rfl) (by kernel_rfl) ?_ ?_
                  rotate_left
                  focus (intro w' hw'; go_simp; try with_reducible rfl)
                  try simp only [Act.put, List.setIfInBounds_toArray, List.set_cons_zero, List.set_cons_succ]
                  refine rb_done (Nat.le_refl _) (by kernel_rfl) ?_
                  go_wp2_with fail
                  go_roundw
                  case rel => exact ⟨i + 1, by omega, by go_num, hbx⟩
                  case measure => (simp [intOf] <;> omega)
                · have hik2 : ¬ (i : Int) < (k : Int) := by omega
                  go_wp2_with fail
                  refine (varint_awake_c _).mono ?_
                  rintro e wa ⟨rfl, rfl⟩
                  go_wp2
                  go_ret
                  exact ⟨rfl, hbwq⟩
      · go_wp2_with fail
        go_loopw [0, 10, 11, 12] (fun v0 v10 v11 v12 wr => ∃ (k m : Nat) (Ab : Option Addr) (cb : Nat) (Aw : Option Addr) (cw q : Nat) (okb : Bool), k ≤ 501 ∧ v0 = .slice Ab m cb ∧ v10 = .slice Aw q cw ∧ v11 = .bool okb ∧ v12 = .int .i64 (k : Int) ∧ Hid (okb = true → k ≤ K ∧ m + k ≤ 500 ∧ m ≤ cb ∧ q = k ∧ (rkN l k).length = m ∧ BView wr w.heap.size Ab (rkN l k) ∧ Own wr w5.heap.size 40 Aw k cw ((mkN l k).map u64v)) ∧ Below w5.heap.size w5 wr) (fun _ _ _ i _ => 502 - (intOf i).toNat)
        case atStart => exact ⟨0, l.length, (some ⟨bq, oq, none⟩), s0, none, 0, 0, true, by omega, rfl, rfl, rfl, rfl, Lib.hid (fun _ => ⟨Nat.zero_le _, by omega, hnc, rfl, rfl, hvl5, Own.nil_ _ _ _⟩), Below.refl _ _⟩
        case round =>
          rename World => wr
          obtain ⟨k, m, Ab, cb, Aw, cw, q, okb, hk501, rfl, rfl, rfl, rfl, hT, hbel⟩ := hrel
          have hw5 := hbel.size
          cases okb with
          | false =>
            clear hT
            have hbwr := hbw5.trans (hbel.mono h5w)
            by_cases hk5 : (k : Int) < 500
            · by_cases hm0 : (0 : Int) < (m : Int)
              · go_wp2_with fail
                refine (varint_awake_c _).mono ?_
                rintro e wa ⟨rfl, rfl⟩
                go_wp2
                go_ret
                exact ⟨rfl, hbwr⟩
              · go_wp2_with fail
                refine (varint_awake_c _).mono ?_
                rintro e wa ⟨rfl, rfl⟩
                go_wp2
                go_ret
                exact ⟨rfl, hbwr⟩
            · by_cases hm0 : (0 : Int) < (m : Int)
              · go_wp2_with fail
                refine (varint_awake_c _).mono ?_
                rintro e wa ⟨rfl, rfl⟩
                go_wp2
                go_ret
                exact ⟨rfl, hbwr⟩
              · go_wp2_with fail
                refine (varint_awake_c _).mono ?_
                rintro e wa ⟨rfl, rfl⟩
                go_wp2
                go_ret
                exact ⟨rfl, hbwr⟩
          | true =>
            obtain ⟨hk, hmk, hmc, hqk, hM', hbv', hO'⟩ := hT.out rfl
            obtain rfl : k = q := hqk.symm
            have HM := Lib.hid hM'
            have hbv := Lib.hid hbv'
            have hO := Lib.hid hO'
            clear hT hM' hbv' hO'
            by_cases hkK : k < K
            · have hok := hK k hkK
              have hm0 : 0 < m := by rw [← HM.out]; exact hok.1
              obtain ⟨y, HY⟩ : ∃ y, Hid (vval (rkN l k) = y) := ⟨_, Lib.hid rfl⟩
              obtain ⟨s, HS⟩ : ∃ s, Hid (vsz (rkN l k) = s) := ⟨_, Lib.hid rfl⟩
              have hs1 : 1 ≤ s := by rw [← HS.out]; exact vsz_pos _
              have hsm : s ≤ m := by rw [← HS.out, ← HM.out]; exact hok.2
              have hvc := hbv.out.cut (k := s) (c := cb) (by rw [HM.out]; omega)
              have hrk1 : (rkN l k).drop s = rkN l (k + 1) := by rw [← HS.out]; rfl
              rw [hrk1] at hvc
              have HRL := Lib.hid (show (rkN l (k + 1)).length = m - s by rw [← hrk1, List.length_drop, HM.out])
              clear hrk1
              have hsd : 0 < s := by omega
              have hki : (k : Int) < 500 := by omega
              have hmi : (0 : Int) < (m : Int) := by omega
              have hsi : (1 : Int) ≤ (s : Int) ∧ (s : Int) ≤ (m : Int) := by omega
              have hsc : (s : Int) ≤ (cb : Int) := by omega
              have hmci : (m : Int) ≤ (cb : Int) := by omega
              have hvr := Lib.hid (hbv.out.more (show w.heap.size ≤ wr.heap.size by omega))
              obtain ⟨bq, oq, rfl, _, _⟩ := hbv.out.at_ (k := 0) (by rw [HM.out]; omega)
              by_cases hcs : cb = s
              · rw [if_pos hcs] at hvc
                have HVC := Lib.hid hvc
                clear hvc
                obtain rfl : s = cb := hcs.symm
                go_wp2_with fail
                refine (ref_take_yes _ m _ (rkN l k) wr hvr.out HM.out (by omega) hmc hok).mono ?_
                rintro e w6 ⟨rfl, hb6⟩
                rw [HY.out, HS.out]
                have hO6 := Lib.hid (own_keep hO.out (Mod.of_below (g := wr.heap.size) hb6) (by intro g' e e2; have := (World.ownsRow.lt hO.out g' (by rw [e]; rfl)).2; injection e2 with e2; omega))
                have hb7 := hbel.trans (hb6.mono hw5)
                have hw6 := hb6.size
                go_wp2_with (at_builtin; (refine wp_append1 rfl _ _ _ rfl w5.heap.size 40 (.int .u64 0) 8 rfl Try.underlying56 u64info' Aw k cw _ rfl (Own.alloc hO6.out _) (w6.heap.size + 1) (some ⟨w6.heap.size, 0, none⟩) 1 1 ([y].map u64v) rfl ((Arr.new w6 40 ([y].map u64v)).view (by simp)) rfl (by intro h; cases h) (u64v_one [y]) (by unfold maxLen; omega) (by omega) (by simp; omega) w5.heap.size (w6.alloc (.cells #[.int .u64 (y : Int)] 40)) (Below.refl _ _) (Nat.le_refl _) ?_); intro A8' c8' w8 hown8 hbel8)
                have hb8 := (hb7.alloc (by omega) (.cells #[.int .u64 (y : Int)] 40)).trans hbel8
                have hbr8 := ((hb6.mono hw5).alloc (by omega) (.cells #[.int .u64 (y : Int)] 40)).trans hbel8
                go_roundw
                case rel => exact ⟨k + 1, 0, _, 0, A8', c8', k + 1, true, by omega, rfl, rfl, rfl, by go_num, Lib.hid (fun _ => ⟨by omega, by omega, by omega, rfl, by rw [HRL.out]; omega, HVC.out.below (hbr8.mono h5w), by have h := hown8.out; rw [← List.map_append, ← HY.out] at h; exact h⟩), hb8⟩
                case measure => (simp [intOf] <;> omega)
              · rw [if_neg hcs, map_add] at hvc
                have HVC := Lib.hid hvc
                clear hvc
                go_wp2_with fail
                refine (ref_take_yes _ m _ (rkN l k) wr hvr.out HM.out (by omega) hmc hok).mono ?_
                rintro e w6 ⟨rfl, hb6⟩
                rw [HY.out, HS.out]
                have hO6 := Lib.hid (own_keep hO.out (Mod.of_below (g := wr.heap.size) hb6) (by intro g' e e2; have := (World.ownsRow.lt hO.out g' (by rw [e]; rfl)).2; injection e2 with e2; omega))
                have hb7 := hbel.trans (hb6.mono hw5)
                have hw6 := hb6.size
                go_wp2_with (at_builtin; (refine wp_append1 rfl _ _ _ rfl w5.heap.size 40 (.int .u64 0) 8 rfl Try.underlying56 u64info' Aw k cw _ rfl (Own.alloc hO6.out _) (w6.heap.size + 1) (some ⟨w6.heap.size, 0, none⟩) 1 1 ([y].map u64v) rfl ((Arr.new w6 40 ([y].map u64v)).view (by simp)) rfl (by intro h; cases h) (u64v_one [y]) (by unfold maxLen; omega) (by omega) (by simp; omega) w5.heap.size (w6.alloc (.cells #[.int .u64 (y : Int)] 40)) (Below.refl _ _) (Nat.le_refl _) ?_); intro A8' c8' w8 hown8 hbel8)
                have hb8 := (hb7.alloc (by omega) (.cells #[.int .u64 (y : Int)] 40)).trans hbel8
                have hbr8 := ((hb6.mono hw5).alloc (by omega) (.cells #[.int .u64 (y : Int)] 40)).trans hbel8
                go_roundw
                case rel => exact ⟨k + 1, m - s, _, _, A8', c8', k + 1, true, by omega, rfl, rfl, rfl, by go_num, Lib.hid (fun _ => ⟨by omega, by omega, by omega, rfl, HRL.out, HVC.out.below (hbr8.mono h5w), by have h := hown8.out; rw [← List.map_append, ← HY.out] at h; exact h⟩), hb8⟩
                case measure => (simp [intOf] <;> omega)
            · obtain rfl : k = K := by omega
              have hm0 : 0 < m := by
                rcases Nat.eq_zero_or_pos m with h | h
                · exact absurd (List.eq_nil_of_length_eq_zero (by rw [HM.out]; exact h)) hKn
                · exact h
              have hki : (k : Int) < 500 := by omega
              have hmi : (0 : Int) < (m : Int) := by omega
              have hmci : (m : Int) ≤ (cb : Int) := by omega
              have hcb0 : ¬ cb = 0 := by omega
              have hvr := Lib.hid (hbv.out.more (show w.heap.size ≤ wr.heap.size by omega))
              obtain ⟨bq, oq, rfl, _, _⟩ := hbv.out.at_ (k := 0) (by rw [HM.out]; omega)
              go_wp2_with fail
              refine (ref_take_no _ m _ (rkN l k) wr hvr.out HM.out (by omega) hmc hKv).mono ?_
              rintro e w6 ⟨rfl, hb6⟩
              have hO6 := Lib.hid (own_keep hO.out (Mod.of_below (g := wr.heap.size) hb6) (by intro g' e e2; have := (World.ownsRow.lt hO.out g' (by rw [e]; rfl)).2; injection e2 with e2; omega))
              have hb7 := hbel.trans (hb6.mono hw5)
              have hw6 := hb6.size
              go_wp2_with (at_builtin; (refine wp_append1 rfl _ _ _ rfl w5.heap.size 40 (.int .u64 0) 8 rfl Try.underlying56 u64info' Aw k cw _ rfl (Own.alloc hO6.out _) (w6.heap.size + 1) (some ⟨w6.heap.size, 0, none⟩) 1 1 ([0].map u64v) rfl ((Arr.new w6 40 ([0].map u64v)).view (by simp)) rfl (by intro h; cases h) (u64v_one [0]) (by unfold maxLen; omega) (by omega) (by simp; omega) w5.heap.size (w6.alloc (.cells #[.int .u64 0] 40)) (Below.refl _ _) (Nat.le_refl _) ?_); intro A8' c8' w8 hown8 hbel8)
              have hb8 := (hb7.alloc (by omega) (.cells #[.int .u64 0] 40)).trans hbel8
              go_roundw
              case rel => exact ⟨k + 1, _, _, _, A8', c8', k + 1, false, by omega, rfl, rfl, rfl, by go_num, Lib.hid (fun h => by cases h), hb8⟩
              case measure => (simp [intOf] <;> omega)
    · rw [if_neg hcv] at hvc
      obtain ⟨bq, oq, rfl, _, _⟩ := hv.at_ (k := 0) (by omega)
      rw [map_add] at hvc
      have hvd := hvc.below hb3
      go_wp2_with fail
      refine rb_start (by kernel_rfl) (fun wx hwx => ?_)
      have hbx := hb3.trans (hwx.mono hb3.size)
      have hx1 := hv2.step hwx
      have hx2 := hvd.below (hwx.mono hb3.size) |>.more hbx.size
      refine rb_take 0 (some 31) (v := ?_) rfl rfl (by kernel_rfl) (by kernel_rfl) (by kernel_rfl) (by kernel_rfl) ?_ ?_
      rotate_left
      focus (intro w' hw'; go_simp; try with_reducible rfl)
      try simp only [Act.put, List.setIfInBounds_toArray, List.set_cons_zero, List.set_cons_succ]
      refine rb_take 1 (some 32) (v := ?_) rfl rfl (by kernel_rfl) (by kernel_rfl) (by kernel_rfl) (by kernel_rfl) ?_ ?_
      rotate_left
      focus (intro w' hw'; go_simp; try with_reducible rfl)
      try simp only [Act.put, List.setIfInBounds_toArray, List.set_cons_zero, List.set_cons_succ]
      refine rb_take 2 (some 33) (v := ?_) rfl rfl (by kernel_rfl) (by kernel_rfl) (by kernel_rfl) (by kernel_rfl) ?_ ?_
      rotate_left
      focus (intro w' hw'; go_simp; try with_reducible rfl)
      try simp only [Act.put, List.setIfInBounds_toArray, List.set_cons_zero, List.set_cons_succ]
      refine rb_take 3 (some 34) (v := ?_) rfl rfl (by kernel_rfl) (by kernel_rfl) (by kernel_rfl) (by kernel_rfl) ?_ ?_
      rotate_left
      focus (intro w' hw'; go_simp; try with_reducible rfl)
      try simp only [Act.put, List.setIfInBounds_toArray, List.set_cons_zero, List.set_cons_succ]
      refine rb_take 4 (some 35) (v := ?_) rfl rfl (by kernel_rfl) (by kernel_rfl) (by kernel_rfl) (by kernel_rfl) ?_ ?_
      rotate_left
      focus (intro w' hw'; go_simp; try with_reducible rfl)
      try simp only [Act.put, List.setIfInBounds_toArray, List.set_cons_zero, List.set_cons_succ]
      refine rb_take 5 (some 36) (v := ?_) rfl rfl (by kernel_rfl) (by kernel_rfl) (by kernel_rfl) (by kernel_rfl) ?_ ?_
      rotate_left
      focus (intro w' hw'; go_simp; try with_reducible rfl)
      try simp only [Act.put, List.setIfInBounds_toArray, List.set_cons_zero, List.set_cons_succ]
      refine rb_take 6 (some 37) (v := ?_) rfl rfl (by kernel_rfl) (by kernel_rfl) (by kernel_rfl) (by kernel_rfl) ?_ ?_
      rotate_left
      focus (intro w' hw'; go_simp; try with_reducible rfl)
      try simp only [Act.put, List.setIfInBounds_toArray, List.set_cons_zero, List.set_cons_succ]
      refine rb_take 7 (some 38) (v := ?_) rfl rfl (by kernel_rfl) (by kernel_rfl) (by kernel_rfl) (by kernel_rfl) ?_ ?_
      rotate_left
      focus (intro w' hw'; go_simp; try with_reducible rfl)
      try simp only [Act.put, List.setIfInBounds_toArray, List.set_cons_zero, List.set_cons_succ]
      refine rb_take 8 (some 39) (v := ?_) rfl rfl (by kernel_rfl) (by kernel_rfl) (by kernel_rfl) (by kernel_rfl) ?_ ?_
      rotate_left
      focus (intro w' hw'; go_simp; try with_reducible rfl)
      try simp only [Act.put, List.setIfInBounds_toArray, List.set_cons_zero, List.set_cons_succ]
      refine rb_take 9 (some 40) (v := ?_) rfl rfl (by kernel_rfl) (by kernel_rfl) (by kernel_rfl) (by kernel_rfl) ?_ ?_
      rotate_left
      focus (intro w' hw'; go_simp; try with_reducible rfl)
      try simp only [Act.put, List.setIfInBounds_toArray, List.set_cons_zero, List.set_cons_succ]
      refine rb_take 10 (some 41) (v := ?_) rfl rfl (by kernel_rfl) (by kernel_rfl) (by kernel_rfl) (by kernel_rfl) ?_ ?_
      rotate_left
      focus (intro w' hw'; go_simp; try with_reducible rfl)
      try simp only [Act.put, List.setIfInBounds_toArray, List.set_cons_zero, List.set_cons_succ]
      refine rb_take 11 (some 42) (v := ?_) rfl rfl (by kernel_rfl) (by kernel_rfl) (by kernel_rfl) (by kernel_rfl) ?_ ?_
      rotate_left
      focus (intro w' hw'; go_simp; try with_reducible rfl)
      try simp only [Act.put, List.setIfInBounds_toArray, List.set_cons_zero, List.set_cons_succ]
      refine rb_take 12 (some 43) (v := ?_) rfl rfl (by kernel_rfl) (by kernel_rfl) (by kernel_rfl) (by kernel_rfl) ?_ ?_
      rotate_left
      focus (intro w' hw'; go_simp; try with_reducible rfl)
      try simp only [Act.put, List.setIfInBounds_toArray, List.set_cons_zero, List.set_cons_succ]
      refine rb_take 13 (some 44) (v := ?_) rfl rfl (by kernel_rfl) (by kernel_rfl) (by kernel_rfl) (by kernel_rfl) ?_ ?_
      rotate_left
      focus (intro w' hw'; go_simp; try with_reducible rfl)
      try simp only [Act.put, List.setIfInBounds_toArray, List.set_cons_zero, List.set_cons_succ]
      refine rb_take 14 (some 45) (v := ?_) rfl rfl (by kernel_rfl) (by kernel_rfl) (by kernel_rfl) (by kernel_rfl) ?_ ?_
      rotate_left
      focus (intro w' hw'; go_simp; try with_reducible rfl)
      try simp only [Act.put, List.setIfInBounds_toArray, List.set_cons_zero, List.set_cons_succ]
      refine rb_take 15 (some 46) (v := .string (bstr (l.drop s0))) rfl rfl (by kernel_rfl) (by kernel_rfl) (by kernel_rfl) (by kernel_rfl) ?_ ?_
      focus (intro w' hw'; exact exec_bstr (n := l.length - s0) c1 (.tmp 45) _ _ rfl (by kernel_rfl) (hx1.step hw') List.length_drop _ Try.underlying80 Try.underlying5 Try.underlying9 rfl)
      try simp only [Act.put, List.setIfInBounds_toArray, List.set_cons_zero, List.set_cons_succ]
      refine rb_take 16 (some 47) (v := ?_) rfl rfl (by kernel_rfl) (by kernel_rfl) (by kernel_rfl) (by kernel_rfl) ?_ ?_
      rotate_left
      focus (intro w' hw'; go_simp; try with_reducible rfl)
      try simp only [Act.put, List.setIfInBounds_toArray, List.set_cons_zero, List.set_cons_succ]
      refine rb_take 17 (some 48) (v := ?_) rfl rfl (by kernel_rfl) (by kernel_rfl) (by kernel_rfl) (by kernel_rfl) ?_ ?_
      rotate_left
      focus (intro w' hw'; go_simp; try with_reducible rfl)
      try simp only [Act.put, List.setIfInBounds_toArray, List.set_cons_zero, List.set_cons_succ]
      refine rb_take 18 (some 49) (v := ?_) rfl rfl (by kernel_rfl) (by kernel_rfl) (by kernel_rfl) (by kernel_rfl) ?_ ?_
      rotate_left
      focus (intro w' hw'; go_simp; try with_reducible rfl)
      try simp only [Act.put, List.setIfInBounds_toArray, List.set_cons_zero, List.set_cons_succ]
      refine rb_take 19 (some 50) (v := .string (bstr (l.drop s0))) rfl rfl (by kernel_rfl) (by kernel_rfl) (by kernel_rfl) (by kernel_rfl) ?_ ?_
      focus (intro w' hw'; exact exec_bstr (n := l.length - s0) (c - s0) (.tmp 49) _ _ rfl (by kernel_rfl) (hx2.step hw') List.length_drop _ Try.underlying80 Try.underlying5 Try.underlying9 rfl)
      try simp only [Act.put, List.setIfInBounds_toArray, List.set_cons_zero, List.set_cons_succ]
      refine rb_take 20 (some 51) (v := .bool false) rfl rfl (by kernel_rfl) (by kernel_rfl) (by kernel_rfl) (by kernel_rfl) ?_ ?_
      focus (intro w' hw'; go_simp; try simp)
      try simp only [Act.put, List.setIfInBounds_toArray, List.set_cons_zero, List.set_cons_succ]
      refine rb_take 21 (some 52) (v := ?_) rfl rfl (by kernel_rfl) (by kernel_rfl) (by kernel_rfl) (by kernel_rfl) ?_ ?_
      rotate_left
      focus (intro w' hw'; go_simp; try with_reducible rfl)
      try simp only [Act.put, List.setIfInBounds_toArray, List.set_cons_zero, List.set_cons_succ]
      refine rb_take 22 (some 53) (v := ?_) rfl rfl (by kernel_rfl) (by kernel_rfl) (by kernel_rfl) (by kernel_rfl) ?_ ?_
      rotate_left
      focus (intro w' hw'; go_simp; try with_reducible rfl)
      try simp only [Act.put, List.setIfInBounds_toArray, List.set_cons_zero, List.set_cons_succ]
      refine rb_take 23 (some 54) (v := ?_) rfl rfl (by kernel_rfl) (by kernel_rfl) (by kernel_rfl) (by kernel_rfl) ?_ ?_
      rotate_left
      focus (intro w' hw'; go_simp; try with_reducible rfl)
      try simp only [Act.put, List.setIfInBounds_toArray, List.set_cons_zero, List.set_cons_succ]
      refine rb_take 24 (some 55) (v := ?_) rfl rfl (by kernel_rfl) (by kernel_rfl) (by kernel_rfl) (by kernel_rfl) ?_ ?_
      rotate_left
      focus (intro w' hw'; go_simp; try with_reducible rfl)
      try simp only [Act.put, List.setIfInBounds_toArray, List.set_cons_zero, List.set_cons_succ]
      refine rb_take 25 (some 56) (v := ?_) rfl rfl (by kernel_rfl) (by kernel_rfl) (by kernel_rfl) (by kernel_rfl) ?_ ?_
      rotate_left
      focus (intro w' hw'; go_simp; try with_reducible rfl)
      try simp only [Act.put, List.setIfInBounds_toArray, List.set_cons_zero, List.set_cons_succ]
      refine rb_take 26 (some 57) (v := ?_) rfl rfl (by kernel_rfl) (by kernel_rfl) (by kernel_rfl) (by kernel_rfl) ?_ ?_
      rotate_left
      focus (intro w' hw'; go_simp; try with_reducible rfl)
      try simp only [Act.put, List.setIfInBounds_toArray, List.set_cons_zero, List.set_cons_succ]
      refine rb_skip 27 (some 58) rfl rfl (by kernel_rfl) (by kernel_rfl) (by kernel_rfl) (by kernel_rfl) ?_
      try simp only [Act.put, List.setIfInBounds_toArray, List.set_cons_zero, List.set_cons_succ]
      refine rb_skip 28 (some 59) rfl rfl (by kernel_rfl) (by kernel_rfl) (by kernel_rfl) (by kernel_rfl) ?_
      try simp only [Act.put, List.setIfInBounds_toArray, List.set_cons_zero, List.set_cons_succ]
      refine rb_skip 29 (some 60) rfl rfl (by kernel_rfl) (by kernel_rfl) (by kernel_rfl) (by kernel_rfl) ?_
      try simp only [Act.put, List.setIfInBounds_toArray, List.set_cons_zero, List.set_cons_succ]
      refine rb_skip 30 (some 61) rfl rfl (by kernel_rfl) (by kernel_rfl) (by kernel_rfl) (by kernel_rfl) ?_
      try simp only [Act.put, List.setIfInBounds_toArray, List.set_cons_zero, List.set_cons_succ]
      refine rb_skip 31 (some 62) rfl rfl (by kernel_rfl) (by kernel_rfl) (by kernel_rfl) (by kernel_rfl) ?_
      try simp only [Act.put, List.setIfInBounds_toArray, List.set_cons_zero, List.set_cons_succ]
      refine rb_skip 32 (some 63) rfl rfl (by kernel_rfl) (by kernel_rfl) (by kernel_rfl) (by kernel_rfl) ?_
      try simp only [Act.put, List.setIfInBounds_toArray, List.set_cons_zero, List.set_cons_succ]
      refine rb_skip 33 (some 64) rfl rfl (by kernel_rfl) (by kernel_rfl) (by kernel_rfl) (by kernel_rfl) ?_
      try simp only [Act.put, List.setIfInBounds_toArray, List.set_cons_zero, List.set_cons_succ]
      refine rb_take 34 (some 65) (v := ?_) rfl rfl (by kernel_rfl) (by kernel_rfl) (by kernel_rfl) (by kernel_rfl) ?_ ?_
      rotate_left
      focus (intro w' hw'; go_simp; try with_reducible rfl)
      try simp only [Act.put, List.setIfInBounds_toArray, List.set_cons_zero, List.set_cons_succ]
      refine rb_take 35 (some 66) (v := ?_) rfl rfl (by kernel_rfl) (by kernel_rfl) (by kernel_rfl) (by kernel_rfl) ?_ ?_
      rotate_left
      focus (intro w' hw'; go_simp; try with_reducible rfl)
      try simp only [Act.put, List.setIfInBounds_toArray, List.set_cons_zero, List.set_cons_succ]
      refine rb_done (Nat.le_refl _) (by kernel_rfl) ?_
      have hbz := hbx
      have hvz := hv.below hbz
      generalize wx = wz at hbz hvz ⊢
      go_wp2_with fail
      refine (vAll_c (some ⟨bq, oq, none⟩) c l wz (hvz.more hbz.size) (by omega)).mono ?_
      rintro e w5 ⟨K, hK, hb5, hcase⟩
      have hbw5 := hbz.trans (hb5.mono hbz.size)
      have h5w := hbw5.size
      have hvl5 := hv.below hbw5
      rcases hcase with ⟨hKn, A8, c8, rfl, hv8⟩ | ⟨hKn, hKv, rfl⟩
      · have HV8 := Lib.hid hv8
        clear hv8
        go_wp2_with fail
        go_loopw [0, 10, 11, 12] (fun v0 v10 v11 v12 wr => ∃ (k m : Nat) (Ab : Option Addr) (cb : Nat) (Aw : Option Addr) (cw : Nat), k ≤ K ∧ m + k ≤ 500 ∧ v0 = .slice Ab m cb ∧ m ≤ cb ∧ v10 = .slice Aw k cw ∧ v11 = .bool true ∧ v12 = .int .i64 (k : Int) ∧ Hid ((rkN l k).length = m) ∧ Hid (BView wr w.heap.size Ab (rkN l k)) ∧ Hid (Own wr w5.heap.size 40 Aw k cw ((mkN l k).map u64v)) ∧ Below w5.heap.size w5 wr) (fun _ _ _ i _ => 501 - (intOf i).toNat)
        case atStart => exact ⟨0, l.length, (some ⟨bq, oq, none⟩), c, none, 0, Nat.zero_le _, by omega, rfl, hnc, rfl, rfl, rfl, Lib.hid rfl, hvl5, Own.nil_ _ _ _, Below.refl _ _⟩
        case round =>
          rename World => wr
          obtain ⟨k, m, Ab, cb, Aw, cw, hk, hmk, rfl, hmc, rfl, rfl, rfl, HM, hbv, hO, hbel⟩ := hrel
          have hw5 := hbel.size
          by_cases hkK : k < K
          · have hok := hK k hkK
            have hm0 : 0 < m := by rw [← HM.out]; exact hok.1
            obtain ⟨y, HY⟩ : ∃ y, Hid (vval (rkN l k) = y) := ⟨_, Lib.hid rfl⟩
            obtain ⟨s, HS⟩ : ∃ s, Hid (vsz (rkN l k) = s) := ⟨_, Lib.hid rfl⟩
            have hs1 : 1 ≤ s := by rw [← HS.out]; exact vsz_pos _
            have hsm : s ≤ m := by rw [← HS.out, ← HM.out]; exact hok.2
            have hvc := hbv.out.cut (k := s) (c := cb) (by rw [HM.out]; omega)
            have hrk1 : (rkN l k).drop s = rkN l (k + 1) := by rw [← HS.out]; rfl
            rw [hrk1] at hvc
            have HRL := Lib.hid (show (rkN l (k + 1)).length = m - s by rw [← hrk1, List.length_drop, HM.out])
            clear hrk1
            have hsd : 0 < s := by omega
            have hki : (k : Int) < 500 := by omega
            have hmi : (0 : Int) < (m : Int) := by omega
            have hsi : (1 : Int) ≤ (s : Int) ∧ (s : Int) ≤ (m : Int) := by omega
            have hsc : (s : Int) ≤ (cb : Int) := by omega
            have hmci : (m : Int) ≤ (cb : Int) := by omega
            have hvr := Lib.hid (hbv.out.more (show w.heap.size ≤ wr.heap.size by omega))
            obtain ⟨bq, oq, rfl, _, _⟩ := hbv.out.at_ (k := 0) (by rw [HM.out]; omega)
            by_cases hcs : cb = s
            · rw [if_pos hcs] at hvc
              have HVC := Lib.hid hvc
              clear hvc
              obtain rfl : s = cb := hcs.symm
              go_wp2_with fail
              refine (ref_take_yes _ m _ (rkN l k) wr hvr.out HM.out (by omega) hmc hok).mono ?_
              rintro e w6 ⟨rfl, hb6⟩
              rw [HY.out, HS.out]
              have hO6 := Lib.hid (own_keep hO.out (Mod.of_below (g := wr.heap.size) hb6) (by intro g' e e2; have := (World.ownsRow.lt hO.out g' (by rw [e]; rfl)).2; injection e2 with e2; omega))
              have hb7 := hbel.trans (hb6.mono hw5)
              have hw6 := hb6.size
              go_wp2_with (at_builtin; (refine wp_append1 rfl _ _ _ rfl w5.heap.size 40 (.int .u64 0) 8 rfl Try.underlying56 u64info' Aw k cw _ rfl (Own.alloc hO6.out _) (w6.heap.size + 1) (some ⟨w6.heap.size, 0, none⟩) 1 1 ([y].map u64v) rfl ((Arr.new w6 40 ([y].map u64v)).view (by simp)) rfl (by intro h; cases h) (u64v_one [y]) (by unfold maxLen; omega) (by omega) (by simp; omega) w5.heap.size (w6.alloc (.cells #[.int .u64 (y : Int)] 40)) (Below.refl _ _) (Nat.le_refl _) ?_); intro A8' c8' w8 hown8 hbel8)
              have hb8 := (hb7.alloc (by omega) (.cells #[.int .u64 (y : Int)] 40)).trans hbel8
              have hbr8 := ((hb6.mono hw5).alloc (by omega) (.cells #[.int .u64 (y : Int)] 40)).trans hbel8
              go_roundw
              case rel => exact ⟨k + 1, 0, _, 0, A8', c8', by omega, by omega, rfl, by omega, rfl, rfl, by go_num, Lib.hid (by rw [HRL.out]; omega), Lib.hid (HVC.out.below (hbr8.mono h5w)), by have h := hown8.out; rw [← List.map_append, ← HY.out] at h; exact h, hb8⟩
              case measure => (simp [intOf] <;> omega)
            · rw [if_neg hcs, map_add] at hvc
              have HVC := Lib.hid hvc
              clear hvc
              go_wp2_with fail
              refine (ref_take_yes _ m _ (rkN l k) wr hvr.out HM.out (by omega) hmc hok).mono ?_
              rintro e w6 ⟨rfl, hb6⟩
              rw [HY.out, HS.out]
              have hO6 := Lib.hid (own_keep hO.out (Mod.of_below (g := wr.heap.size) hb6) (by intro g' e e2; have := (World.ownsRow.lt hO.out g' (by rw [e]; rfl)).2; injection e2 with e2; omega))
              have hb7 := hbel.trans (hb6.mono hw5)
              have hw6 := hb6.size
              go_wp2_with (at_builtin; (refine wp_append1 rfl _ _ _ rfl w5.heap.size 40 (.int .u64 0) 8 rfl Try.underlying56 u64info' Aw k cw _ rfl (Own.alloc hO6.out _) (w6.heap.size + 1) (some ⟨w6.heap.size, 0, none⟩) 1 1 ([y].map u64v) rfl ((Arr.new w6 40 ([y].map u64v)).view (by simp)) rfl (by intro h; cases h) (u64v_one [y]) (by unfold maxLen; omega) (by omega) (by simp; omega) w5.heap.size (w6.alloc (.cells #[.int .u64 (y : Int)] 40)) (Below.refl _ _) (Nat.le_refl _) ?_); intro A8' c8' w8 hown8 hbel8)
              have hb8 := (hb7.alloc (by omega) (.cells #[.int .u64 (y : Int)] 40)).trans hbel8
              have hbr8 := ((hb6.mono hw5).alloc (by omega) (.cells #[.int .u64 (y : Int)] 40)).trans hbel8
              go_roundw
              case rel => exact ⟨k + 1, m - s, _, _, A8', c8', by omega, by omega, rfl, by omega, rfl, rfl, by go_num, HRL, Lib.hid (HVC.out.below (hbr8.mono h5w)), by have h := hown8.out; rw [← List.map_append, ← HY.out] at h; exact h, hb8⟩
              case measure => (simp [intOf] <;> omega)
          · obtain rfl : k = K := by omega
            obtain rfl : m = 0 := by have := HM.out; rw [hKn] at this; simpa using this.symm
            have hvw := Own.view hO.out
            have hv8r := HV8.out.below hbel
            have hbwr := hbw5.trans (hbel.mono h5w)
            have hlenK := mkN_length l k
            by_cases hk5 : (k : Int) < 500
            · go_wp2_with fail
              go_loopw [15] (fun v wq => ∃ i : Nat, i ≤ k ∧ v = .int .i64 (i : Int) ∧ Below wr.heap.size wr wq) (fun v _ => k - (intOf v).toNat)
              case atStart => exact ⟨0, Nat.zero_le _, rfl, Below.refl _ _⟩
              case round =>
                rename World => wq
                obtain ⟨i, hi, rfl, hbq⟩ := hrel
                have hbwq := hbwr.trans (hbq.mono hbwr.size)
                by_cases hik : i < k
                · have hik2 : (i : Int) < (k : Int) := by omega
                  have hi0 : (0 : Int) ≤ (i : Int) := by omega
                  have hik3 : ¬ (k : Int) ≤ (i : Int) := by omega
                  have hik4 : ¬ k ≤ i := by omega
                  have hne : (mkN l k).map u64v ≠ [] := by intro e; have := congrArg List.length e; rw [List.length_map, hlenK] at this; simp at this; omega
                  obtain ⟨b1, o1, rfl, hb1', hc1⟩ := hv8r hne
                  obtain ⟨b2, o2, rfl, hb2', hc2⟩ := hvw hne
                  obtain ⟨z, hz⟩ : ∃ z, ((mkN l k).map u64v)[i]? = some (.int .u64 (z : Int)) := ⟨_, by rw [List.getElem?_map, List.getElem?_eq_getElem (by rw [hlenK]; exact hik)]; rfl⟩
                  have d1 := (hbq.cell (p := ⟨b1, o1 + i, none⟩) (by simp; omega)).trans (hc1 i _ hz)
                  have d2 := (hbq.cell (p := ⟨b2, o2 + i, none⟩) (by simpa using hb2')).trans (hc2 i _ hz)
                  have hwq := hbq.size
                  clear hc1 hc2 hz hne
                  go_wp2_with fail
                  refine rb_start (by kernel_rfl) (fun wx hwx => ?_)
                  have hbx := hbq.trans (hwx.mono hbq.size)
                  have e1 := (hwx.cell (p := ⟨b1, o1 + i, none⟩) (by simp; omega)).trans d1
                  have e2 := (hwx.cell (p := ⟨b2, o2 + i, none⟩) (by simp; omega)).trans d2
                  have hwx2 := hwx.size
                  refine rb_take 0 (some 116) (v := ?_) rfl rfl (by kernel_rfl) (by kernel_rfl) (by kernel_rfl) (by kernel_rfl) ?_ ?_
                  rotate_left
                  focus (intro w' hw'; go_simp; try with_reducible rfl)
                  try simp only [Act.put, List.setIfInBounds_toArray, List.set_cons_zero, List.set_cons_succ]
                  refine rb_take 1 (some 117) (v := ?_) rfl rfl (by kernel_rfl) (by kernel_rfl) (by kernel_rfl) (by kernel_rfl) ?_ ?_
                  rotate_left
                  focus (intro w' hw'; go_simp; try with_reducible rfl)
                  try simp only [Act.put, List.setIfInBounds_toArray, List.set_cons_zero, List.set_cons_succ]
                  refine rb_take 2 (some 118) (v := ?_) rfl rfl (by kernel_rfl) (by kernel_rfl) (by kernel_rfl) (by kernel_rfl) ?_ ?_
                  rotate_left
                  focus (intro w' hw'; go_simp; try with_reducible rfl)
                  try simp only [Act.put, List.setIfInBounds_toArray, List.set_cons_zero, List.set_cons_succ]
                  refine rb_take 3 (some 119) (v := .bool false) rfl rfl (by kernel_rfl) (by kernel_rfl) (by kernel_rfl) (by kernel_rfl) ?_ ?_
                  focus (intro w' hw'; go_simp; first | done | (simp; omega))
                  try simp only [Act.put, List.setIfInBounds_toArray, List.set_cons_zero, List.set_cons_succ]
                  refine rb_take 4 (some 120) (v := ?_) rfl rfl (by kernel_rfl) (by kernel_rfl) (by kernel_rfl) (by kernel_rfl) ?_ ?_
                  rotate_left
                  focus (intro w' hw'; go_simp; try with_reducible rfl)
                  try simp only [Act.put, List.setIfInBounds_toArray, List.set_cons_zero, List.set_cons_succ]
                  refine rb_take 5 (some 121) (v := ?_) rfl rfl (by kernel_rfl) (by kernel_rfl) (by kernel_rfl) (by kernel_rfl) ?_ ?_
                  rotate_left
                  focus (intro w' hw'; go_simp; try with_reducible rfl)
                  try simp only [Act.put, List.setIfInBounds_toArray, List.set_cons_zero, List.set_cons_succ]
                  refine rb_take 6 (some 122) (v := ?_) rfl rfl (by kernel_rfl) (by kernel_rfl) (by kernel_rfl) (by kernel_rfl) ?_ ?_
                  rotate_left
                  focus (intro w' hw'; go_simp; try with_reducible rfl)
                  try simp only [Act.put, List.setIfInBounds_toArray, List.set_cons_zero, List.set_cons_succ]
                  refine rb_take 7 (some 123) (v := ?_) rfl rfl (by kernel_rfl) (by kernel_rfl) (by kernel_rfl) (by kernel_rfl) ?_ ?_
                  rotate_left
                  focus (intro w' hw'; go_simp; try with_reducible rfl)
                  try simp only [Act.put, List.setIfInBounds_toArray, List.set_cons_zero, List.set_cons_succ]
                  refine rb_take 8 (some 124) (v := ?_) rfl rfl (by kernel_rfl) (by kernel_rfl) (by kernel_rfl) (by kernel_rfl) ?_ ?_
                  rotate_left
                  focus (intro w' hw'; have q := (hw'.cell (p := ⟨b1, o1 + i, none⟩) (by simp; omega)).trans e1; go_simp; try with_reducible rfl)
                  try simp only [Act.put, List.setIfInBounds_toArray, List.set_cons_zero, List.set_cons_succ]
                  refine rb_take 9 (some 125) (v := ?_) rfl rfl (by kernel_rfl) (by kernel_rfl) (by kernel_rfl) (by kernel_rfl) ?_ ?_
                  rotate_left
                  focus (intro w' hw'; go_simp; try with_reducible rfl)
                  try simp only [Act.put, List.setIfInBounds_toArray, List.set_cons_zero, List.set_cons_succ]
                  refine rb_take 10 (some 126) (v := ?_) rfl rfl (by kernel_rfl) (by kernel_rfl) (by kernel_rfl) (by kernel_rfl) ?_ ?_
                  rotate_left
                  focus (intro w' hw'; go_simp; try with_reducible rfl)
                  try simp only [Act.put, List.setIfInBounds_toArray, List.set_cons_zero, List.set_cons_succ]
                  refine rb_take 11 (some 127) (v := ?_) rfl rfl (by kernel_rfl) (by kernel_rfl) (by kernel_rfl) (by kernel_rfl) ?_ ?_
                  rotate_left
                  focus (intro w' hw'; go_simp; try with_reducible rfl)
                  try simp only [Act.put, List.setIfInBounds_toArray, List.set_cons_zero, List.set_cons_succ]
                  refine rb_take 12 (some 128) (v := ?_) rfl rfl (by kernel_rfl) (by kernel_rfl) (by kernel_rfl) (by kernel_rfl) ?_ ?_
                  rotate_left
                  focus (intro w' hw'; have q := (hw'.cell (p := ⟨b2, o2 + i, none⟩) (by simp; omega)).trans e2; go_simp; try with_reducible rfl)
                  try simp only [Act.put, List.setIfInBounds_toArray, List.set_cons_zero, List.set_cons_succ]
                  refine rb_take 13 (some 129) (v := ?_) rfl rfl (by kernel_rfl) (by kernel_rfl) (by kernel_rfl) (by kernel_rfl) ?_ ?_
                  rotate_left
                  focus (intro w' hw'; go_simp; try with_reducible rfl)
                  try simp only [Act.put, List.setIfInBounds_toArray, List.set_cons_zero, List.set_cons_succ]
                  refine rb_take 14 (some 130) (v := ?_) rfl rfl (by kernel_rfl) (by kernel_rfl) (by kernel_rfl) (by kernel_rfl) ?_ ?_
                  rotate_left
                  focus (intro w' hw'; go_simp; try with_reducible rfl)
                  try simp only [Act.put, List.setIfInBounds_toArray, List.set_cons_zero, List.set_cons_succ]
                  refine rb_done (Nat.le_refl _) (by kernel_rfl) ?_
                  go_wp2_with fail
                  go_roundw
                  case rel => exact ⟨i + 1, by omega, by go_num, hbx⟩
                  case measure => (simp [intOf] <;> omega)
                · have hik2 : ¬ (i : Int) < (k : Int) := by omega
                  go_wp2_with fail
                  refine (varint_awake_c _).mono ?_
                  rintro e wa ⟨rfl, rfl⟩
                  go_wp2
                  go_ret
                  exact ⟨rfl, hbwq⟩
            · go_wp2_with fail
              go_loopw [15] (fun v wq => ∃ i : Nat, i ≤ k ∧ v = .int .i64 (i : Int) ∧ Below wr.heap.size wr wq) (fun v _ => k - (intOf v).toNat)
              case atStart => exact ⟨0, Nat.zero_le _, rfl, Below.refl _ _⟩
              case round =>
                rename World => wq
                obtain ⟨i, hi, rfl, hbq⟩ := hrel
                have hbwq := hbwr.trans (hbq.mono hbwr.size)
                by_cases hik : i < k
                · have hik2 : (i : Int) < (k : Int) := by omega
                  have hi0 : (0 : Int) ≤ (i : Int) := by omega
                  have hik3 : ¬ (k : Int) ≤ (i : Int) := by omega
                  have hik4 : ¬ k ≤ i := by omega
                  have hne : (mkN l k).map u64v ≠ [] := by intro e; have := congrArg List.length e; rw [List.length_map, hlenK] at this; simp at this; omega
                  obtain ⟨b1, o1, rfl, hb1', hc1⟩ := hv8r hne
                  obtain ⟨b2, o2, rfl, hb2', hc2⟩ := hvw hne
                  obtain ⟨z, hz⟩ : ∃ z, ((mkN l k).map u64v)[i]? = some (.int .u64 (z : Int)) := ⟨_, by rw [List.getElem?_map, List.getElem?_eq_getElem (by rw [hlenK]; exact hik)]; rfl⟩
                  have d1 := (hbq.cell (p := ⟨b1, o1 + i, none⟩) (by simp; omega)).trans (hc1 i _ hz)
                  have d2 := (hbq.cell (p := ⟨b2, o2 + i, none⟩) (by simpa using hb2')).trans (hc2 i _ hz)
                  have hwq := hbq.size
                  clear hc1 hc2 hz hne
                  go_wp2_with fail
                  refine rb_start (by kernel_rfl) (fun wx hwx => ?_)
                  have hbx := hbq.trans (hwx.mono hbq.size)
                  have e1 := (hwx.cell (p := ⟨b1, o1 + i, none⟩) (by simp; omega)).trans d1
                  have e2 := (hwx.cell (p := ⟨b2, o2 + i, none⟩) (by simp; omega)).trans d2
                  have hwx2 := hwx.size
                  refine rb_take 0 (some 116) (v := ?_) rfl rfl (by kernel_rfl) (by kernel_rfl) (by kernel_rfl) (by kernel_rfl) ?_ ?_
                  rotate_left
                  focus (intro w' hw'; go_simp; try with_reducible rfl)
                  try simp only [Act.put, List.setIfInBounds_toArray, List.set_cons_zero, List.set_cons_succ]
                  refine rb_take 1 (some 117) (v := ?_) rfl rfl (by kernel_rfl) (by kernel_rfl) (by kernel_rfl) (by kernel_rfl) ?_ ?_
                  rotate_left
                  focus (intro w' hw'; go_simp; try with_reducible rfl)
                  try simp only [Act.put, List.setIfInBounds_toArray, List.set_cons_zero, List.set_cons_succ]
                  refine rb_take 2 (some 118) (v := ?_) rfl rfl (by kernel_rfl) (by kernel_rfl) (by kernel_rfl) (by kernel_rfl) ?_ ?_
                  rotate_left
                  focus (intro w' hw'; go_simp; try with_reducible rfl)
                  try simp only [Act.put, List.setIfInBounds_toArray, List.set_cons_zero, List.set_cons_succ]
                  refine rb_take 3 (some 119) (v := .bool false) rfl rfl (by kernel_rfl) (by kernel_rfl) (by kernel_rfl) (by kernel_rfl) ?_ ?_
                  focus (intro w' hw'; go_simp; first | done | (simp; omega))
                  try simp only [Act.put, List.setIfInBounds_toArray, List.set_cons_zero, List.set_cons_succ]
                  refine rb_take 4 (some 120) (v := ?_) rfl rfl (by kernel_rfl) (by kernel_rfl) (by kernel_rfl) (by kernel_rfl) ?_ ?_
                  rotate_left
                  focus (intro w' hw'; go_simp; try with_reducible rfl)
                  try simp only [Act.put, List.setIfInBounds_toArray, List.set_cons_zero, List.set_cons_succ]
                  refine rb_take 5 (some 121) (v := ?_) rfl rfl (by kernel_rfl) (by kernel_rfl) (by kernel_rfl) (by kernel_rfl) ?_ ?_
                  rotate_left
                  focus (intro w' hw'; go_simp; try with_reducible rfl)
                  try simp only [Act.put, List.setIfInBounds_toArray, List.set_cons_zero, List.set_cons_succ]
                  refine rb_take 6 (some 122) (v := ?_) rfl rfl (by kernel_rfl) (by kernel_rfl) (by kernel_rfl) (by kernel_rfl) ?_ ?_
                  rotate_left
                  focus (intro w' hw'; go_simp; try with_reducible rfl)
                  try simp only [Act.put, List.setIfInBounds_toArray, List.set_cons_zero, List.set_cons_succ]
                  refine rb_take 7 (some 123) (v := ?_) rfl rfl (by kernel_rfl) (by kernel_rfl) (by kernel_rfl) (by kernel_rfl) ?_ ?_
                  rotate_left
                  focus (intro w' hw'; go_simp; try with_reducible rfl)
                  try simp only [Act.put, List.setIfInBounds_toArray, List.set_cons_zero, List.set_cons_succ]
                  refine rb_take 8 (some 124) (v := ?_) rfl rfl (by kernel_rfl) (by kernel_rfl) (by kernel_rfl) (by kernel_rfl) ?_ ?_
                  rotate_left
                  focus (intro w' hw'; have q := (hw'.cell (p := ⟨b1, o1 + i, none⟩) (by simp; omega)).trans e1; go_simp; try with_reducible rfl)
                  try simp only [Act.put, List.setIfInBounds_toArray, List.set_cons_zero, List.set_cons_succ]
                  refine rb_take 9 (some 125) (v := ?_) rfl rfl (by kernel_rfl) (by kernel_rfl) (by kernel_rfl) (by kernel_rfl) ?_ ?_
                  rotate_left
                  focus (intro w' hw'; go_simp; try with_reducible rfl)
                  try simp only [Act.put, List.setIfInBounds_toArray, List.set_cons_zero, List.set_cons_succ]
                  refine rb_take 10 (some 126) (v := ?_) rfl rfl (by kernel_rfl) (by kernel_rfl) (by kernel_rfl) (by kernel_rfl) ?_ ?_
                  rotate_left
                  focus (intro w' hw'; go_simp; try with_reducible rfl)
                  try simp only [Act.put, List.setIfInBounds_toArray, List.set_cons_zero, List.set_cons_succ]
                  refine rb_take 11 (some 127) (v := ?_) rfl rfl (by kernel_rfl) (by kernel_rfl) (by kernel_rfl) (by kernel_rfl) ?_ ?_
                  rotate_left
                  focus (intro w' hw'; go_simp; try with_reducible rfl)
                  try simp only [Act.put, List.setIfInBounds_toArray, List.set_cons_zero, List.set_cons_succ]
                  refine rb_take 12 (some 128) (v := ?_) rfl rfl (by kernel_rfl) (by kernel_rfl) (by kernel_rfl) (by kernel_rfl) ?_ ?_
                  rotate_left
                  focus (intro w' hw'; have q := (hw'.cell (p := ⟨b2, o2 + i, none⟩) (by simp; omega)).trans e2; go_simp; try with_reducible rfl)
                  try simp only [Act.put, List.setIfInBounds_toArray, List.set_cons_zero, List.set_cons_succ]
                  refine rb_take 13 (some 129) (v := ?_) rfl rfl (by kernel_rfl) (by kernel_rfl) (by kernel_rfl) (by kernel_rfl) ?_ ?_
                  rotate_left
                  focus (intro w' hw'; go_simp; try with_reducible rfl)
                  try simp only [Act.put, List.setIfInBounds_toArray, List.set_cons_zero, List.set_cons_succ]
                  refine rb_take 14 (some 130) (v := ?_) rfl rfl (by kernel_rfl) (by kernel_rfl) (by kernel_rfl) (by kernel_rfl) ?_ ?_
                  rotate_left
                  focus (intro w' hw'; go_simp; try with_reducible rfl)
                  try simp only [Act.put, List.setIfInBounds_toArray, List.set_cons_zero, List.set_cons_succ]
                  refine rb_done (Nat.le_refl _) (by kernel_rfl) ?_
                  go_wp2_with fail
                  go_roundw
                  case rel => exact ⟨i + 1, by omega, by go_num, hbx⟩
                  case measure => (simp [intOf] <;> omega)
                · have hik2 : ¬ (i : Int) < (k : Int) := by omega
                  go_wp2_with fail
                  refine (varint_awake_c _).mono ?_
                  rintro e wa ⟨rfl, rfl⟩
                  go_wp2
                  go_ret
                  exact ⟨rfl, hbwq⟩
      · go_wp2_with fail
        go_loopw [0, 10, 11, 12] (fun v0 v10 v11 v12 wr => ∃ (k m : Nat) (Ab : Option Addr) (cb : Nat) (Aw : Option Addr) (cw q : Nat) (okb : Bool), k ≤ 501 ∧ v0 = .slice Ab m cb ∧ v10 = .slice Aw q cw ∧ v11 = .bool okb ∧ v12 = .int .i64 (k : Int) ∧ Hid (okb = true → k ≤ K ∧ m + k ≤ 500 ∧ m ≤ cb ∧ q = k ∧ (rkN l k).length = m ∧ BView wr w.heap.size Ab (rkN l k) ∧ Own wr w5.heap.size 40 Aw k cw ((mkN l k).map u64v)) ∧ Below w5.heap.size w5 wr) (fun _ _ _ i _ => 502 - (intOf i).toNat)
        case atStart => exact ⟨0, l.length, (some ⟨bq, oq, none⟩), c, none, 0, 0, true, by omega, rfl, rfl, rfl, rfl, Lib.hid (fun _ => ⟨Nat.zero_le _, by omega, hnc, rfl, rfl, hvl5, Own.nil_ _ _ _⟩), Below.refl _ _⟩
        case round =>
          rename World => wr
          obtain ⟨k, m, Ab, cb, Aw, cw, q, okb, hk501, rfl, rfl, rfl, rfl, hT, hbel⟩ := hrel
          have hw5 := hbel.size
          cases okb with
          | false =>
            clear hT
            have hbwr := hbw5.trans (hbel.mono h5w)
            by_cases hk5 : (k : Int) < 500
            · by_cases hm0 : (0 : Int) < (m : Int)
              · go_wp2_with fail
                refine (varint_awake_c _).mono ?_
                rintro e wa ⟨rfl, rfl⟩
                go_wp2
                go_ret
                exact ⟨rfl, hbwr⟩
              · go_wp2_with fail
                refine (varint_awake_c _).mono ?_
                rintro e wa ⟨rfl, rfl⟩
                go_wp2
                go_ret
                exact ⟨rfl, hbwr⟩
            · by_cases hm0 : (0 : Int) < (m : Int)
              · go_wp2_with fail
                refine (varint_awake_c _).mono ?_
                rintro e wa ⟨rfl, rfl⟩
                go_wp2
                go_ret
                exact ⟨rfl, hbwr⟩
              · go_wp2_with fail
                refine (varint_awake_c _).mono ?_
                rintro e wa ⟨rfl, rfl⟩
                go_wp2
                go_ret
                exact ⟨rfl, hbwr⟩
          | true =>
            obtain ⟨hk, hmk, hmc, hqk, hM', hbv', hO'⟩ := hT.out rfl
            obtain rfl : k = q := hqk.symm
            have HM := Lib.hid hM'
            have hbv := Lib.hid hbv'
            have hO := Lib.hid hO'
            clear hT hM' hbv' hO'
            by_cases hkK : k < K
            · have hok := hK k hkK
              have hm0 : 0 < m := by rw [← HM.out]; exact hok.1
              obtain ⟨y, HY⟩ : ∃ y, Hid (vval (rkN l k) = y) := ⟨_, Lib.hid rfl⟩
              obtain ⟨s, HS⟩ : ∃ s, Hid (vsz (rkN l k) = s) := ⟨_, Lib.hid rfl⟩
              have hs1 : 1 ≤ s := by rw [← HS.out]; exact vsz_pos _
              have hsm : s ≤ m := by rw [← HS.out, ← HM.out]; exact hok.2
              have hvc := hbv.out.cut (k := s) (c := cb) (by rw [HM.out]; omega)
              have hrk1 : (rkN l k).drop s = rkN l (k + 1) := by rw [← HS.out]; rfl
              rw [hrk1] at hvc
              have HRL := Lib.hid (show (rkN l (k + 1)).length = m - s by rw [← hrk1, List.length_drop, HM.out])
              clear hrk1
              have hsd : 0 < s := by omega
              have hki : (k : Int) < 500 := by omega
              have hmi : (0 : Int) < (m : Int) := by omega
              have hsi : (1 : Int) ≤ (s : Int) ∧ (s : Int) ≤ (m : Int) := by omega
              have hsc : (s : Int) ≤ (cb : Int) := by omega
              have hmci : (m : Int) ≤ (cb : Int) := by omega
              have hvr := Lib.hid (hbv.out.more (show w.heap.size ≤ wr.heap.size by omega))
              obtain ⟨bq, oq, rfl, _, _⟩ := hbv.out.at_ (k := 0) (by rw [HM.out]; omega)
              by_cases hcs : cb = s
              · rw [if_pos hcs] at hvc
                have HVC := Lib.hid hvc
                clear hvc
                obtain rfl : s = cb := hcs.symm
                go_wp2_with fail
                refine (ref_take_yes _ m _ (rkN l k) wr hvr.out HM.out (by omega) hmc hok).mono ?_
                rintro e w6 ⟨rfl, hb6⟩
                rw [HY.out, HS.out]
                have hO6 := Lib.hid (own_keep hO.out (Mod.of_below (g := wr.heap.size) hb6) (by intro g' e e2; have := (World.ownsRow.lt hO.out g' (by rw [e]; rfl)).2; injection e2 with e2; omega))
                have hb7 := hbel.trans (hb6.mono hw5)
                have hw6 := hb6.size
                go_wp2_with (at_builtin; (refine wp_append1 rfl _ _ _ rfl w5.heap.size 40 (.int .u64 0) 8 rfl Try.underlying56 u64info' Aw k cw _ rfl (Own.alloc hO6.out _) (w6.heap.size + 1) (some ⟨w6.heap.size, 0, none⟩) 1 1 ([y].map u64v) rfl ((Arr.new w6 40 ([y].map u64v)).view (by simp)) rfl (by intro h; cases h) (u64v_one [y]) (by unfold maxLen; omega) (by omega) (by simp; omega) w5.heap.size (w6.alloc (.cells #[.int .u64 (y : Int)] 40)) (Below.refl _ _) (Nat.le_refl _) ?_); intro A8' c8' w8 hown8 hbel8)
                have hb8 := (hb7.alloc (by omega) (.cells #[.int .u64 (y : Int)] 40)).trans hbel8
                have hbr8 := ((hb6.mono hw5).alloc (by omega) (.cells #[.int .u64 (y : Int)] 40)).trans hbel8
                go_roundw
                case rel => exact ⟨k + 1, 0, _, 0, A8', c8', k + 1, true, by omega, rfl, rfl, rfl, by go_num, Lib.hid (fun _ => ⟨by omega, by omega, by omega, rfl, by rw [HRL.out]; omega, HVC.out.below (hbr8.mono h5w), by have h := hown8.out; rw [← List.map_append, ← HY.out] at h; exact h⟩), hb8⟩
                case measure => (simp [intOf] <;> omega)
              · rw [if_neg hcs, map_add] at hvc
                have HVC := Lib.hid hvc
                clear hvc
                go_wp2_with fail
                refine (ref_take_yes _ m _ (rkN l k) wr hvr.out HM.out (by omega) hmc hok).mono ?_
                rintro e w6 ⟨rfl, hb6⟩
                rw [HY.out, HS.out]
                have hO6 := Lib.hid (own_keep hO.out (Mod.of_below (g := wr.heap.size) hb6) (by intro g' e e2; have := (World.ownsRow.lt hO.out g' (by rw [e]; rfl)).2; injection e2 with e2; omega))
                have hb7 := hbel.trans (hb6.mono hw5)
                have hw6 := hb6.size
                go_wp2_with (at_builtin; (refine wp_append1 rfl _ _ _ rfl w5.heap.size 40 (.int .u64 0) 8 rfl Try.underlying56 u64info' Aw k cw _ rfl (Own.alloc hO6.out _) (w6.heap.size + 1) (some ⟨w6.heap.size, 0, none⟩) 1 1 ([y].map u64v) rfl ((Arr.new w6 40 ([y].map u64v)).view (by simp)) rfl (by intro h; cases h) (u64v_one [y]) (by unfold maxLen; omega) (by omega) (by simp; omega) w5.heap.size (w6.alloc (.cells #[.int .u64 (y : Int)] 40)) (Below.refl _ _) (Nat.le_refl _) ?_); intro A8' c8' w8 hown8 hbel8)
                have hb8 := (hb7.alloc (by omega) (.cells #[.int .u64 (y : Int)] 40)).trans hbel8
                have hbr8 := ((hb6.mono hw5).alloc (by omega) (.cells #[.int .u64 (y : Int)] 40)).trans hbel8
                go_roundw
                case rel => exact ⟨k + 1, m - s, _, _, A8', c8', k + 1, true, by omega, rfl, rfl, rfl, by go_num, Lib.hid (fun _ => ⟨by omega, by omega, by omega, rfl, HRL.out, HVC.out.below (hbr8.mono h5w), by have h := hown8.out; rw [← List.map_append, ← HY.out] at h; exact h⟩), hb8⟩
                case measure => (simp [intOf] <;> omega)
            · obtain rfl : k = K := by omega
              have hm0 : 0 < m := by
                rcases Nat.eq_zero_or_pos m with h | h
                · exact absurd (List.eq_nil_of_length_eq_zero (by rw [HM.out]; exact h)) hKn
                · exact h
              have hki : (k : Int) < 500 := by omega
              have hmi : (0 : Int) < (m : Int) := by omega
              have hmci : (m : Int) ≤ (cb : Int) := by omega
              have hcb0 : ¬ cb = 0 := by omega
              have hvr := Lib.hid (hbv.out.more (show w.heap.size ≤ wr.heap.size by omega))
              obtain ⟨bq, oq, rfl, _, _⟩ := hbv.out.at_ (k := 0) (by rw [HM.out]; omega)
              go_wp2_with fail
              refine (ref_take_no _ m _ (rkN l k) wr hvr.out HM.out (by omega) hmc hKv).mono ?_
              rintro e w6 ⟨rfl, hb6⟩
              have hO6 := Lib.hid (own_keep hO.out (Mod.of_below (g := wr.heap.size) hb6) (by intro g' e e2; have := (World.ownsRow.lt hO.out g' (by rw [e]; rfl)).2; injection e2 with e2; omega))
              have hb7 := hbel.trans (hb6.mono hw5)
              have hw6 := hb6.size
              go_wp2_with (at_builtin; (refine wp_append1 rfl _ _ _ rfl w5.heap.size 40 (.int .u64 0) 8 rfl Try.underlying56 u64info' Aw k cw _ rfl (Own.alloc hO6.out _) (w6.heap.size + 1) (some ⟨w6.heap.size, 0, none⟩) 1 1 ([0].map u64v) rfl ((Arr.new w6 40 ([0].map u64v)).view (by simp)) rfl (by intro h; cases h) (u64v_one [0]) (by unfold maxLen; omega) (by omega) (by simp; omega) w5.heap.size (w6.alloc (.cells #[.int .u64 0] 40)) (Below.refl _ _) (Nat.le_refl _) ?_); intro A8' c8' w8 hown8 hbel8)
              have hb8 := (hb7.alloc (by omega) (.cells #[.int .u64 0] 40)).trans hbel8
              go_roundw
              case rel => exact ⟨k + 1, _, _, _, A8', c8', k + 1, false, by omega, rfl, rfl, rfl, by go_num, Lib.hid (fun h => by cases h), hb8⟩
              case measure => (simp [intOf] <;> omega)
  · have hz1 : ((0 : Int) == 0) = true := rfl
    go_enter Try.func8, Try.ntmps8
    go_wp2_with fail
    refine (vTake_c A c l w hv (by omega)).mono ?_
    rintro e w1 (⟨hyes, _⟩ | ⟨_, rfl, hb1⟩)
    · exact absurd hyes hok
    go_wp2_with fail
    refine (ref_take_no A l.length c l w1 (hv.step hb1) rfl (by omega) hnc hok).mono ?_
    rintro e w2 ⟨rfl, hb2⟩
    have hb3 := hb1.trans (hb2.mono hb1.size)
    go_wp2_with fail
    refine rb_start (by kernel_rfl) (fun wx hwx => ?_)
    have hbx := hb3.trans (hwx.mono hb3.size)
    refine rb_take 0 (some 31) (v := ?_) rfl rfl (by kernel_rfl) (by kernel_rfl) (by kernel_rfl) (by kernel_rfl) ?_ ?_
    rotate_left
    focus (intro w' hw'; go_simp; try with_reducible rfl)
    try simp only [Act.put, List.setIfInBounds_toArray, List.set_cons_zero, List.set_cons_succ]
    refine rb_take 1 (some 32) (v := ?_) rfl rfl (by kernel_rfl) (by kernel_rfl) (by kernel_rfl) (by kernel_rfl) ?_ ?_
    rotate_left
    focus (intro w' hw'; go_simp; try with_reducible rfl)
    try simp only [Act.put, List.setIfInBounds_toArray, List.set_cons_zero, List.set_cons_succ]
    refine rb_take 2 (some 33) (v := ?_) rfl rfl (by kernel_rfl) (by kernel_rfl) (by kernel_rfl) (by kernel_rfl) ?_ ?_
    rotate_left
    focus (intro w' hw'; go_simp; try with_reducible rfl)
    try simp only [Act.put, List.setIfInBounds_toArray, List.set_cons_zero, List.set_cons_succ]
    refine rb_take 3 (some 34) (v := ?_) rfl rfl (by kernel_rfl) (by kernel_rfl) (by kernel_rfl) (by kernel_rfl) ?_ ?_
    rotate_left
    focus (intro w' hw'; go_simp; try with_reducible rfl)
    try simp only [Act.put, List.setIfInBounds_toArray, List.set_cons_zero, List.set_cons_succ]
    refine rb_take 4 (some 35) (v := ?_) rfl rfl (by kernel_rfl) (by kernel_rfl) (by kernel_rfl) (by kernel_rfl) ?_ ?_
    rotate_left
    focus (intro w' hw'; go_simp; try with_reducible rfl)
    try simp only [Act.put, List.setIfInBounds_toArray, List.set_cons_zero, List.set_cons_succ]
    refine rb_take 5 (some 36) (v := ?_) rfl rfl (by kernel_rfl) (by kernel_rfl) (by kernel_rfl) (by kernel_rfl) ?_ ?_
    rotate_left
    focus (intro w' hw'; go_simp; try with_reducible rfl)
    try simp only [Act.put, List.setIfInBounds_toArray, List.set_cons_zero, List.set_cons_succ]
    refine rb_take 6 (some 37) (v := ?_) rfl rfl (by kernel_rfl) (by kernel_rfl) (by kernel_rfl) (by kernel_rfl) ?_ ?_
    rotate_left
    focus (intro w' hw'; go_simp; try with_reducible rfl)
    try simp only [Act.put, List.setIfInBounds_toArray, List.set_cons_zero, List.set_cons_succ]
    refine rb_take 7 (some 38) (v := ?_) rfl rfl (by kernel_rfl) (by kernel_rfl) (by kernel_rfl) (by kernel_rfl) ?_ ?_
    rotate_left
    focus (intro w' hw'; go_simp; try with_reducible rfl)
    try simp only [Act.put, List.setIfInBounds_toArray, List.set_cons_zero, List.set_cons_succ]
    refine rb_take 8 (some 39) (v := ?_) rfl rfl (by kernel_rfl) (by kernel_rfl) (by kernel_rfl) (by kernel_rfl) ?_ ?_
    rotate_left
    focus (intro w' hw'; go_simp; try with_reducible rfl)
    try simp only [Act.put, List.setIfInBounds_toArray, List.set_cons_zero, List.set_cons_succ]
    refine rb_take 9 (some 40) (v := ?_) rfl rfl (by kernel_rfl) (by kernel_rfl) (by kernel_rfl) (by kernel_rfl) ?_ ?_
    rotate_left
    focus (intro w' hw'; go_simp; try with_reducible rfl)
    try simp only [Act.put, List.setIfInBounds_toArray, List.set_cons_zero, List.set_cons_succ]
    refine rb_take 10 (some 41) (v := ?_) rfl rfl (by kernel_rfl) (by kernel_rfl) (by kernel_rfl) (by kernel_rfl) ?_ ?_
    rotate_left
    focus (intro w' hw'; go_simp; try with_reducible rfl)
    try simp only [Act.put, List.setIfInBounds_toArray, List.set_cons_zero, List.set_cons_succ]
    refine rb_take 11 (some 42) (v := ?_) rfl rfl (by kernel_rfl) (by kernel_rfl) (by kernel_rfl) (by kernel_rfl) ?_ ?_
    rotate_left
    focus (intro w' hw'; go_simp; try with_reducible rfl)
    try simp only [Act.put, List.setIfInBounds_toArray, List.set_cons_zero, List.set_cons_succ]
    refine rb_take 12 (some 43) (v := ?_) rfl rfl (by kernel_rfl) (by kernel_rfl) (by kernel_rfl) (by kernel_rfl) ?_ ?_
    rotate_left
    focus (intro w' hw'; go_simp; try with_reducible rfl)
    try simp only [Act.put, List.setIfInBounds_toArray, List.set_cons_zero, List.set_cons_succ]
    refine rb_take 13 (some 44) (v := ?_) rfl rfl (by kernel_rfl) (by kernel_rfl) (by kernel_rfl) (by kernel_rfl) ?_ ?_
    rotate_left
    focus (intro w' hw'; go_simp; try with_reducible rfl)
    try simp only [Act.put, List.setIfInBounds_toArray, List.set_cons_zero, List.set_cons_succ]
    refine rb_skip 14 (some 45) rfl rfl (by kernel_rfl) (by kernel_rfl) (by kernel_rfl) (by kernel_rfl) ?_
    try simp only [Act.put, List.setIfInBounds_toArray, List.set_cons_zero, List.set_cons_succ]
    refine rb_skip 15 (some 46) rfl rfl (by kernel_rfl) (by kernel_rfl) (by kernel_rfl) (by kernel_rfl) ?_
    try simp only [Act.put, List.setIfInBounds_toArray, List.set_cons_zero, List.set_cons_succ]
    refine rb_skip 16 (some 47) rfl rfl (by kernel_rfl) (by kernel_rfl) (by kernel_rfl) (by kernel_rfl) ?_
    try simp only [Act.put, List.setIfInBounds_toArray, List.set_cons_zero, List.set_cons_succ]
    refine rb_skip 17 (some 48) rfl rfl (by kernel_rfl) (by kernel_rfl) (by kernel_rfl) (by kernel_rfl) ?_
    try simp only [Act.put, List.setIfInBounds_toArray, List.set_cons_zero, List.set_cons_succ]
    refine rb_skip 18 (some 49) rfl rfl (by kernel_rfl) (by kernel_rfl) (by kernel_rfl) (by kernel_rfl) ?_
    try simp only [Act.put, List.setIfInBounds_toArray, List.set_cons_zero, List.set_cons_succ]
    refine rb_skip 19 (some 50) rfl rfl (by kernel_rfl) (by kernel_rfl) (by kernel_rfl) (by kernel_rfl) ?_
    try simp only [Act.put, List.setIfInBounds_toArray, List.set_cons_zero, List.set_cons_succ]
    refine rb_skip 20 (some 51) rfl rfl (by kernel_rfl) (by kernel_rfl) (by kernel_rfl) (by kernel_rfl) ?_
    try simp only [Act.put, List.setIfInBounds_toArray, List.set_cons_zero, List.set_cons_succ]
    refine rb_take 21 (some 52) (v := ?_) rfl rfl (by kernel_rfl) (by kernel_rfl) (by kernel_rfl) (by kernel_rfl) ?_ ?_
    rotate_left
    focus (intro w' hw'; go_simp; try with_reducible rfl)
    try simp only [Act.put, List.setIfInBounds_toArray, List.set_cons_zero, List.set_cons_succ]
    refine rb_take 22 (some 53) (v := ?_) rfl rfl (by kernel_rfl) (by kernel_rfl) (by kernel_rfl) (by kernel_rfl) ?_ ?_
    rotate_left
    focus (intro w' hw'; go_simp; try with_reducible rfl)
    try simp only [Act.put, List.setIfInBounds_toArray, List.set_cons_zero, List.set_cons_succ]
    refine rb_take 23 (some 54) (v := ?_) rfl rfl (by kernel_rfl) (by kernel_rfl) (by kernel_rfl) (by kernel_rfl) ?_ ?_
    rotate_left
    focus (intro w' hw'; go_simp; try with_reducible rfl)
    try simp only [Act.put, List.setIfInBounds_toArray, List.set_cons_zero, List.set_cons_succ]
    refine rb_take 24 (some 55) (v := ?_) rfl rfl (by kernel_rfl) (by kernel_rfl) (by kernel_rfl) (by kernel_rfl) ?_ ?_
    rotate_left
    focus (intro w' hw'; go_simp; try with_reducible rfl)
    try simp only [Act.put, List.setIfInBounds_toArray, List.set_cons_zero, List.set_cons_succ]
    refine rb_take 25 (some 56) (v := ?_) rfl rfl (by kernel_rfl) (by kernel_rfl) (by kernel_rfl) (by kernel_rfl) ?_ ?_
    rotate_left
    focus (intro w' hw'; go_simp; try with_reducible rfl)
    try simp only [Act.put, List.setIfInBounds_toArray, List.set_cons_zero, List.set_cons_succ]
    refine rb_take 26 (some 57) (v := ?_) rfl rfl (by kernel_rfl) (by kernel_rfl) (by kernel_rfl) (by kernel_rfl) ?_ ?_
    rotate_left
    focus (intro w' hw'; go_simp; try with_reducible rfl)
    try simp only [Act.put, List.setIfInBounds_toArray, List.set_cons_zero, List.set_cons_succ]
    refine rb_take 27 (some 58) (v := ?_) rfl rfl (by kernel_rfl) (by kernel_rfl) (by kernel_rfl) (by kernel_rfl) ?_ ?_
    rotate_left
    focus (intro w' hw'; go_simp; try with_reducible rfl)
    try simp only [Act.put, List.setIfInBounds_toArray, List.set_cons_zero, List.set_cons_succ]
    refine rb_take 28 (some 59) (v := ?_) rfl rfl (by kernel_rfl) (by kernel_rfl) (by kernel_rfl) (by kernel_rfl) ?_ ?_
    rotate_left
    focus (intro w' hw'; go_simp; try with_reducible rfl)
    try simp only [Act.put, List.setIfInBounds_toArray, List.set_cons_zero, List.set_cons_succ]
    refine rb_take 29 (some 60) (v := ?_) rfl rfl (by kernel_rfl) (by kernel_rfl) (by kernel_rfl) (by kernel_rfl) ?_ ?_
    rotate_left
    focus (intro w' hw'; go_simp; try with_reducible rfl)
    try simp only [Act.put, List.setIfInBounds_toArray, List.set_cons_zero, List.set_cons_succ]
    refine rb_take 30 (some 61) (v := ?_) rfl rfl (by kernel_rfl) (by kernel_rfl) (by kernel_rfl) (by kernel_rfl) ?_ ?_
    rotate_left
    focus (intro w' hw'; go_simp; try with_reducible rfl)
    try simp only [Act.put, List.setIfInBounds_toArray, List.set_cons_zero, List.set_cons_succ]
    refine rb_take 31 (some 62) (v := ?_) rfl rfl (by kernel_rfl) (by kernel_rfl) (by kernel_rfl) (by kernel_rfl) ?_ ?_
    rotate_left
    focus (intro w' hw'; go_simp; try with_reducible rfl)
    try simp only [Act.put, List.setIfInBounds_toArray, List.set_cons_zero, List.set_cons_succ]
    refine rb_take 32 (some 63) (v := ?_) rfl rfl (by kernel_rfl) (by kernel_rfl) (by kernel_rfl) (by kernel_rfl) ?_ ?_
    rotate_left
    focus (intro w' hw'; go_simp; try with_reducible rfl)
    try simp only [Act.put, List.setIfInBounds_toArray, List.set_cons_zero, List.set_cons_succ]
    refine rb_take 33 (some 64) (v := ?_) rfl rfl (by kernel_rfl) (by kernel_rfl) (by kernel_rfl) (by kernel_rfl) ?_ ?_
    rotate_left
    focus (intro w' hw'; go_simp; try with_reducible rfl)
    try simp only [Act.put, List.setIfInBounds_toArray, List.set_cons_zero, List.set_cons_succ]
    refine rb_take 34 (some 65) (v := ?_) rfl rfl (by kernel_rfl) (by kernel_rfl) (by kernel_rfl) (by kernel_rfl) ?_ ?_
    rotate_left
    focus (intro w' hw'; go_simp; try with_reducible rfl)
    try simp only [Act.put, List.setIfInBounds_toArray, List.set_cons_zero, List.set_cons_succ]
    refine rb_take 35 (some 66) (v := ?_) rfl rfl (by kernel_rfl) (by kernel_rfl) (by kernel_rfl) (by kernel_rfl) ?_ ?_
    rotate_left
    focus (intro w' hw'; go_simp; try with_reducible rfl)
    try simp only [Act.put, List.setIfInBounds_toArray, List.set_cons_zero, List.set_cons_succ]
    refine rb_done (Nat.le_refl _) (by kernel_rfl) ?_
    have hbz := hbx
    have hvz := hv.below hbz
    generalize wx = wz at hbz hvz ⊢
    go_wp2_with fail
    refine (vAll_c A c l wz (hvz.more hbz.size) (by omega)).mono ?_
    rintro e w5 ⟨K, hK, hb5, hcase⟩
    have hbw5 := hbz.trans (hb5.mono hbz.size)
    have h5w := hbw5.size
    have hvl5 := hv.below hbw5
    rcases hcase with ⟨hKn, A8, c8, rfl, hv8⟩ | ⟨hKn, hKv, rfl⟩
    · have HV8 := Lib.hid hv8
      clear hv8
      go_wp2_with fail
      go_loopw [0, 10, 11, 12] (fun v0 v10 v11 v12 wr => ∃ (k m : Nat) (Ab : Option Addr) (cb : Nat) (Aw : Option Addr) (cw : Nat), k ≤ K ∧ m + k ≤ 500 ∧ v0 = .slice Ab m cb ∧ m ≤ cb ∧ v10 = .slice Aw k cw ∧ v11 = .bool true ∧ v12 = .int .i64 (k : Int) ∧ Hid ((rkN l k).length = m) ∧ Hid (BView wr w.heap.size Ab (rkN l k)) ∧ Hid (Own wr w5.heap.size 40 Aw k cw ((mkN l k).map u64v)) ∧ Below w5.heap.size w5 wr) (fun _ _ _ i _ => 501 - (intOf i).toNat)
      case atStart => exact ⟨0, l.length, A, c, none, 0, Nat.zero_le _, by omega, rfl, hnc, rfl, rfl, rfl, Lib.hid rfl, hvl5, Own.nil_ _ _ _, Below.refl _ _⟩
      case round =>
        rename World => wr
        obtain ⟨k, m, Ab, cb, Aw, cw, hk, hmk, rfl, hmc, rfl, rfl, rfl, HM, hbv, hO, hbel⟩ := hrel
        have hw5 := hbel.size
        by_cases hkK : k < K
        · have hok := hK k hkK
          have hm0 : 0 < m := by rw [← HM.out]; exact hok.1
          obtain ⟨y, HY⟩ : ∃ y, Hid (vval (rkN l k) = y) := ⟨_, Lib.hid rfl⟩
          obtain ⟨s, HS⟩ : ∃ s, Hid (vsz (rkN l k) = s) := ⟨_, Lib.hid rfl⟩
          have hs1 : 1 ≤ s := by rw [← HS.out]; exact vsz_pos _
          have hsm : s ≤ m := by rw [← HS.out, ← HM.out]; exact hok.2
          have hvc := hbv.out.cut (k := s) (c := cb) (by rw [HM.out]; omega)
          have hrk1 : (rkN l k).drop s = rkN l (k + 1) := by rw [← HS.out]; rfl
          rw [hrk1] at hvc
          have HRL := Lib.hid (show (rkN l (k + 1)).length = m - s by rw [← hrk1, List.length_drop, HM.out])
          clear hrk1
          have hsd : 0 < s := by omega
          have hki : (k : Int) < 500 := by omega
          have hmi : (0 : Int) < (m : Int) := by omega
          have hsi : (1 : Int) ≤ (s : Int) ∧ (s : Int) ≤ (m : Int) := by omega
          have hsc : (s : Int) ≤ (cb : Int) := by omega
          have hmci : (m : Int) ≤ (cb : Int) := by omega
          have hvr := Lib.hid (hbv.out.more (show w.heap.size ≤ wr.heap.size by omega))
          obtain ⟨bq, oq, rfl, _, _⟩ := hbv.out.at_ (k := 0) (by rw [HM.out]; omega)
          by_cases hcs : cb = s
          · rw [if_pos hcs] at hvc
            have HVC := Lib.hid hvc
            clear hvc
            obtain rfl : s = cb := hcs.symm
            go_wp2_with fail
            refine (ref_take_yes _ m _ (rkN l k) wr hvr.out HM.out (by omega) hmc hok).mono ?_
            rintro e w6 ⟨rfl, hb6⟩
            rw [HY.out, HS.out]
            have hO6 := Lib.hid (own_keep hO.out (Mod.of_below (g := wr.heap.size) hb6) (by intro g' e e2; have := (World.ownsRow.lt hO.out g' (by rw [e]; rfl)).2; injection e2 with e2; omega))
            have hb7 := hbel.trans (hb6.mono hw5)
            have hw6 := hb6.size
            go_wp2_with (at_builtin; (refine wp_append1 rfl _ _ _ rfl w5.heap.size 40 (.int .u64 0) 8 rfl Try.underlying56 u64info' Aw k cw _ rfl (Own.alloc hO6.out _) (w6.heap.size + 1) (some ⟨w6.heap.size, 0, none⟩) 1 1 ([y].map u64v) rfl ((Arr.new w6 40 ([y].map u64v)).view (by simp)) rfl (by intro h; cases h) (u64v_one [y]) (by unfold maxLen; omega) (by omega) (by simp; omega) w5.heap.size (w6.alloc (.cells #[.int .u64 (y : Int)] 40)) (Below.refl _ _) (Nat.le_refl _) ?_); intro A8' c8' w8 hown8 hbel8)
            have hb8 := (hb7.alloc (by omega) (.cells #[.int .u64 (y : Int)] 40)).trans hbel8
            have hbr8 := ((hb6.mono hw5).alloc (by omega) (.cells #[.int .u64 (y : Int)] 40)).trans hbel8
            go_roundw
            case rel => exact ⟨k + 1, 0, _, 0, A8', c8', by omega, by omega, rfl, by omega, rfl, rfl, by go_num, Lib.hid (by rw [HRL.out]; omega), Lib.hid (HVC.out.below (hbr8.mono h5w)), by have h := hown8.out; rw [← List.map_append, ← HY.out] at h; exact h, hb8⟩
            case measure => (simp [intOf] <;> omega)
          · rw [if_neg hcs, map_add] at hvc
            have HVC := Lib.hid hvc
            clear hvc
            go_wp2_with fail
            refine (ref_take_yes _ m _ (rkN l k) wr hvr.out HM.out (by omega) hmc hok).mono ?_
            rintro e w6 ⟨rfl, hb6⟩
            rw [HY.out, HS.out]
            have hO6 := Lib.hid (own_keep hO.out (Mod.of_below (g := wr.heap.size) hb6) (by intro g' e e2; have := (World.ownsRow.lt hO.out g' (by rw [e]; rfl)).2; injection e2 with e2; omega))
            have hb7 := hbel.trans (hb6.mono hw5)
            have hw6 := hb6.size
            go_wp2_with (at_builtin; (refine wp_append1 rfl _ _ _ rfl w5.heap.size 40 (.int .u64 0) 8 rfl Try.underlying56 u64info' Aw k cw _ rfl (Own.alloc hO6.out _) (w6.heap.size + 1) (some ⟨w6.heap.size, 0, none⟩) 1 1 ([y].map u64v) rfl ((Arr.new w6 40 ([y].map u64v)).view (by simp)) rfl (by intro h; cases h) (u64v_one [y]) (by unfold maxLen; omega) (by omega) (by simp; omega) w5.heap.size (w6.alloc (.cells #[.int .u64 (y : Int)] 40)) (Below.refl _ _) (Nat.le_refl _) ?_); intro A8' c8' w8 hown8 hbel8)
            have hb8 := (hb7.alloc (by omega) (.cells #[.int .u64 (y : Int)] 40)).trans hbel8
            have hbr8 := ((hb6.mono hw5).alloc (by omega) (.cells #[.int .u64 (y : Int)] 40)).trans hbel8
            go_roundw
            case rel => exact ⟨k + 1, m - s, _, _, A8', c8', by omega, by omega, rfl, by omega, rfl, rfl, by go_num, HRL, Lib.hid (HVC.out.below (hbr8.mono h5w)), by have h := hown8.out; rw [← List.map_append, ← HY.out] at h; exact h, hb8⟩
            case measure => (simp [intOf] <;> omega)
        · obtain rfl : k = K := by omega
          obtain rfl : m = 0 := by have := HM.out; rw [hKn] at this; simpa using this.symm
          have hvw := Own.view hO.out
          have hv8r := HV8.out.below hbel
          have hbwr := hbw5.trans (hbel.mono h5w)
          have hlenK := mkN_length l k
          by_cases hk5 : (k : Int) < 500
          · go_wp2_with fail
            go_loopw [15] (fun v wq => ∃ i : Nat, i ≤ k ∧ v = .int .i64 (i : Int) ∧ Below wr.heap.size wr wq) (fun v _ => k - (intOf v).toNat)
            case atStart => exact ⟨0, Nat.zero_le _, rfl, Below.refl _ _⟩
            case round =>
              rename World => wq
              obtain ⟨i, hi, rfl, hbq⟩ := hrel
              have hbwq := hbwr.trans (hbq.mono hbwr.size)
              by_cases hik : i < k
              · have hik2 : (i : Int) < (k : Int) := by omega
                have hi0 : (0 : Int) ≤ (i : Int) := by omega
                have hik3 : ¬ (k : Int) ≤ (i : Int) := by omega
                have hik4 : ¬ k ≤ i := by omega
                have hne : (mkN l k).map u64v ≠ [] := by intro e; have := congrArg List.length e; rw [List.length_map, hlenK] at this; simp at this; omega
                obtain ⟨b1, o1, rfl, hb1', hc1⟩ := hv8r hne
                obtain ⟨b2, o2, rfl, hb2', hc2⟩ := hvw hne
                obtain ⟨z, hz⟩ : ∃ z, ((mkN l k).map u64v)[i]? = some (.int .u64 (z : Int)) := ⟨_, by rw [List.getElem?_map, List.getElem?_eq_getElem (by rw [hlenK]; exact hik)]; rfl⟩
                have d1 := (hbq.cell (p := ⟨b1, o1 + i, none⟩) (by simp; omega)).trans (hc1 i _ hz)
                have d2 := (hbq.cell (p := ⟨b2, o2 + i, none⟩) (by simpa using hb2')).trans (hc2 i _ hz)
                have hwq := hbq.size
                clear hc1 hc2 hz hne
                go_wp2_with fail
                refine rb_start (by kernel_rfl) (fun wx hwx => ?_)
                have hbx := hbq.trans (hwx.mono hbq.size)
                have e1 := (hwx.cell (p := ⟨b1, o1 + i, none⟩) (by simp; omega)).trans d1
                have e2 := (hwx.cell (p := ⟨b2, o2 + i, none⟩) (by simp; omega)).trans d2
                have hwx2 := hwx.size
                refine rb_take 0 (some 116) (v := ?_) rfl rfl (by kernel_rfl) (by kernel_rfl) (by kernel_rfl) (by kernel_rfl) ?_ ?_
                rotate_left
                focus (intro w' hw'; go_simp; try with_reducible rfl)
                try simp only [Act.put, List.setIfInBounds_toArray, List.set_cons_zero, List.set_cons_succ]
                refine rb_take 1 (some 117) (v := ?_) rfl rfl (by kernel_rfl) (by kernel_rfl) (by kernel_rfl) (by kernel_rfl) ?_ ?_
                rotate_left
                focus (intro w' hw'; go_simp; try with_reducible rfl)
                try simp only [Act.put, List.setIfInBounds_toArray, List.set_cons_zero, List.set_cons_succ]
                refine rb_take 2 (some 118) (v := ?_) rfl rfl (by kernel_rfl) (by kernel_rfl) (by kernel_rfl) (by kernel_rfl) ?_ ?_
                rotate_left
                focus (intro w' hw'; go_simp; try with_reducible rfl)
                try simp only [Act.put, List.setIfInBounds_toArray, List.set_cons_zero, List.set_cons_succ]
                refine rb_take 3 (some 119) (v := .bool false) rfl rfl (by kernel_rfl) (by kernel_rfl) (by kernel_rfl) (by kernel_rfl) ?_ ?_
                focus (intro w' hw'; go_simp; first | done | (simp; omega))
                try simp only [Act.put, List.setIfInBounds_toArray, List.set_cons_zero, List.set_cons_succ]
                refine rb_take 4 (some 120) (v := ?_) rfl rfl (by kernel_rfl) (by kernel_rfl) (by kernel_rfl) (by kernel_rfl) ?_ ?_
                rotate_left
                focus (intro w' hw'; go_simp; try with_reducible rfl)
                try simp only [Act.put, List.setIfInBounds_toArray, List.set_cons_zero, List.set_cons_succ]
                refine rb_take 5 (some 121) (v := ?_) rfl rfl (by kernel_rfl) (by kernel_rfl) (by kernel_rfl) (by kernel_rfl) ?_ ?_
                rotate_left
                focus (intro w' hw'; go_simp; try with_reducible rfl)
                try simp only [Act.put, List.setIfInBounds_toArray, List.set_cons_zero, List.set_cons_succ]
                refine rb_take 6 (some 122) (v := ?_) rfl rfl (by kernel_rfl) (by kernel_rfl) (by kernel_rfl) (by kernel_rfl) ?_ ?_
                rotate_left
                focus (intro w' hw'; go_simp; try with_reducible rfl)
                try simp only [Act.put, List.setIfInBounds_toArray, List.set_cons_zero, List.set_cons_succ]
                refine rb_take 7 (some 123) (v := ?_) rfl rfl (by kernel_rfl) (by kernel_rfl) (by kernel_rfl) (by kernel_rfl) ?_ ?_
                rotate_left
                focus (intro w' hw'; go_simp; try with_reducible rfl)
                try simp only [Act.put, List.setIfInBounds_toArray, List.set_cons_zero, List.set_cons_succ]
                refine rb_take 8 (some 124) (v := ?_) rfl rfl (by kernel_rfl) (by kernel_rfl) (by kernel_rfl) (by kernel_rfl) ?_ ?_
                rotate_left
                focus (intro w' hw'; have q := (hw'.cell (p := ⟨b1, o1 + i, none⟩) (by simp; omega)).trans e1; go_simp; try with_reducible rfl)
                try simp only [Act.put, List.setIfInBounds_toArray, List.set_cons_zero, List.set_cons_succ]
                refine rb_take 9 (some 125) (v := ?_) rfl rfl (by kernel_rfl) (by kernel_rfl) (by kernel_rfl) (by kernel_rfl) ?_ ?_
                rotate_left
                focus (intro w' hw'; go_simp; try with_reducible rfl)
                try simp only [Act.put, List.setIfInBounds_toArray, List.set_cons_zero, List.set_cons_succ]
                refine rb_take 10 (some 126) (v := ?_) rfl rfl (by kernel_rfl) (by kernel_rfl) (by kernel_rfl) (by kernel_rfl) ?_ ?_
                rotate_left
                focus (intro w' hw'; go_simp; try with_reducible rfl)
                try simp only [Act.put, List.setIfInBounds_toArray, List.set_cons_zero, List.set_cons_succ]
                refine rb_take 11 (some 127) (v := ?_) rfl rfl (by kernel_rfl) (by kernel_rfl) (by kernel_rfl) (by kernel_rfl) ?_ ?_
                rotate_left
                focus (intro w' hw'; go_simp; try with_reducible rfl)
                try simp only [Act.put, List.setIfInBounds_toArray, List.set_cons_zero, List.set_cons_succ]
                refine rb_take 12 (some 128) (v := ?_) rfl rfl (by kernel_rfl) (by kernel_rfl) (by kernel_rfl) (by kernel_rfl) ?_ ?_
                rotate_left
                focus (intro w' hw'; have q := (hw'.cell (p := ⟨b2, o2 + i, none⟩) (by simp; omega)).trans e2; go_simp; try with_reducible rfl)
                try simp only [Act.put, List.setIfInBounds_toArray, List.set_cons_zero, List.set_cons_succ]
                refine rb_take 13 (some 129) (v := ?_) rfl rfl (by kernel_rfl) (by kernel_rfl) (by kernel_rfl) (by kernel_rfl) ?_ ?_
                rotate_left
                focus (intro w' hw'; go_simp; try with_reducible rfl)
                try simp only [Act.put, List.setIfInBounds_toArray, List.set_cons_zero, List.set_cons_succ]
                refine rb_take 14 (some 130) (v := ?_) rfl rfl (by kernel_rfl) (by kernel_rfl) (by kernel_rfl) (by kernel_rfl) ?_ ?_
                rotate_left
                focus (intro w' hw'; go_simp; try with_reducible rfl)
                try simp only [Act.put, List.setIfInBounds_toArray, List.set_cons_zero, List.set_cons_succ]
                refine rb_done (Nat.le_refl _) (by kernel_rfl) ?_
                go_wp2_with fail
                go_roundw
                case rel => exact ⟨i + 1, by omega, by go_num, hbx⟩
                case measure => (simp [intOf] <;> omega)
              · have hik2 : ¬ (i : Int) < (k : Int) := by omega
                go_wp2_with fail
                refine (varint_awake_c _).mono ?_
                rintro e wa ⟨rfl, rfl⟩
                go_wp2
                go_ret
                exact ⟨rfl, hbwq⟩
          · go_wp2_with fail
            go_loopw [15] (fun v wq => ∃ i : Nat, i ≤ k ∧ v = .int .i64 (i : Int) ∧ Below wr.heap.size wr wq) (fun v _ => k - (intOf v).toNat)
            case atStart => exact ⟨0, Nat.zero_le _, rfl, Below.refl _ _⟩
            case round =>
              rename World => wq
              obtain ⟨i, hi, rfl, hbq⟩ := hrel
              have hbwq := hbwr.trans (hbq.mono hbwr.size)
              by_cases hik : i < k
              · have hik2 : (i : Int) < (k : Int) := by omega
                have hi0 : (0 : Int) ≤ (i : Int) := by omega
                have hik3 : ¬ (k : Int) ≤ (i : Int) := by omega
                have hik4 : ¬ k ≤ i := by omega
                have hne : (mkN l k).map u64v ≠ [] := by intro e; have := congrArg List.length e; rw [List.length_map, hlenK] at this; simp at this; omega
                obtain ⟨b1, o1, rfl, hb1', hc1⟩ := hv8r hne
                obtain ⟨b2, o2, rfl, hb2', hc2⟩ := hvw hne
                obtain ⟨z, hz⟩ : ∃ z, ((mkN l k).map u64v)[i]? = some (.int .u64 (z : Int)) := ⟨_, by rw [List.getElem?_map, List.getElem?_eq_getElem (by rw [hlenK]; exact hik)]; rfl⟩
                have d1 := (hbq.cell (p := ⟨b1, o1 + i, none⟩) (by simp; omega)).trans (hc1 i _ hz)
                have d2 := (hbq.cell (p := ⟨b2, o2 + i, none⟩) (by simpa using hb2')).trans (hc2 i _ hz)
                have hwq := hbq.size
                clear hc1 hc2 hz hne
                go_wp2_with fail
                refine rb_start (by kernel_rfl) (fun wx hwx => ?_)
                have hbx := hbq.trans (hwx.mono hbq.size)
                have e1 := (hwx.cell (p := ⟨b1, o1 + i, none⟩) (by simp; omega)).trans d1
                have e2 := (hwx.cell (p := ⟨b2, o2 + i, none⟩) (by simp; omega)).trans d2
                have hwx2 := hwx.size
                refine rb_take 0 (some 116) (v := ?_) rfl rfl (by kernel_rfl) (by kernel_rfl) (by kernel_rfl) (by kernel_rfl) ?_ ?_
                rotate_left
                focus (intro w' hw'; go_simp; try with_reducible rfl)
                try simp only [Act.put, List.setIfInBounds_toArray, List.set_cons_zero, List.set_cons_succ]
                refine rb_take 1 (some 117) (v := ?_) rfl rfl (by kernel_rfl) (by kernel_rfl) (by kernel_rfl) (by kernel_rfl) ?_ ?_
                rotate_left
                focus (intro w' hw'; go_simp; try with_reducible rfl)
                try simp only [Act.put, List.setIfInBounds_toArray, List.set_cons_zero, List.set_cons_succ]
                refine rb_take 2 (some 118) (v := ?_) rfl rfl (by kernel_rfl) (by kernel_rfl) (by kernel_rfl) (by kernel_rfl) ?_ ?_
                rotate_left
                focus (intro w' hw'; go_simp; try with_reducible rfl)
                try simp only [Act.put, List.setIfInBounds_toArray, List.set_cons_zero, List.set_cons_succ]
                refine rb_take 3 (some 119) (v := .bool false) rfl rfl (by kernel_rfl) (by kernel_rfl) (by kernel_rfl) (by kernel_rfl) ?_ ?_
                focus (intro w' hw'; go_simp; first | done | (simp; omega))
                try simp only [Act.put, List.setIfInBounds_toArray, List.set_cons_zero, List.set_cons_succ]
                refine rb_take 4 (some 120) (v := ?_) rfl rfl (by kernel_rfl) (by kernel_rfl) (by kernel_rfl) (by kernel_rfl) ?_ ?_
                rotate_left
                focus (intro w' hw'; go_simp; try with_reducible rfl)
                try simp only [Act.put, List.setIfInBounds_toArray, List.set_cons_zero, List.set_cons_succ]
                refine rb_take 5 (some 121) (v := ?_) rfl rfl (by kernel_rfl) (by kernel_rfl) (by kernel_rfl) (by kernel_rfl) ?_ ?_
                rotate_left
                focus (intro w' hw'; go_simp; try with_reducible rfl)
                try simp only [Act.put, List.setIfInBounds_toArray, List.set_cons_zero, List.set_cons_succ]
                refine rb_take 6 (some 122) (v := ?_) rfl rfl (by kernel_rfl) (by kernel_rfl) (by kernel_rfl) (by kernel_rfl) ?_ ?_
                rotate_left
                focus (intro w' hw'; go_simp; try with_reducible rfl)
                try simp only [Act.put, List.setIfInBounds_toArray, List.set_cons_zero, List.set_cons_succ]
                refine rb_take 7 (some 123) (v := ?_) rfl rfl (by kernel_rfl) (by kernel_rfl) (by kernel_rfl) (by kernel_rfl) ?_ ?_
                rotate_left
                focus (intro w' hw'; go_simp; try with_reducible rfl)
                try simp only [Act.put, List.setIfInBounds_toArray, List.set_cons_zero, List.set_cons_succ]
                refine rb_take 8 (some 124) (v := ?_) rfl rfl (by kernel_rfl) (by kernel_rfl) (by kernel_rfl) (by kernel_rfl) ?_ ?_
                rotate_left
                focus (intro w' hw'; have q := (hw'.cell (p := ⟨b1, o1 + i, none⟩) (by simp; omega)).trans e1; go_simp; try with_reducible rfl)
                try simp only [Act.put, List.setIfInBounds_toArray, List.set_cons_zero, List.set_cons_succ]
                refine rb_take 9 (some 125) (v := ?_) rfl rfl (by kernel_rfl) (by kernel_rfl) (by kernel_rfl) (by kernel_rfl) ?_ ?_
                rotate_left
                focus (intro w' hw'; go_simp; try with_reducible rfl)
                try simp only [Act.put, List.setIfInBounds_toArray, List.set_cons_zero, List.set_cons_succ]
                refine rb_take 10 (some 126) (v := ?_) rfl rfl (by kernel_rfl) (by kernel_rfl) (by kernel_rfl) (by kernel_rfl) ?_ ?_
                rotate_left
                focus (intro w' hw'; go_simp; try with_reducible rfl)
                try simp only [Act.put, List.setIfInBounds_toArray, List.set_cons_zero, List.set_cons_succ]
                refine rb_take 11 (some 127) (v := ?_) rfl rfl (by kernel_rfl) (by kernel_rfl) (by kernel_rfl) (by kernel_rfl) ?_ ?_
                rotate_left
                focus (intro w' hw'; go_simp; try with_reducible rfl)
                try simp only [Act.put, List.setIfInBounds_toArray, List.set_cons_zero, List.set_cons_succ]
                refine rb_take 12 (some 128) (v := ?_) rfl rfl (by kernel_rfl) (by kernel_rfl) (by kernel_rfl) (by kernel_rfl) ?_ ?_
                rotate_left
                focus (intro w' hw'; have q := (hw'.cell (p := ⟨b2, o2 + i, none⟩) (by simp; omega)).trans e2; go_simp; try with_reducible rfl)
                try simp only [Act.put, List.setIfInBounds_toArray, List.set_cons_zero, List.set_cons_succ]
                refine rb_take 13 (some 129) (v := ?_) rfl rfl (by kernel_rfl) (by kernel_rfl) (by kernel_rfl) (by kernel_rfl) ?_ ?_
                rotate_left
                focus (intro w' hw'; go_simp; try with_reducible rfl)
                try simp only [Act.put, List.setIfInBounds_toArray, List.set_cons_zero, List.set_cons_succ]
                refine rb_take 14 (some 130) (v := ?_) rfl rfl (by kernel_rfl) (by kernel_rfl) (by kernel_rfl) (by kernel_rfl) ?_ ?_
                rotate_left
                focus (intro w' hw'; go_simp; try with_reducible rfl)
                try simp only [Act.put, List.setIfInBounds_toArray, List.set_cons_zero, List.set_cons_succ]
                refine rb_done (Nat.le_refl _) (by kernel_rfl) ?_
                go_wp2_with fail
                go_roundw
                case rel => exact ⟨i + 1, by omega, by go_num, hbx⟩
                case measure => (simp [intOf] <;> omega)
              · have hik2 : ¬ (i : Int) < (k : Int) := by omega
                go_wp2_with fail
                refine (varint_awake_c _).mono ?_
                rintro e wa ⟨rfl, rfl⟩
                go_wp2
                go_ret
                exact ⟨rfl, hbwq⟩
    · go_wp2_with fail
      go_loopw [0, 10, 11, 12] (fun v0 v10 v11 v12 wr => ∃ (k m : Nat) (Ab : Option Addr) (cb : Nat) (Aw : Option Addr) (cw q : Nat) (okb : Bool), k ≤ 501 ∧ v0 = .slice Ab m cb ∧ v10 = .slice Aw q cw ∧ v11 = .bool okb ∧ v12 = .int .i64 (k : Int) ∧ Hid (okb = true → k ≤ K ∧ m + k ≤ 500 ∧ m ≤ cb ∧ q = k ∧ (rkN l k).length = m ∧ BView wr w.heap.size Ab (rkN l k) ∧ Own wr w5.heap.size 40 Aw k cw ((mkN l k).map u64v)) ∧ Below w5.heap.size w5 wr) (fun _ _ _ i _ => 502 - (intOf i).toNat)
      case atStart => exact ⟨0, l.length, A, c, none, 0, 0, true, by omega, rfl, rfl, rfl, rfl, Lib.hid (fun _ => ⟨Nat.zero_le _, by omega, hnc, rfl, rfl, hvl5, Own.nil_ _ _ _⟩), Below.refl _ _⟩
      case round =>
        rename World => wr
        obtain ⟨k, m, Ab, cb, Aw, cw, q, okb, hk501, rfl, rfl, rfl, rfl, hT, hbel⟩ := hrel
        have hw5 := hbel.size
        cases okb with
        | false =>
          clear hT
          have hbwr := hbw5.trans (hbel.mono h5w)
          by_cases hk5 : (k : Int) < 500
          · by_cases hm0 : (0 : Int) < (m : Int)
            · go_wp2_with fail
              refine (varint_awake_c _).mono ?_
              rintro e wa ⟨rfl, rfl⟩
              go_wp2
              go_ret
              exact ⟨rfl, hbwr⟩
            · go_wp2_with fail
              refine (varint_awake_c _).mono ?_
              rintro e wa ⟨rfl, rfl⟩
              go_wp2
              go_ret
              exact ⟨rfl, hbwr⟩
          · by_cases hm0 : (0 : Int) < (m : Int)
            · go_wp2_with fail
              refine (varint_awake_c _).mono ?_
              rintro e wa ⟨rfl, rfl⟩
              go_wp2
              go_ret
              exact ⟨rfl, hbwr⟩
            · go_wp2_with fail
              refine (varint_awake_c _).mono ?_
              rintro e wa ⟨rfl, rfl⟩
              go_wp2
              go_ret
              exact ⟨rfl, hbwr⟩
        | true =>
          obtain ⟨hk, hmk, hmc, hqk, hM', hbv', hO'⟩ := hT.out rfl
          obtain rfl : k = q := hqk.symm
          have HM := Lib.hid hM'
          have hbv := Lib.hid hbv'
          have hO := Lib.hid hO'
          clear hT hM' hbv' hO'
          by_cases hkK : k < K
          · have hok := hK k hkK
            have hm0 : 0 < m := by rw [← HM.out]; exact hok.1
            obtain ⟨y, HY⟩ : ∃ y, Hid (vval (rkN l k) = y) := ⟨_, Lib.hid rfl⟩
            obtain ⟨s, HS⟩ : ∃ s, Hid (vsz (rkN l k) = s) := ⟨_, Lib.hid rfl⟩
            have hs1 : 1 ≤ s := by rw [← HS.out]; exact vsz_pos _
            have hsm : s ≤ m := by rw [← HS.out, ← HM.out]; exact hok.2
            have hvc := hbv.out.cut (k := s) (c := cb) (by rw [HM.out]; omega)
            have hrk1 : (rkN l k).drop s = rkN l (k + 1) := by rw [← HS.out]; rfl
            rw [hrk1] at hvc
            have HRL := Lib.hid (show (rkN l (k + 1)).length = m - s by rw [← hrk1, List.length_drop, HM.out])
            clear hrk1
            have hsd : 0 < s := by omega
            have hki : (k : Int) < 500 := by omega
            have hmi : (0 : Int) < (m : Int) := by omega
            have hsi : (1 : Int) ≤ (s : Int) ∧ (s : Int) ≤ (m : Int) := by omega
            have hsc : (s : Int) ≤ (cb : Int) := by omega
            have hmci : (m : Int) ≤ (cb : Int) := by omega
            have hvr := Lib.hid (hbv.out.more (show w.heap.size ≤ wr.heap.size by omega))
            obtain ⟨bq, oq, rfl, _, _⟩ := hbv.out.at_ (k := 0) (by rw [HM.out]; omega)
            by_cases hcs : cb = s
            · rw [if_pos hcs] at hvc
              have HVC := Lib.hid hvc
              clear hvc
              obtain rfl : s = cb := hcs.symm
              go_wp2_with fail
              refine (ref_take_yes _ m _ (rkN l k) wr hvr.out HM.out (by omega) hmc hok).mono ?_
              rintro e w6 ⟨rfl, hb6⟩
              rw [HY.out, HS.out]
              have hO6 := Lib.hid (own_keep hO.out (Mod.of_below (g := wr.heap.size) hb6) (by intro g' e e2; have := (World.ownsRow.lt hO.out g' (by rw [e]; rfl)).2; injection e2 with e2; omega))
              have hb7 := hbel.trans (hb6.mono hw5)
              have hw6 := hb6.size
              go_wp2_with (at_builtin; (refine wp_append1 rfl _ _ _ rfl w5.heap.size 40 (.int .u64 0) 8 rfl Try.underlying56 u64info' Aw k cw _ rfl (Own.alloc hO6.out _) (w6.heap.size + 1) (some ⟨w6.heap.size, 0, none⟩) 1 1 ([y].map u64v) rfl ((Arr.new w6 40 ([y].map u64v)).view (by simp)) rfl (by intro h; cases h) (u64v_one [y]) (by unfold maxLen; omega) (by omega) (by simp; omega) w5.heap.size (w6.alloc (.cells #[.int .u64 (y : Int)] 40)) (Below.refl _ _) (Nat.le_refl _) ?_); intro A8' c8' w8 hown8 hbel8)
              have hb8 := (hb7.alloc (by omega) (.cells #[.int .u64 (y : Int)] 40)).trans hbel8
              have hbr8 := ((hb6.mono hw5).alloc (by omega) (.cells #[.int .u64 (y : Int)] 40)).trans hbel8
              go_roundw
              case rel => exact ⟨k + 1, 0, _, 0, A8', c8', k + 1, true, by omega, rfl, rfl, rfl, by go_num, Lib.hid (fun _ => ⟨by omega, by omega, by omega, rfl, by rw [HRL.out]; omega, HVC.out.below (hbr8.mono h5w), by have h := hown8.out; rw [← List.map_append, ← HY.out] at h; exact h⟩), hb8⟩
              case measure => (simp [intOf] <;> omega)
            · rw [if_neg hcs, map_add] at hvc
              have HVC := Lib.hid hvc
              clear hvc
              go_wp2_with fail
              refine (ref_take_yes _ m _ (rkN l k) wr hvr.out HM.out (by omega) hmc hok).mono ?_
              rintro e w6 ⟨rfl, hb6⟩
              rw [HY.out, HS.out]
              have hO6 := Lib.hid (own_keep hO.out (Mod.of_below (g := wr.heap.size) hb6) (by intro g' e e2; have := (World.ownsRow.lt hO.out g' (by rw [e]; rfl)).2; injection e2 with e2; omega))
              have hb7 := hbel.trans (hb6.mono hw5)
              have hw6 := hb6.size
              go_wp2_with (at_builtin; (refine wp_append1 rfl _ _ _ rfl w5.heap.size 40 (.int .u64 0) 8 rfl Try.underlying56 u64info' Aw k cw _ rfl (Own.alloc hO6.out _) (w6.heap.size + 1) (some ⟨w6.heap.size, 0, none⟩) 1 1 ([y].map u64v) rfl ((Arr.new w6 40 ([y].map u64v)).view (by simp)) rfl (by intro h; cases h) (u64v_one [y]) (by unfold maxLen; omega) (by omega) (by simp; omega) w5.heap.size (w6.alloc (.cells #[.int .u64 (y : Int)] 40)) (Below.refl _ _) (Nat.le_refl _) ?_); intro A8' c8' w8 hown8 hbel8)
              have hb8 := (hb7.alloc (by omega) (.cells #[.int .u64 (y : Int)] 40)).trans hbel8
              have hbr8 := ((hb6.mono hw5).alloc (by omega) (.cells #[.int .u64 (y : Int)] 40)).trans hbel8
              go_roundw
              case rel => exact ⟨k + 1, m - s, _, _, A8', c8', k + 1, true, by omega, rfl, rfl, rfl, by go_num, Lib.hid (fun _ => ⟨by omega, by omega, by omega, rfl, HRL.out, HVC.out.below (hbr8.mono h5w), by have h := hown8.out; rw [← List.map_append, ← HY.out] at h; exact h⟩), hb8⟩
              case measure => (simp [intOf] <;> omega)
          · obtain rfl : k = K := by omega
            have hm0 : 0 < m := by
              rcases Nat.eq_zero_or_pos m with h | h
              · exact absurd (List.eq_nil_of_length_eq_zero (by rw [HM.out]; exact h)) hKn
              · exact h
            have hki : (k : Int) < 500 := by omega
            have hmi : (0 : Int) < (m : Int) := by omega
            have hmci : (m : Int) ≤ (cb : Int) := by omega
            have hcb0 : ¬ cb = 0 := by omega
            have hvr := Lib.hid (hbv.out.more (show w.heap.size ≤ wr.heap.size by omega))
            obtain ⟨bq, oq, rfl, _, _⟩ := hbv.out.at_ (k := 0) (by rw [HM.out]; omega)
            go_wp2_with fail
            refine (ref_take_no _ m _ (rkN l k) wr hvr.out HM.out (by omega) hmc hKv).mono ?_
            rintro e w6 ⟨rfl, hb6⟩
            have hO6 := Lib.hid (own_keep hO.out (Mod.of_below (g := wr.heap.size) hb6) (by intro g' e e2; have := (World.ownsRow.lt hO.out g' (by rw [e]; rfl)).2; injection e2 with e2; omega))
            have hb7 := hbel.trans (hb6.mono hw5)
            have hw6 := hb6.size
            go_wp2_with (at_builtin; (refine wp_append1 rfl _ _ _ rfl w5.heap.size 40 (.int .u64 0) 8 rfl Try.underlying56 u64info' Aw k cw _ rfl (Own.alloc hO6.out _) (w6.heap.size + 1) (some ⟨w6.heap.size, 0, none⟩) 1 1 ([0].map u64v) rfl ((Arr.new w6 40 ([0].map u64v)).view (by simp)) rfl (by intro h; cases h) (u64v_one [0]) (by unfold maxLen; omega) (by omega) (by simp; omega) w5.heap.size (w6.alloc (.cells #[.int .u64 0] 40)) (Below.refl _ _) (Nat.le_refl _) ?_); intro A8' c8' w8 hown8 hbel8)
            have hb8 := (hb7.alloc (by omega) (.cells #[.int .u64 0] 40)).trans hbel8
            go_roundw
            case rel => exact ⟨k + 1, _, _, _, A8', c8', k + 1, false, by omega, rfl, rfl, rfl, by go_num, Lib.hid (fun h => by cases h), hb8⟩
            case measure => (simp [intOf] <;> omega)
end Go.Proofs.Ytakmcbgfglnanaa.VarintTakes
