
/- Proved: TurnTwo returns true for all candidates and draws, and changes no memory that was there. Conditions: none. -/
import Derived.Test.YtakmcbgfglnanaaTurnAwake
namespace Go.Proofs.Ytakmcbgfglnanaa.TurnTwo
open Go.RowKit

theorem two_cd {l : List Cd} (hr : Rising l) (a b : Nat) (h : 0 < l.length) :
    (if (cdAt l (b % l.length)).load < (cdAt l (a % l.length)).load ∨ (cdAt l (b % l.length)).load = (cdAt l (a % l.length)).load ∧ (cdAt l (b % l.length)).slot < (cdAt l (a % l.length)).slot then (cdAt l (b % l.length)).agg else (cdAt l (a % l.length)).agg) = (cdAt l (twoN l a b)).agg := by
  have hi : a % l.length < l.length := Nat.mod_lt _ h
  have hj : b % l.length < l.length := Nat.mod_lt _ h
  unfold twoN
  simp only
  generalize a % l.length = i at hi
  generalize b % l.length = j at hj
  by_cases h1 : (cdAt l i).load < (cdAt l j).load
  · rw [if_pos h1, if_neg (by omega)]
  · rw [if_neg h1]
    by_cases h2 : (cdAt l j).load < (cdAt l i).load
    · rw [if_pos h2, if_pos (.inl h2)]
    · rw [if_neg h2]
      have he : (cdAt l j).load = (cdAt l i).load := by omega
      by_cases h3 : (cdAt l j).slot < (cdAt l i).slot
      · rw [if_pos (.inr ⟨he, h3⟩)]
        have : j < i := by
          rcases Nat.lt_trichotomy j i with h4 | h4 | h4
          · exact h4
          · subst h4; omega
          · have := hr.2 i j h4 hj; omega
        rw [show min i j = j by omega]
      · rw [if_neg (by omega)]
        rcases Nat.lt_trichotomy j i with h4 | h4 | h4
        · have := hr.2 j i h4 hi; omega
        · subst h4; rw [Nat.min_self]
        · rw [show min i j = i by omega]
theorem twoN_lt (l : List Cd) (a b : Nat) (h : 0 < l.length) : twoN l a b < l.length := by
  have hi : a % l.length < l.length := Nat.mod_lt _ h
  have hj : b % l.length < l.length := Nat.mod_lt _ h
  unfold twoN
  simp only
  split
  · exact hi
  · split
    · exact hj
    · omega

set_option maxRecDepth 100000 in
set_option maxHeartbeats 1000000 in
theorem walk_ (A : Option Addr) (c : Nat) (l : List Cd) (a b : Nat) (w : World) (hv : View w w.heap.size A (cdsV l)) (hc : l.length ≤ c) (hcm : c ≤ maxLen) (ha : a < 4294967296) (hb : b < 4294967296) :
    Calls Try.prog 15 #[.slice A l.length c, .int .u32 (a : Int), .int .u32 (b : Int)] w fun e w' => e = .returned (.bool true) ∧ Below w.heap.size w w' := by
  unfold maxLen at hcm
  by_cases hlong : 70 < l.length
  · have h1 : (70 : Int) < (l.length : Int) := by omega
    go_enter Try.func15, Try.ntmps15
    go_wp2_with fail
    refine (turn_awake_c _).mono ?_
    rintro e w1 ⟨rfl, hb1⟩
    go_wp2
    go_ret
    exact ⟨rfl, hb1⟩
  have h1 : ¬ (70 : Int) < (l.length : Int) := by omega
  cases hR : rightB (-1) l with
  | false =>
    have HR := Lib.hid hR
    clear hR
    go_enter Try.func15, Try.ntmps15
    go_wp2_with fail
    refine (ref_right_c A c l w w.heap.size hv (by omega)).mono ?_
    rintro e w1 ⟨rfl, rfl⟩
    rw [HR.out]
    go_wp2_with fail
    refine (turn_awake_c _).mono ?_
    rintro e w1 ⟨rfl, hb1⟩
    go_wp2
    go_ret
    exact ⟨rfl, hb1⟩
  | true =>
    have hrise := rising_of l hR
    have HR := Lib.hid hR
    clear hR
    by_cases hn0 : 0 < l.length
    · have h2 : ((l.length : Int) == 0) = false := by rw [beq_eq_false_iff_ne]; omega
      have h3 : ¬ l.length = 0 := by omega
      have hz0 : (0 : Int) < (l.length : Int) ∧ (l.length : Int) ≤ 70 := by omega
      have HT := Lib.hid (two_cd hrise a b hn0)
      have hn2 := twoN_lt l a b hn0
      have hg := cdsV_get l (twoN l a b) _ (cdAt_get l _ hn2)
      go_enter Try.func15, Try.ntmps15
      go_wp2_with fail
      refine (ref_right_c A c l w w.heap.size hv (by omega)).mono ?_
      rintro e w1 ⟨rfl, rfl⟩
      rw [HR.out]
      go_wp2_with fail
      refine (to_c A c l w hv (by omega)).mono ?_
      rintro e w1 ⟨A1, c1, rfl, hc1, hv1, _, hb1⟩
      go_wp2_with fail
      refine (turn_two_c A1 c1 l a b w1 hv1 (by omega) hn0 ha hb _ _ (cdAt_get l _ (Nat.mod_lt _ hn0)) (cdAt_get l _ (Nat.mod_lt _ hn0))).mono ?_
      rintro e w2 ⟨rfl, hb2⟩
      rw [HT.out]
      have hv2 := (hv1.below hb2).more hb2.size
      have hb3 := hb1.trans (hb2.mono hb1.size)
      obtain ⟨bb, o, rfl, hbb, hcell⟩ := hv2 (by intro e; rw [e] at hg; simp at hg)
      have d0 := hcell _ _ hg.1
      have d1 := hcell _ _ hg.2.1
      have d2 := hcell _ _ hg.2.2.1
      have d3 := hcell _ _ hg.2.2.2
      rw [← Nat.add_assoc] at d1 d2 d3
      have hvl := (hv.below hb3).more hb3.size
      obtain ⟨nn, HN⟩ : ∃ n, Hid (twoN l a b = n) := ⟨_, Lib.hid rfl⟩
      rw [HN.out] at d0 d1 d2 d3 hn2 ⊢
      clear hcell hg HT hv2 hv1 hrise
      generalize cdAt l nn = ch at d0 d1 d2 d3 ⊢
      obtain ⟨s, sb, sw, sl⟩ := ch
      simp only [Cd.agg] at d0 d1 d2 d3 ⊢
      have hm0 : (0 : Int) ≤ (nn : Int) := by omega
      have hm1 : (nn : Int) < (l.length : Int) := by omega
      have hA8 := hid_arr (Arr.new w2 34 [.int .i64 s, .int .i64 sb, .int .i64 sw, .int .u32 sl])
      have hb8 : Below w.heap.size w (w2.alloc (.cells #[.int .i64 s, .int .i64 sb, .int .i64 sw, .int .u32 sl] 34)) := hb3.alloc hb3.size _
      have hvx8 : View (w2.alloc (.cells #[.int .i64 s, .int .i64 sb, .int .i64 sw, .int .u32 sl] 34)) (w2.alloc (.cells #[.int .i64 s, .int .i64 sb, .int .i64 sw, .int .u32 sl] 34)).heap.size A (cdsV l) := (hvl.alloc (Nat.le_refl _) _).more (by simp)
      have hv8 := Lib.hid hvx8
      clear hvx8
      go_wp2_with fail
      refine rb_start (by kernel_rfl) (fun wx hwx => ?_)
      have hbx := hb8.trans (hwx.mono hb8.size)
      have hA9 := (show Arr _ w2.heap.size 34 [.int .i64 s, .int .i64 sb, .int .i64 sw, .int .u32 sl] from hA8.out).below hwx (by simp)
      have hvl := (hv8.out.below hwx).more hwx.size
      have k0 := hA9.cell 0
      have k1 := hA9.cell 1
      have k2 := hA9.cell 2
      have k3 := hA9.cell 3
      have kl := hA9.lt
      simp only [List.getElem?_cons_zero, List.getElem?_cons_succ] at k0 k1 k2 k3
      have hwz := hwx.size
      simp only [World.size_alloc] at hwz
      have x0 := (hwx.cell (p := ⟨bb, o + nn * 4, none⟩) (by simp; omega)).trans ((World.cell?_alloc_lt w2 _ ⟨bb, o + nn * 4, none⟩ (by simp; omega)).trans d0)
      have x1 := (hwx.cell (p := ⟨bb, o + nn * 4 + 1, none⟩) (by simp; omega)).trans ((World.cell?_alloc_lt w2 _ ⟨bb, o + nn * 4 + 1, none⟩ (by simp; omega)).trans d1)
      have x2 := (hwx.cell (p := ⟨bb, o + nn * 4 + 2, none⟩) (by simp; omega)).trans ((World.cell?_alloc_lt w2 _ ⟨bb, o + nn * 4 + 2, none⟩ (by simp; omega)).trans d2)
      have x3 := (hwx.cell (p := ⟨bb, o + nn * 4 + 3, none⟩) (by simp; omega)).trans ((World.cell?_alloc_lt w2 _ ⟨bb, o + nn * 4 + 3, none⟩ (by simp; omega)).trans d3)
      refine rb_take 0 (some 41) (v := ?_) rfl rfl (by kernel_rfl) (by kernel_rfl) (by kernel_rfl) (by kernel_rfl) ?_ ?_
      rotate_left
      focus (intro w' hw'; go_simp; try with_reducible rfl)
      try simp only [Act.put, List.setIfInBounds_toArray, List.set_cons_zero, List.set_cons_succ]
      refine rb_take 1 (some 42) (v := ?_) rfl rfl (by kernel_rfl) (by kernel_rfl) (by kernel_rfl) (by kernel_rfl) ?_ ?_
      rotate_left
      focus (intro w' hw'; go_simp; try with_reducible rfl)
      try simp only [Act.put, List.setIfInBounds_toArray, List.set_cons_zero, List.set_cons_succ]
      refine rb_take 2 (some 43) (v := ?_) rfl rfl (by kernel_rfl) (by kernel_rfl) (by kernel_rfl) (by kernel_rfl) ?_ ?_
      rotate_left
      focus (intro w' hw'; have q0 := (hw'.cell (p := ⟨w2.heap.size, 0, none⟩) (by simp; omega)).trans k0; have q1 := (hw'.cell (p := ⟨w2.heap.size, 1, none⟩) (by simp; omega)).trans k1; have q2 := (hw'.cell (p := ⟨w2.heap.size, 2, none⟩) (by simp; omega)).trans k2; have q3 := (hw'.cell (p := ⟨w2.heap.size, 3, none⟩) (by simp; omega)).trans k3; go_simp; try with_reducible rfl)
      try simp only [Act.put, List.setIfInBounds_toArray, List.set_cons_zero, List.set_cons_succ]
      refine rb_take 3 (some 44) (v := ?_) rfl rfl (by kernel_rfl) (by kernel_rfl) (by kernel_rfl) (by kernel_rfl) ?_ ?_
      rotate_left
      focus (intro w' hw'; go_simp; try with_reducible rfl)
      try simp only [Act.put, List.setIfInBounds_toArray, List.set_cons_zero, List.set_cons_succ]
      refine rb_take 4 (some 45) (v := ?_) rfl rfl (by kernel_rfl) (by kernel_rfl) (by kernel_rfl) (by kernel_rfl) ?_ ?_
      rotate_left
      focus (intro w' hw'; go_simp; try with_reducible rfl)
      try simp only [Act.put, List.setIfInBounds_toArray, List.set_cons_zero, List.set_cons_succ]
      refine rb_take 5 (some 46) (v := ?_) rfl rfl (by kernel_rfl) (by kernel_rfl) (by kernel_rfl) (by kernel_rfl) ?_ ?_
      rotate_left
      focus (intro w' hw'; go_simp; try with_reducible rfl)
      try simp only [Act.put, List.setIfInBounds_toArray, List.set_cons_zero, List.set_cons_succ]
      refine rb_take 6 (some 47) (v := ?_) rfl rfl (by kernel_rfl) (by kernel_rfl) (by kernel_rfl) (by kernel_rfl) ?_ ?_
      rotate_left
      focus (intro w' hw'; go_simp; try with_reducible rfl)
      try simp only [Act.put, List.setIfInBounds_toArray, List.set_cons_zero, List.set_cons_succ]
      refine rb_step 7 rfl (by kernel_rfl) (by kernel_rfl) (Nat.le_refl _) (fun K hK => ?_)
      go_simp
      refine (ref_two_c A c l a b wx hvl (by omega) hn0 ha hb).mono ?_
      rintro e w7 ⟨rfl, hb7⟩
      rw [HN.out]
      refine hK.out _ _ hb7 ?_
      clear hK K
      have y0 := (hb7.cell (p := ⟨bb, o + nn * 4, none⟩) (by simp; omega)).trans x0
      have y1 := (hb7.cell (p := ⟨bb, o + nn * 4 + 1, none⟩) (by simp; omega)).trans x1
      have y2 := (hb7.cell (p := ⟨bb, o + nn * 4 + 2, none⟩) (by simp; omega)).trans x2
      have y3 := (hb7.cell (p := ⟨bb, o + nn * 4 + 3, none⟩) (by simp; omega)).trans x3
      have hwy := hb7.size
      try simp only [Act.put, List.setIfInBounds_toArray, List.set_cons_zero, List.set_cons_succ]
      refine rb_take 8 (some 49) (v := ?_) rfl rfl (by kernel_rfl) (by kernel_rfl) (by kernel_rfl) (by kernel_rfl) ?_ ?_
      rotate_left
      focus (intro w' hw'; go_simp; try with_reducible rfl)
      try simp only [Act.put, List.setIfInBounds_toArray, List.set_cons_zero, List.set_cons_succ]
      refine rb_take 9 (some 50) (v := ?_) rfl rfl (by kernel_rfl) (by kernel_rfl) (by kernel_rfl) (by kernel_rfl) ?_ ?_
      rotate_left
      focus (intro w' hw'; have q0 := (hw'.cell (p := ⟨bb, o + nn * 4, none⟩) (by simp; omega)).trans y0; have q1 := (hw'.cell (p := ⟨bb, o + nn * 4 + 1, none⟩) (by simp; omega)).trans y1; have q2 := (hw'.cell (p := ⟨bb, o + nn * 4 + 2, none⟩) (by simp; omega)).trans y2; have q3 := (hw'.cell (p := ⟨bb, o + nn * 4 + 3, none⟩) (by simp; omega)).trans y3; go_simp; try with_reducible rfl)
      try simp only [Act.put, List.setIfInBounds_toArray, List.set_cons_zero, List.set_cons_succ]
      refine rb_take 10 (some 51) (v := ?_) rfl rfl (by kernel_rfl) (by kernel_rfl) (by kernel_rfl) (by kernel_rfl) ?_ ?_
      rotate_left
      focus (intro w' hw'; go_simp; try with_reducible rfl)
      try simp only [Act.put, List.setIfInBounds_toArray, List.set_cons_zero, List.set_cons_succ]
      refine rb_take 11 (some 52) (v := ?_) rfl rfl (by kernel_rfl) (by kernel_rfl) (by kernel_rfl) (by kernel_rfl) ?_ ?_
      rotate_left
      focus (intro w' hw'; go_simp; try with_reducible rfl)
      try simp only [Act.put, List.setIfInBounds_toArray, List.set_cons_zero, List.set_cons_succ]
      refine rb_take 12 (some 53) (v := ?_) rfl rfl (by kernel_rfl) (by kernel_rfl) (by kernel_rfl) (by kernel_rfl) ?_ ?_
      rotate_left
      focus (intro w' hw'; go_simp; try with_reducible rfl)
      try simp only [Act.put, List.setIfInBounds_toArray, List.set_cons_zero, List.set_cons_succ]
      refine rb_step 13 rfl (by kernel_rfl) (by kernel_rfl) (Nat.le_refl _) (fun K hK => ?_)
      go_simp
      refine (turn_awake_c _).mono ?_
      rintro e w8 ⟨rfl, hb9⟩
      refine hK.out _ _ hb9 ?_
      clear hK K
      have hball := (hbx.trans (hb7.mono hbx.size)).trans (hb9.mono (Nat.le_trans hbx.size hb7.size))
      try simp only [Act.put, List.setIfInBounds_toArray, List.set_cons_zero, List.set_cons_succ]
      refine rb_take 14 (some 55) (v := ?_) rfl rfl (by kernel_rfl) (by kernel_rfl) (by kernel_rfl) (by kernel_rfl) ?_ ?_
      rotate_left
      focus (intro w' hw'; go_simp; try with_reducible rfl)
      try simp only [Act.put, List.setIfInBounds_toArray, List.set_cons_zero, List.set_cons_succ]
      refine rb_take 15 (some 6) (v := ?_) rfl rfl (by kernel_rfl) (by kernel_rfl) (by kernel_rfl) (by kernel_rfl) ?_ ?_
      rotate_left
      focus (intro w' hw'; go_simp; try with_reducible rfl)
      try simp only [Act.put, List.setIfInBounds_toArray, List.set_cons_zero, List.set_cons_succ]
      refine rb_done (Nat.le_refl _) (by kernel_rfl) ?_
      go_wp2
      go_ret
      exact ⟨rfl, hball⟩
    · have hl0 : l = [] := List.eq_nil_of_length_eq_zero (by omega)
      subst hl0
      go_enter Try.func15, Try.ntmps15
      go_wp2_with fail
      refine (ref_right_c A c [] w w.heap.size hv (by simp)).mono ?_
      rintro e w1 ⟨rfl, rfl⟩
      rw [HR.out]
      go_wp2_with fail
      refine (to_c A c [] w hv (by simp)).mono ?_
      rintro e w1 ⟨A1, c1, rfl, hc1, hv1, _, hb1⟩
      go_wp2_with fail
      refine (turn_two_none_c A1 c1 _ _ w1).mono ?_
      rintro e w2 ⟨rfl, hb2⟩
      have hb3 := hb1.trans (hb2.mono hb1.size)
      have hb8 : Below w.heap.size w (w2.alloc (.cells #[.int .i64 0, .int .i64 0, .int .i64 0, .int .u32 0] 34)) := hb3.alloc hb3.size _
      go_wp2_with fail
      refine (turn_awake_c _).mono ?_
      rintro e w4 ⟨rfl, hb4⟩
      go_wp2
      go_ret
      exact ⟨rfl, hb8.trans (hb4.mono hb8.size)⟩

open Go.ChangeShapes Go.WideShapes Go.ChangeAt in
set_option maxRecDepth 100000 in
theorem walk {H : Type} {enc : TypeId × Value → H} {r : Reach} {b0 : Nat} {d : DataW H} {ps : List MemPlace} (v : Value) (a b : Int) (w : World)
    (hval : Value.okWide Try.prog w r b0 27 v) (hd : DataW.Trod enc Try.prog w 0 (fun _ => true) true 27 v d ps) (hlt : ∀ x ∈ ps, x.block < w.heap.size)
    (ha : 0 ≤ a ∧ a < 4294967296) (hb : 0 ≤ b ∧ b < 4294967296) :
    Calls Try.prog 15 #[v, .int .u32 a, .int .u32 b] w fun e w' => e = .returned (.bool true) ∧ Below w.heap.size w w' := by
  obtain ⟨A, c, l, rfl, _, hc, hcm, hv, _⟩ := open_cands hval hd hlt
  obtain ⟨a, rfl⟩ := Int.eq_ofNat_of_zero_le ha.1
  obtain ⟨b, rfl⟩ := Int.eq_ofNat_of_zero_le hb.1
  exact walk_ A c l a b w hv hc hcm (by omega) (by omega)
end Go.Proofs.Ytakmcbgfglnanaa.TurnTwo
