
/- Proved: TurnPicks returns true for all rows of candidates, and changes no memory that was there. Conditions: none. -/
import Derived.Test.YtakmcbgfglnanaaTurnMore
namespace Go.Proofs.Ytakmcbgfglnanaa.TurnPicks
open Go.RowKit

set_option maxRecDepth 100000 in
set_option maxHeartbeats 4000000 in
theorem walk_ (A : Option Addr) (c : Nat) (rows : List (Option Addr × List Cd × Nat)) (w : World) (hv : View w w.heap.size A (rows.map candRow)) (hrs : ∀ r ∈ rows, CandRow w r) (hc : rows.length ≤ c) (hcm : c ≤ maxLen) :
    Calls Try.prog 3 #[.slice A rows.length c] w fun e w' => e = .returned (.bool true) ∧ Below w.heap.size w w' := by
  unfold maxLen at hcm
  go_enter Try.func3, Try.ntmps3
  go_wp2_with fail
  refine (turn_awake_c _).mono ?_
  rintro e w1 ⟨rfl, hb1⟩
  have hT1 : TurnAt (w1.alloc (.cells #[.int .i64 0] 26)) w1.heap.size 0 := hid_arr (Arr.new w1 26 [.int .i64 0])
  have hb2 := hb1.alloc hb1.size (.cells #[.int .i64 0] 26)
  have hgw := hb1.size
  go_wp2_with fail
  generalize w1.alloc (.cells #[.int .i64 0] 26) = w2 at hT1 hb2 ⊢
  generalize w1.heap.size = g at hT1 hgw ⊢
  clear hb1
  go_loopw [4, 5] (fun v4 v5 wr => ∃ (k : Nat) (next : Int), k ≤ rows.length ∧ k ≤ 40 ∧ v5 = .int .i64 (k : Int) ∧ v4 = .int .i64 next ∧ 0 ≤ next ∧ next ≤ 4096 ∧ TurnAt wr g next ∧ Below w.heap.size w wr) (fun _ i _ => rows.length - (intOf i).toNat)
  case atStart => exact ⟨0, 0, Nat.zero_le _, by omega, rfl, rfl, by omega, by omega, hT1, hb2⟩
  case round =>
    rename_i wr
    clear hT1 hb2
    obtain ⟨k, next, hk, hk4, rfl, rfl, hx0, hx1, hT, hbel⟩ := hrel
    have hws := hbel.size
    have hgl := hT.lt
    by_cases hlt : k < rows.length ∧ k < 40
    · obtain ⟨hlt, hlt4⟩ := hlt
      obtain ⟨⟨Ak, lk, ck⟩, hrk⟩ : ∃ r, rows[k]? = some r := ⟨_, List.getElem?_eq_getElem hlt⟩
      obtain ⟨b, o, rfl, hb, hcell⟩ := hv (by intro e; rw [List.map_eq_nil_iff] at e; subst e; simp at hlt)
      have HK := Lib.hid (hcell k (candRow (Ak, lk, ck)) (by rw [List.getElem?_map, hrk]; rfl))
      unfold candRow at HK
      simp only at HK
      obtain ⟨hk1, hk2, hk3⟩ := hrs _ (List.mem_of_getElem? hrk)
      unfold maxLen at hk2
      simp only at hk1 hk2 hk3
      have hc0 := (hbel.cell (p := ⟨b, o + k, none⟩) (by simpa using hb)).trans HK.out
      have HV := Lib.hid hk3
      have hvr := Lib.hid ((hk3.below hbel).more hws)
      have hz0 : (0 : Int) ≤ (k : Int) := by omega
      have hz1 : (k : Int) < (rows.length : Int) := by omega
      have hz2 : (k : Int) < 40 := by omega
      clear hcell hrk hk3
      by_cases hlong : 70 < lk.length
      · have h1 : (70 : Int) < (lk.length : Int) := by omega
        go_wp2_with fail
        refine (turn_awake_c _).mono ?_
        rintro e w4 ⟨rfl, hb4⟩
        go_wp2
        go_ret
        exact ⟨rfl, hbel.trans (hb4.mono hws)⟩
      have h1 : ¬ (70 : Int) < (lk.length : Int) := by omega
      obtain ⟨rb, HRB⟩ : ∃ v, Hid (rightB (-1) lk = v) := ⟨_, Lib.hid rfl⟩
      go_wp2_with fail
      refine (to_c Ak ck lk wr hvr.out (by omega)).mono ?_
      rintro e w3 ⟨A3, c3, rfl, hc3, hv3, hA3, hb3⟩
      have hb4 := hbel.trans (hb3.mono hws)
      have hb4w := hb4.size
      have hT3 := hT.below hb3
      have HA3 := Lib.hid (show ∀ a, A3 = some a → a.block ≠ g from fun a ha => by have := hA3 a ha; omega)
      have hv3h := Lib.hid hv3
      clear hA3 hv3 hc0
      go_wp2_with fail
      refine rb_start_at (w.heap.size) (by assumption) (by kernel_rfl) (fun wx hwx hBwx => ?_)
      have hbx := hb4.trans (hwx.mono hb4w)
      have hTx := hT3.below hwx
      have hvx := Lib.hid ((hv3h.out.below hwx).more hwx.size)
      have hvl := Lib.hid ((HV.out.below hbx).more hbx.size)
      have hcx := (hbx.cell (p := ⟨b, o + k, none⟩) (by simpa using hb)).trans HK.out
      refine rb_take 0 (some 39) (v := ?_) rfl rfl (by kernel_rfl) (by kernel_rfl) (by kernel_rfl) (by kernel_rfl) ?_ ?_
      rotate_left
      focus (intro w' hw'; go_simp; try with_reducible rfl)
      try simp only [Act.put, List.setIfInBounds_toArray, List.set_cons_zero, List.set_cons_succ]
      refine rb_take 2 (some 41) (v := ?_) rfl rfl (by kernel_rfl) (by kernel_rfl) (by kernel_rfl) (by kernel_rfl) ?_ ?_
      rotate_left
      focus (intro w' hw'; go_simp; try with_reducible rfl)
      try simp only [Act.put, List.setIfInBounds_toArray, List.set_cons_zero, List.set_cons_succ]
      refine rb_take 3 (some 42) (v := ?_) rfl rfl (by kernel_rfl) (by kernel_rfl) (by kernel_rfl) (by kernel_rfl) ?_ ?_
      rotate_left
      focus (intro w' hw'; go_simp; try with_reducible rfl)
      try simp only [Act.put, List.setIfInBounds_toArray, List.set_cons_zero, List.set_cons_succ]
      refine rb_take 4 (some 43) (v := ?_) rfl rfl (by kernel_rfl) (by kernel_rfl) (by kernel_rfl) (by kernel_rfl) ?_ ?_
      rotate_left
      focus (intro w' hw'; go_simp; try with_reducible rfl)
      try simp only [Act.put, List.setIfInBounds_toArray, List.set_cons_zero, List.set_cons_succ]
      refine rb_take 5 (some 44) (v := ?_) rfl rfl (by kernel_rfl) (by kernel_rfl) (by kernel_rfl) (by kernel_rfl) ?_ ?_
      rotate_left
      focus (intro w' hw'; have q := (hw'.cell (p := ⟨b, o + k, none⟩) (by simpa using hb)).trans hcx; go_simp; try with_reducible rfl)
      try simp only [Act.put, List.setIfInBounds_toArray, List.set_cons_zero, List.set_cons_succ]
      refine rb_keep 1 rfl (by kernel_rfl) (by kernel_rfl) (by first | assumption | exact hBB _ _) (fun K hK => ?_)
      go_simp
      refine (turn_right_c A3 c3 lk _ hvx.out (by omega)).mono ?_
      rintro e w7 ⟨rfl, hb7⟩
      rw [HRB.out]
      refine hK.out _ _ (hb7.mono hBwx) ?_
      clear hK K
      have hT7 := hTx.below hb7
      have hv7 := Lib.hid ((hvx.out.below hb7).more hb7.size)
      have hvl7 := Lib.hid ((hvl.out.below hb7).more hb7.size)
      have hb8 := hbx.trans (hb7.mono hbx.size)
      have hb8w := hb8.size
      have hc7 := (hb8.cell (p := ⟨b, o + k, none⟩) (by simpa using hb)).trans HK.out
      try simp only [Act.put, List.setIfInBounds_toArray, List.set_cons_zero, List.set_cons_succ]
      refine rb_keep 6 rfl (by kernel_rfl) (by kernel_rfl) (by first | assumption | exact hBB _ _) (fun K hK => ?_)
      go_simp
      first
        | refine (ref_right_c Ak ck lk _ _ hvl.out (by omega)).mono ?_
        | refine (ref_right_c Ak ck lk _ _ hvl7.out (by omega)).mono ?_
      rintro e w6 ⟨rfl, rfl⟩
      rw [HRB.out]
      refine hK.out _ _ (Below.refl _ _) ?_
      clear hK K
      try simp only [Act.put, List.setIfInBounds_toArray, List.set_cons_zero, List.set_cons_succ]
      refine rb_take 7 (some 46) (v := ?_) rfl rfl (by kernel_rfl) (by kernel_rfl) (by kernel_rfl) (by kernel_rfl) ?_ ?_
      rotate_left
      focus (intro w' hw'; go_simp; try with_reducible rfl)
      try simp only [Act.put, List.setIfInBounds_toArray, List.set_cons_zero, List.set_cons_succ]
      refine rb_done (by first | assumption | exact hBB _ _) (by kernel_rfl) ?_
      clear hT hT3 hTx
      go_wp2_with fail
      refine (ref_right_c Ak ck lk _ _ hvl7.out (by omega)).mono ?_
      rintro e w6 ⟨rfl, rfl⟩
      rw [HRB.out]
      cases rb with
      | false =>
        go_wp2_with fail
        go_roundw
        case rel => exact ⟨k + 1, next, by omega, by omega, by go_num, rfl, hx0, hx1, hT7, hb8⟩
        case measure => (simp [intOf] <;> omega)
      | true =>
        have hrise := Lib.hid (rising_of lk HRB.out)
        by_cases hn0 : lk.length = 0
        · have hl0 : lk = [] := List.eq_nil_of_length_eq_zero hn0
          subst hl0
          have hn2 : ([] : List Cd).length = 0 := rfl
          have HP := Lib.hid (show refPick [] next = -1 from rfl)
          clear hn0
          simp only [List.length_nil] at *
          go_wp2_with fail
          refine (turn_pick_none_c g A3 c3 _).mono ?_
          rintro e w9 ⟨rfl, hb9⟩
          have hT9 := hT7.below hb9
          have hb10 := hb8.trans (hb9.mono hb8w)
          have hT10 : TurnAt (w9.alloc (.cells #[.int .i64 0, .int .i64 0, .int .i64 0, .int .u32 0] 34)) g next := hT9.below ((Below.refl _ _).alloc (Nat.le_refl _) _)
          have hb11 := hb10.alloc hb10.size (.cells #[.int .i64 0, .int .i64 0, .int .i64 0, .int .u32 0] 34)
          have hc11 := (hb11.cell (p := ⟨b, o + k, none⟩) (by simpa using hb)).trans HK.out
          go_wp2_with fail
          refine (ref_pick_c Ak ck [] next _ 0 View.nil_ (by simp) ⟨hx0, hx1⟩).mono ?_
          rintro e w12 ⟨rfl, rfl⟩
          rw [HP.out]
          have hA11 := hid_arr (Arr.new w9 34 [.int .i64 0, .int .i64 0, .int .i64 0, .int .u32 0])
          have hb11w := hb11.size
          go_wp2_with fail
          refine rb_start (by kernel_rfl) (fun wy hwy => ?_)
          have hby := hb11.trans (hwy.mono hb11w)
          have hTy := hT10.below hwy
          have hAy := (show Arr _ w9.heap.size 34 [.int .i64 0, .int .i64 0, .int .i64 0, .int .u32 0] from hA11.out).below hwy (by simp)
          have a0 := hAy.cell 0
          have a1 := hAy.cell 1
          have a2 := hAy.cell 2
          have a3 := hAy.cell 3
          simp only [List.getElem?_cons_zero, List.getElem?_cons_succ] at a0 a1 a2 a3
          have hAl := hAy.lt
          refine rb_take 0 (some 65) (v := ?_) rfl rfl (by kernel_rfl) (by kernel_rfl) (by kernel_rfl) (by kernel_rfl) ?_ ?_
          rotate_left
          focus (intro w' hw'; go_simp; try with_reducible rfl)
          try simp only [Act.put, List.setIfInBounds_toArray, List.set_cons_zero, List.set_cons_succ]
          refine rb_take 1 (some 66) (v := ?_) rfl rfl (by kernel_rfl) (by kernel_rfl) (by kernel_rfl) (by kernel_rfl) ?_ ?_
          rotate_left
          focus (intro w' hw'; go_simp; try with_reducible rfl)
          try simp only [Act.put, List.setIfInBounds_toArray, List.set_cons_zero, List.set_cons_succ]
          refine rb_take 2 (some 67) (v := ?_) rfl rfl (by kernel_rfl) (by kernel_rfl) (by kernel_rfl) (by kernel_rfl) ?_ ?_
          rotate_left
          focus (intro w' hw'; go_simp; try with_reducible rfl)
          try simp only [Act.put, List.setIfInBounds_toArray, List.set_cons_zero, List.set_cons_succ]
          refine rb_take 3 (some 68) (v := ?_) rfl rfl (by kernel_rfl) (by kernel_rfl) (by kernel_rfl) (by kernel_rfl) ?_ ?_
          rotate_left
          focus (intro w' hw'; go_simp; try with_reducible rfl)
          try simp only [Act.put, List.setIfInBounds_toArray, List.set_cons_zero, List.set_cons_succ]
          refine rb_take 4 (some 69) (v := ?_) rfl rfl (by kernel_rfl) (by kernel_rfl) (by kernel_rfl) (by kernel_rfl) ?_ ?_
          rotate_left
          focus (intro w' hw'; go_simp; try with_reducible rfl)
          try simp only [Act.put, List.setIfInBounds_toArray, List.set_cons_zero, List.set_cons_succ]
          refine rb_take 5 (some 70) (v := ?_) rfl rfl (by kernel_rfl) (by kernel_rfl) (by kernel_rfl) (by kernel_rfl) ?_ ?_
          rotate_left
          focus (intro w' hw'; go_simp; try with_reducible rfl)
          try simp only [Act.put, List.setIfInBounds_toArray, List.set_cons_zero, List.set_cons_succ]
          refine rb_take 6 (some 71) (v := ?_) rfl rfl (by kernel_rfl) (by kernel_rfl) (by kernel_rfl) (by kernel_rfl) ?_ ?_
          rotate_left
          focus (intro w' hw'; go_simp; try with_reducible rfl)
          try simp only [Act.put, List.setIfInBounds_toArray, List.set_cons_zero, List.set_cons_succ]
          refine rb_take 7 (some 72) (v := ?_) rfl rfl (by kernel_rfl) (by kernel_rfl) (by kernel_rfl) (by kernel_rfl) ?_ ?_
          rotate_left
          focus (intro w' hw'; go_simp; try with_reducible rfl)
          try simp only [Act.put, List.setIfInBounds_toArray, List.set_cons_zero, List.set_cons_succ]
          refine rb_take 8 (some 73) (v := ?_) rfl rfl (by kernel_rfl) (by kernel_rfl) (by kernel_rfl) (by kernel_rfl) ?_ ?_
          rotate_left
          focus (intro w' hw'; have q0 := (hw'.cell (p := ⟨w9.heap.size, 0, none⟩) (by simp; omega)).trans a0; have q1 := (hw'.cell (p := ⟨w9.heap.size, 1, none⟩) (by simp; omega)).trans a1; have q2 := (hw'.cell (p := ⟨w9.heap.size, 2, none⟩) (by simp; omega)).trans a2; have q3 := (hw'.cell (p := ⟨w9.heap.size, 3, none⟩) (by simp; omega)).trans a3; go_simp; try with_reducible rfl)
          try simp only [Act.put, List.setIfInBounds_toArray, List.set_cons_zero, List.set_cons_succ]
          refine rb_take 9 (some 74) (v := ?_) rfl rfl (by kernel_rfl) (by kernel_rfl) (by kernel_rfl) (by kernel_rfl) ?_ ?_
          rotate_left
          focus (intro w' hw'; go_simp; try with_reducible rfl)
          try simp only [Act.put, List.setIfInBounds_toArray, List.set_cons_zero, List.set_cons_succ]
          refine rb_take 10 (some 75) (v := ?_) rfl rfl (by kernel_rfl) (by kernel_rfl) (by kernel_rfl) (by kernel_rfl) ?_ ?_
          rotate_left
          focus (intro w' hw'; go_simp; try with_reducible rfl)
          try simp only [Act.put, List.setIfInBounds_toArray, List.set_cons_zero, List.set_cons_succ]
          refine rb_take 11 (some 76) (v := ?_) rfl rfl (by kernel_rfl) (by kernel_rfl) (by kernel_rfl) (by kernel_rfl) ?_ ?_
          rotate_left
          focus (intro w' hw'; go_simp; try with_reducible rfl)
          try simp only [Act.put, List.setIfInBounds_toArray, List.set_cons_zero, List.set_cons_succ]
          refine rb_take 12 (some 77) (v := ?_) rfl rfl (by kernel_rfl) (by kernel_rfl) (by kernel_rfl) (by kernel_rfl) ?_ ?_
          rotate_left
          focus (intro w' hw'; go_simp; try with_reducible rfl)
          try simp only [Act.put, List.setIfInBounds_toArray, List.set_cons_zero, List.set_cons_succ]
          refine rb_take 13 (some 78) (v := ?_) rfl rfl (by kernel_rfl) (by kernel_rfl) (by kernel_rfl) (by kernel_rfl) ?_ ?_
          rotate_left
          focus (intro w' hw'; go_simp; try with_reducible rfl)
          try simp only [Act.put, List.setIfInBounds_toArray, List.set_cons_zero, List.set_cons_succ]
          refine rb_take 14 (some 79) (v := ?_) rfl rfl (by kernel_rfl) (by kernel_rfl) (by kernel_rfl) (by kernel_rfl) ?_ ?_
          rotate_left
          focus (intro w' hw'; go_simp; try with_reducible rfl)
          try simp only [Act.put, List.setIfInBounds_toArray, List.set_cons_zero, List.set_cons_succ]
          refine rb_take 15 (some 80) (v := ?_) rfl rfl (by kernel_rfl) (by kernel_rfl) (by kernel_rfl) (by kernel_rfl) ?_ ?_
          rotate_left
          focus (intro w' hw'; go_simp; try with_reducible rfl)
          try simp only [Act.put, List.setIfInBounds_toArray, List.set_cons_zero, List.set_cons_succ]
          refine rb_skip 16 (some 81) rfl rfl (by kernel_rfl) (by kernel_rfl) (by kernel_rfl) (by kernel_rfl) ?_
          try simp only [Act.put, List.setIfInBounds_toArray, List.set_cons_zero, List.set_cons_succ]
          refine rb_skip 17 (some 82) rfl rfl (by kernel_rfl) (by kernel_rfl) (by kernel_rfl) (by kernel_rfl) ?_
          try simp only [Act.put, List.setIfInBounds_toArray, List.set_cons_zero, List.set_cons_succ]
          refine rb_skip 18 (some 83) rfl rfl (by kernel_rfl) (by kernel_rfl) (by kernel_rfl) (by kernel_rfl) ?_
          try simp only [Act.put, List.setIfInBounds_toArray, List.set_cons_zero, List.set_cons_succ]
          refine rb_skip 19 (some 84) rfl rfl (by kernel_rfl) (by kernel_rfl) (by kernel_rfl) (by kernel_rfl) ?_
          try simp only [Act.put, List.setIfInBounds_toArray, List.set_cons_zero, List.set_cons_succ]
          refine rb_skip 20 (some 85) rfl rfl (by kernel_rfl) (by kernel_rfl) (by kernel_rfl) (by kernel_rfl) ?_
          try simp only [Act.put, List.setIfInBounds_toArray, List.set_cons_zero, List.set_cons_succ]
          refine rb_skip 21 (some 86) rfl rfl (by kernel_rfl) (by kernel_rfl) (by kernel_rfl) (by kernel_rfl) ?_
          try simp only [Act.put, List.setIfInBounds_toArray, List.set_cons_zero, List.set_cons_succ]
          refine rb_take 22 (some 87) (v := ?_) rfl rfl (by kernel_rfl) (by kernel_rfl) (by kernel_rfl) (by kernel_rfl) ?_ ?_
          rotate_left
          focus (intro w' hw'; go_simp; try with_reducible rfl)
          try simp only [Act.put, List.setIfInBounds_toArray, List.set_cons_zero, List.set_cons_succ]
          refine rb_take 23 (some 88) (v := ?_) rfl rfl (by kernel_rfl) (by kernel_rfl) (by kernel_rfl) (by kernel_rfl) ?_ ?_
          rotate_left
          focus (intro w' hw'; go_simp; try with_reducible rfl)
          try simp only [Act.put, List.setIfInBounds_toArray, List.set_cons_zero, List.set_cons_succ]
          refine rb_done (Nat.le_refl _) (by kernel_rfl) ?_
          go_wp2_with fail
          refine (turn_next_c g next _ hTy).mono ?_
          rintro e w12 ⟨rfl, rfl⟩
          go_wp2_with fail
          go_roundw
          case rel => exact ⟨k + 1, next, by omega, by omega, by go_num, rfl, hx0, hx1, hTy, hby⟩
          case measure => (simp [intOf] <;> omega)
        · have hn1 : 0 < lk.length := by omega
          have hn2 := pickN_lt lk next hn1
          obtain ⟨n, HN⟩ : ∃ n, Hid (pickN lk next = n) := ⟨_, Lib.hid rfl⟩
          have HP := Lib.hid (show refPick lk next = (n : Int) by unfold refPick; rw [if_neg hn0, HN.out])
          rw [HN.out] at hn2
          obtain ⟨ch, HC⟩ : ∃ x, Hid (cdAt lk n = x) := ⟨_, Lib.hid rfl⟩
          have hsl := hrise.out.1 n hn2
          rw [HC.out] at hsl
          have hg := cdsV_get lk n _ (cdAt_get lk n hn2)
          rw [HC.out] at hg
          obtain ⟨s, sb, sw, sl⟩ := ch
          simp only at hsl hg
          go_wp2_with fail
          refine (turn_pick_c g A3 c3 lk next _ hv7.out (by omega) hn1 hT7 hrise.out.1 ⟨hx0, hx1⟩).mono ?_
          rintro e w9 ⟨rfl, hT9, hM9⟩
          rw [HN.out, HC.out] at hT9 ⊢
          simp only [Cd.agg] at hT9 ⊢
          have hb10 := Below.mod hb8 hM9 hgw hb8w
          have hv9 := hv7.out.mod hM9 HA3.out (Nat.le_refl _)
          obtain ⟨b3, o3, rfl, hb3', hcell⟩ := hv9 (by intro e; rw [e] at hg; simp at hg)
          have d0 := hcell _ _ hg.1
          have d1 := hcell _ _ hg.2.1
          have d2 := hcell _ _ hg.2.2.1
          have d3 := hcell _ _ hg.2.2.2
          rw [← Nat.add_assoc] at d1 d2 d3
          have hs9 := hM9.size
          have hT10 : TurnAt (w9.alloc (.cells #[.int .i64 s, .int .i64 sb, .int .i64 sw, .int .u32 sl] 34)) g (s + 1) := hT9.below ((Below.refl _ _).alloc (Nat.le_refl _) _)
          have hb11 := hb10.alloc hb10.size (.cells #[.int .i64 s, .int .i64 sb, .int .i64 sw, .int .u32 sl] 34)
          have hc11 := (hb11.cell (p := ⟨b, o + k, none⟩) (by simpa using hb)).trans HK.out
          have hvl11 := Lib.hid ((HV.out.below hb11).more hb11.size)
          have hA11 := hid_arr (Arr.new w9 34 [.int .i64 s, .int .i64 sb, .int .i64 sw, .int .u32 sl])
          have hb11w := hb11.size
          have e0 := Lib.hid ((World.cell?_alloc_lt w9 (.cells #[.int .i64 s, .int .i64 sb, .int .i64 sw, .int .u32 sl] 34) ⟨b3, o3 + n * 4, none⟩ (by simp; omega)).trans d0)
          have e1 := Lib.hid ((World.cell?_alloc_lt w9 (.cells #[.int .i64 s, .int .i64 sb, .int .i64 sw, .int .u32 sl] 34) ⟨b3, o3 + n * 4 + 1, none⟩ (by simp; omega)).trans d1)
          have e2 := Lib.hid ((World.cell?_alloc_lt w9 (.cells #[.int .i64 s, .int .i64 sb, .int .i64 sw, .int .u32 sl] 34) ⟨b3, o3 + n * 4 + 2, none⟩ (by simp; omega)).trans d2)
          have e3 := Lib.hid ((World.cell?_alloc_lt w9 (.cells #[.int .i64 s, .int .i64 sb, .int .i64 sw, .int .u32 sl] 34) ⟨b3, o3 + n * 4 + 3, none⟩ (by simp; omega)).trans d3)
          have hm0 : (0 : Int) ≤ (n : Int) := by omega
          have hm1 : (n : Int) < (lk.length : Int) := by omega
          clear hcell hv9 d0 d1 d2 d3 hg hn0
          go_wp2_with fail
          refine (ref_pick_c Ak ck lk next _ _ hvl11.out (by omega) ⟨hx0, hx1⟩).mono ?_
          rintro e w12 ⟨rfl, rfl⟩
          rw [HP.out]
          go_wp2_with fail
          refine rb_start (by kernel_rfl) (fun wy hwy => ?_)
          have hby := hb11.trans (hwy.mono hb11w)
          have hTy := hT10.below hwy
          have hAy := (show Arr _ w9.heap.size 34 [.int .i64 s, .int .i64 sb, .int .i64 sw, .int .u32 sl] from hA11.out).below hwy (by simp)
          have a0 := hAy.cell 0
          have a1 := hAy.cell 1
          have a2 := hAy.cell 2
          have a3 := hAy.cell 3
          simp only [List.getElem?_cons_zero, List.getElem?_cons_succ] at a0 a1 a2 a3
          have hAl := hAy.lt
          have hwyz := hwy.size
          simp only [World.size_alloc] at hwyz
          have f0 := (hwy.cell (p := ⟨b3, o3 + n * 4, none⟩) (by simp; omega)).trans e0.out
          have f1 := (hwy.cell (p := ⟨b3, o3 + n * 4 + 1, none⟩) (by simp; omega)).trans e1.out
          have f2 := (hwy.cell (p := ⟨b3, o3 + n * 4 + 2, none⟩) (by simp; omega)).trans e2.out
          have f3 := (hwy.cell (p := ⟨b3, o3 + n * 4 + 3, none⟩) (by simp; omega)).trans e3.out
          refine rb_take 0 (some 65) (v := ?_) rfl rfl (by kernel_rfl) (by kernel_rfl) (by kernel_rfl) (by kernel_rfl) ?_ ?_
          rotate_left
          focus (intro w' hw'; go_simp; try with_reducible rfl)
          try simp only [Act.put, List.setIfInBounds_toArray, List.set_cons_zero, List.set_cons_succ]
          refine rb_take 1 (some 66) (v := ?_) rfl rfl (by kernel_rfl) (by kernel_rfl) (by kernel_rfl) (by kernel_rfl) ?_ ?_
          rotate_left
          focus (intro w' hw'; go_simp; try with_reducible rfl)
          try simp only [Act.put, List.setIfInBounds_toArray, List.set_cons_zero, List.set_cons_succ]
          refine rb_take 2 (some 67) (v := ?_) rfl rfl (by kernel_rfl) (by kernel_rfl) (by kernel_rfl) (by kernel_rfl) ?_ ?_
          rotate_left
          focus (intro w' hw'; go_simp; try with_reducible rfl)
          try simp only [Act.put, List.setIfInBounds_toArray, List.set_cons_zero, List.set_cons_succ]
          refine rb_take 3 (some 68) (v := ?_) rfl rfl (by kernel_rfl) (by kernel_rfl) (by kernel_rfl) (by kernel_rfl) ?_ ?_
          rotate_left
          focus (intro w' hw'; go_simp; try with_reducible rfl)
          try simp only [Act.put, List.setIfInBounds_toArray, List.set_cons_zero, List.set_cons_succ]
          refine rb_take 4 (some 69) (v := ?_) rfl rfl (by kernel_rfl) (by kernel_rfl) (by kernel_rfl) (by kernel_rfl) ?_ ?_
          rotate_left
          focus (intro w' hw'; go_simp; try with_reducible rfl)
          try simp only [Act.put, List.setIfInBounds_toArray, List.set_cons_zero, List.set_cons_succ]
          refine rb_take 5 (some 70) (v := ?_) rfl rfl (by kernel_rfl) (by kernel_rfl) (by kernel_rfl) (by kernel_rfl) ?_ ?_
          rotate_left
          focus (intro w' hw'; go_simp; try with_reducible rfl)
          try simp only [Act.put, List.setIfInBounds_toArray, List.set_cons_zero, List.set_cons_succ]
          refine rb_take 6 (some 71) (v := ?_) rfl rfl (by kernel_rfl) (by kernel_rfl) (by kernel_rfl) (by kernel_rfl) ?_ ?_
          rotate_left
          focus (intro w' hw'; go_simp; try with_reducible rfl)
          try simp only [Act.put, List.setIfInBounds_toArray, List.set_cons_zero, List.set_cons_succ]
          refine rb_take 7 (some 72) (v := ?_) rfl rfl (by kernel_rfl) (by kernel_rfl) (by kernel_rfl) (by kernel_rfl) ?_ ?_
          rotate_left
          focus (intro w' hw'; go_simp; try with_reducible rfl)
          try simp only [Act.put, List.setIfInBounds_toArray, List.set_cons_zero, List.set_cons_succ]
          refine rb_skip 8 (some 73) rfl rfl (by kernel_rfl) (by kernel_rfl) (by kernel_rfl) (by kernel_rfl) ?_
          try simp only [Act.put, List.setIfInBounds_toArray, List.set_cons_zero, List.set_cons_succ]
          refine rb_skip 9 (some 74) rfl rfl (by kernel_rfl) (by kernel_rfl) (by kernel_rfl) (by kernel_rfl) ?_
          try simp only [Act.put, List.setIfInBounds_toArray, List.set_cons_zero, List.set_cons_succ]
          refine rb_skip 10 (some 75) rfl rfl (by kernel_rfl) (by kernel_rfl) (by kernel_rfl) (by kernel_rfl) ?_
          try simp only [Act.put, List.setIfInBounds_toArray, List.set_cons_zero, List.set_cons_succ]
          refine rb_take 11 (some 76) (v := ?_) rfl rfl (by kernel_rfl) (by kernel_rfl) (by kernel_rfl) (by kernel_rfl) ?_ ?_
          rotate_left
          focus (intro w' hw'; go_simp; try with_reducible rfl)
          try simp only [Act.put, List.setIfInBounds_toArray, List.set_cons_zero, List.set_cons_succ]
          refine rb_take 12 (some 77) (v := ?_) rfl rfl (by kernel_rfl) (by kernel_rfl) (by kernel_rfl) (by kernel_rfl) ?_ ?_
          rotate_left
          focus (intro w' hw'; go_simp; try with_reducible rfl)
          try simp only [Act.put, List.setIfInBounds_toArray, List.set_cons_zero, List.set_cons_succ]
          refine rb_take 13 (some 78) (v := ?_) rfl rfl (by kernel_rfl) (by kernel_rfl) (by kernel_rfl) (by kernel_rfl) ?_ ?_
          rotate_left
          focus (intro w' hw'; go_simp; try with_reducible rfl)
          try simp only [Act.put, List.setIfInBounds_toArray, List.set_cons_zero, List.set_cons_succ]
          refine rb_take 14 (some 79) (v := ?_) rfl rfl (by kernel_rfl) (by kernel_rfl) (by kernel_rfl) (by kernel_rfl) ?_ ?_
          rotate_left
          focus (intro w' hw'; go_simp; try with_reducible rfl)
          try simp only [Act.put, List.setIfInBounds_toArray, List.set_cons_zero, List.set_cons_succ]
          refine rb_take 15 (some 80) (v := ?_) rfl rfl (by kernel_rfl) (by kernel_rfl) (by kernel_rfl) (by kernel_rfl) ?_ ?_
          rotate_left
          focus (intro w' hw'; go_simp; try with_reducible rfl)
          try simp only [Act.put, List.setIfInBounds_toArray, List.set_cons_zero, List.set_cons_succ]
          refine rb_take 16 (some 81) (v := ?_) rfl rfl (by kernel_rfl) (by kernel_rfl) (by kernel_rfl) (by kernel_rfl) ?_ ?_
          rotate_left
          focus (intro w' hw'; have q0 := (hw'.cell (p := ⟨w9.heap.size, 0, none⟩) (by simp; omega)).trans a0; have q1 := (hw'.cell (p := ⟨w9.heap.size, 1, none⟩) (by simp; omega)).trans a1; have q2 := (hw'.cell (p := ⟨w9.heap.size, 2, none⟩) (by simp; omega)).trans a2; have q3 := (hw'.cell (p := ⟨w9.heap.size, 3, none⟩) (by simp; omega)).trans a3; go_simp; try with_reducible rfl)
          try simp only [Act.put, List.setIfInBounds_toArray, List.set_cons_zero, List.set_cons_succ]
          refine rb_take 17 (some 82) (v := ?_) rfl rfl (by kernel_rfl) (by kernel_rfl) (by kernel_rfl) (by kernel_rfl) ?_ ?_
          rotate_left
          focus (intro w' hw'; go_simp; try with_reducible rfl)
          try simp only [Act.put, List.setIfInBounds_toArray, List.set_cons_zero, List.set_cons_succ]
          refine rb_take 18 (some 83) (v := ?_) rfl rfl (by kernel_rfl) (by kernel_rfl) (by kernel_rfl) (by kernel_rfl) ?_ ?_
          rotate_left
          focus (intro w' hw'; go_simp; try with_reducible rfl)
          try simp only [Act.put, List.setIfInBounds_toArray, List.set_cons_zero, List.set_cons_succ]
          refine rb_take 19 (some 84) (v := ?_) rfl rfl (by kernel_rfl) (by kernel_rfl) (by kernel_rfl) (by kernel_rfl) ?_ ?_
          rotate_left
          focus (intro w' hw'; go_simp; try with_reducible rfl)
          try simp only [Act.put, List.setIfInBounds_toArray, List.set_cons_zero, List.set_cons_succ]
          refine rb_take 20 (some 85) (v := ?_) rfl rfl (by kernel_rfl) (by kernel_rfl) (by kernel_rfl) (by kernel_rfl) ?_ ?_
          rotate_left
          focus (intro w' hw'; have q0 := (hw'.cell (p := ⟨b3, o3 + n * 4, none⟩) (by simp; omega)).trans f0; have q1 := (hw'.cell (p := ⟨b3, o3 + n * 4 + 1, none⟩) (by simp; omega)).trans f1; have q2 := (hw'.cell (p := ⟨b3, o3 + n * 4 + 2, none⟩) (by simp; omega)).trans f2; have q3 := (hw'.cell (p := ⟨b3, o3 + n * 4 + 3, none⟩) (by simp; omega)).trans f3; go_simp; try with_reducible rfl)
          try simp only [Act.put, List.setIfInBounds_toArray, List.set_cons_zero, List.set_cons_succ]
          refine rb_take 21 (some 86) (v := ?_) rfl rfl (by kernel_rfl) (by kernel_rfl) (by kernel_rfl) (by kernel_rfl) ?_ ?_
          rotate_left
          focus (intro w' hw'; go_simp; try with_reducible rfl)
          try simp only [Act.put, List.setIfInBounds_toArray, List.set_cons_zero, List.set_cons_succ]
          refine rb_take 22 (some 87) (v := ?_) rfl rfl (by kernel_rfl) (by kernel_rfl) (by kernel_rfl) (by kernel_rfl) ?_ ?_
          rotate_left
          focus (intro w' hw'; go_simp; try with_reducible rfl)
          try simp only [Act.put, List.setIfInBounds_toArray, List.set_cons_zero, List.set_cons_succ]
          refine rb_take 23 (some 88) (v := ?_) rfl rfl (by kernel_rfl) (by kernel_rfl) (by kernel_rfl) (by kernel_rfl) ?_ ?_
          rotate_left
          focus (intro w' hw'; go_simp; try with_reducible rfl)
          try simp only [Act.put, List.setIfInBounds_toArray, List.set_cons_zero, List.set_cons_succ]
          refine rb_done (Nat.le_refl _) (by kernel_rfl) ?_
          go_wp2_with fail
          refine (turn_next_c g (s + 1) _ hTy).mono ?_
          rintro e w12 ⟨rfl, rfl⟩
          go_wp2_with fail
          go_roundw
          case rel => exact ⟨k + 1, s + 1, by omega, by omega, by go_num, rfl, by omega, by omega, hTy, hby⟩
          case measure => (simp [intOf] <;> omega)
    · have hb2 : ¬ ((k : Int) < rows.length ∧ (k : Int) < 40) := by omega
      by_cases h1 : (k : Int) < rows.length
      · have h2 : ¬ (k : Int) < 40 := by omega
        clear hb2 hlt
        go_wp2_with fail
        refine (turn_pick_nil_c _ _ _ _).mono ?_
        rintro e wf ⟨rfl, hbf⟩
        have hbg := (hbel.alloc hbel.size (.cells #[.int .i64 0, .int .i64 0, .int .i64 0, .int .u32 0] 34)).trans (hbf.mono (by have := hbel.size; simp; omega))
        have hbh := hbg.alloc hbg.size (.cells #[.int .i64 0, .int .i64 0, .int .i64 0, .int .u32 0] 34)
        go_wp2_with fail
        refine (turn_next_nil_c _).mono ?_
        rintro e wh ⟨rfl, rfl⟩
        go_wp2_with fail
        refine (turn_awake_c _).mono ?_
        rintro e wi ⟨rfl, hbi⟩
        go_wp2
        go_ret
        exact ⟨rfl, hbh.trans (hbi.mono hbh.size)⟩
      · clear hb2 hlt
        go_wp2_with fail
        refine (turn_pick_nil_c _ _ _ _).mono ?_
        rintro e wf ⟨rfl, hbf⟩
        have hbg := (hbel.alloc hbel.size (.cells #[.int .i64 0, .int .i64 0, .int .i64 0, .int .u32 0] 34)).trans (hbf.mono (by have := hbel.size; simp; omega))
        have hbh := hbg.alloc hbg.size (.cells #[.int .i64 0, .int .i64 0, .int .i64 0, .int .u32 0] 34)
        go_wp2_with fail
        refine (turn_next_nil_c _).mono ?_
        rintro e wh ⟨rfl, rfl⟩
        go_wp2_with fail
        refine (turn_awake_c _).mono ?_
        rintro e wi ⟨rfl, hbi⟩
        go_wp2
        go_ret
        exact ⟨rfl, hbh.trans (hbi.mono hbh.size)⟩

open Go.ChangeShapes Go.WideShapes Go.ChangeAt in
set_option maxRecDepth 100000 in
theorem walk {H : Type} {enc : TypeId × Value → H} {r : Reach} {b0 : Nat} {d : DataW H} {ps : List MemPlace} (v : Value) (w : World)
    (hval : Value.okWide Try.prog w r b0 22 v) (hd : DataW.Trod enc Try.prog w 0 (fun _ => true) true 22 v d ps) (hlt : ∀ x ∈ ps, x.block < w.heap.size) :
    Calls Try.prog 3 #[v] w fun e w' => e = .returned (.bool true) ∧ Below w.heap.size w w' := by
  obtain ⟨A, c, rows, rfl, hc, hcm, hv, hrs⟩ := open_candss hval hd hlt
  exact walk_ A c rows w hv hrs hc hcm
end Go.Proofs.Ytakmcbgfglnanaa.TurnPicks
