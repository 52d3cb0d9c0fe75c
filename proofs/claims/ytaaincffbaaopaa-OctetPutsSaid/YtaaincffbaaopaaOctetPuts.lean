/- Proved: OctetPuts returns true for all slices, places, numbers and sizes, and changes no memory that was there. Conditions: none. -/
import Derived.Test.YtaaincffbaaopaaOctetAwake
import Derived.Test.YtaaincffbaaopaaRegion
import Derived.Deep.QuietTactic
import Derived.BigQuiet
namespace Go.Proofs.Ytaaincffbaaopaa.OctetPuts
open Go.RowKit

set_option maxRecDepth 100000 in
set_option maxHeartbeats 4000000 in
theorem walk (a0 : Option Addr) (n0 c0 : Nat) (l0 : List Nat) (a1 a2 a3 : Int) (a4 : Option Addr) (n4 c4 : Nat) (l4 : List Nat) (w : World)
    (w0 : l0.length = n0 ∧ (a0 = none → c0 = 0) ∧ BView w w.heap.size a0 l0 ∧ n0 ≤ c0) (w1 : -9223372036854775808 ≤ a1 ∧ a1 ≤ 9223372036854775807) (w2 : 0 ≤ a2 ∧ a2 < 18446744073709551616) (w3 : -9223372036854775808 ≤ a3 ∧ a3 ≤ 9223372036854775807)
    (w4 : l4.length = n4 ∧ (a4 = none → c4 = 0) ∧ BView w w.heap.size a4 l4 ∧ n4 ≤ c4) :
    Calls Try.prog 3 #[.slice a0 n0 c0, .int .i64 a1, .int .u64 a2, .int .i64 a3, .slice a4 n4 c4] w fun e w' => e = .returned (.bool true) ∧ Below w.heap.size w w' := by
  obtain ⟨rfl, hc0, hv0, _⟩ := w0
  obtain ⟨rfl, hc4, hv4, _⟩ := w4
  obtain ⟨N, rfl⟩ := Int.eq_ofNat_of_zero_le w2.1
  have hN : U64 N := U64.of (by omega)
  clear w2
  by_cases hb : (1000 : Int) < l0.length
  · go_enter Try.func3, Try.ntmps3
    go_wp2_with (go_at_call 15; refine (octet_awake_c _).mono ?_; rintro e w' ⟨rfl, hbel⟩)
    go_ret
    exact ⟨rfl, hbel⟩
  by_cases hc : (1000 : Int) < l4.length
  · go_enter Try.func3, Try.ntmps3
    go_wp2_with (go_at_call 15; refine (octet_awake_c _).mono ?_; rintro e w' ⟨rfl, hbel⟩)
    go_ret
    exact ⟨rfl, hbel⟩
  obtain ⟨sz, hsz⟩ : ∃ sz : Nat, (a3 ≤ 0 ∧ sz = 0) ∨ (a3 = sz ∧ 0 < sz ∧ sz ≤ 8) ∨ (8 < a3 ∧ sz = 8) := by
    by_cases h1 : a3 ≤ 0
    · exact ⟨0, .inl ⟨h1, rfl⟩⟩
    by_cases h2 : 8 < a3
    · exact ⟨8, .inr (.inr ⟨h2, rfl⟩)⟩
    · exact ⟨a3.toNat, .inr (.inl ⟨by omega, by omega, by omega⟩)⟩
  have hse := bstr_eql hv0.bytes hv4.bytes
  have hs0 : eqB l0 l0 = true := by simp [eqB]
  have hj : ∀ (g m : Nat), joined [(a0, l0, c0), (some ⟨g, 0, none⟩, be N sz, m)] = l0 ++ be N sz := fun g m => by simp [joined]
  have HJ := Lib.hid hj
  clear hj
  have hcv0 : ∀ W, Below w.heap.size w W → (convert 22 9 (.slice a0 l0.length c0)).run Try.prog W = .ok (.string (bstr l0)) W := fun W hW => run_bstr (hv0.below hW) rfl _ _ _ Try.underlying22 Try.underlying5 Try.underlying9
  have hcv4 : ∀ W, Below w.heap.size w W → (convert 22 9 (.slice a4 l4.length c4)).run Try.prog W = .ok (.string (bstr l4)) W := fun W hW => run_bstr (hv4.below hW) rfl _ _ _ Try.underlying22 Try.underlying5 Try.underlying9
  by_cases hbad : a3 < 1 ∨ 8 < a3 ∨ a1 < 0 ∨ (l0.length : Int) - a3 < a1
  · have HB := Lib.hid hbad
    have HS := Lib.hid hsz
    clear hsz
    go_enter Try.func3, Try.ntmps3
    go_upto_region 4 with (go_at_call 16; refine (set_bad _ _ l0 _ _ _ _ (by omega) w1 w3 HB.out).mono ?_; rintro e w' ⟨rfl, rfl⟩)
    go_cut [13] (fun s13 wx => s13 = .bool false ∧ w = wx)
    case first =>
      rcases hbad with h1 | h1 | h1 | h1
      · go_wp2
        go_meet; exact ⟨rfl, rfl⟩
      · go_wp2
        go_meet; exact ⟨rfl, rfl⟩
      · go_wp2
        all_goals (go_meet; exact ⟨rfl, rfl⟩)
      · by_cases h2 : a3 < 1
        · go_wp2
          all_goals (go_meet; exact ⟨rfl, rfl⟩)
        by_cases h3 : 8 < a3
        · go_wp2
          all_goals (go_meet; exact ⟨rfl, rfl⟩)
        by_cases h4 : a1 < 0
        · go_wp2
          all_goals (go_meet; exact ⟨rfl, rfl⟩)
        · go_wp2
          all_goals (go_meet; exact ⟨by simp; omega, rfl⟩)
    case rest =>
      obtain ⟨rfl, rfl⟩ := hcut
      clear hbad
      go_wp2
      go_quiet (fail)
      go_wp2
      obtain ⟨wz, hwz⟩ : ∃ wz, wz = w.drewN nq := ⟨_, rfl⟩
      have hbz : Below w.heap.size w wz := by rw [hwz]; exact (Below.refl _ _).trans ⟨rfl, rfl, rfl, Nat.le_refl _, fun _ _ => rfl⟩
      rw [← hwz]
      clear hwz
      refine rb_start (by kernel_rfl) (fun wx hwx => ?_)
      have hbx := hbz.trans (hwx.mono hbz.size)
      have hv0x := hv0.step hbx
      have hv4x := hv4.step hbx
      refine rb_take 0 (some 79) (v := ?_) rfl rfl (by kernel_rfl) (by kernel_rfl) (by kernel_rfl) (by kernel_rfl) ?_ ?_
      rotate_left
      focus (intro w' hw'; go_simp; try with_reducible rfl)
      try simp only [Act.put, List.setIfInBounds_toArray, List.set_cons_zero, List.set_cons_succ]
      refine rb_take 1 (some 80) (v := ?_) rfl rfl (by kernel_rfl) (by kernel_rfl) (by kernel_rfl) (by kernel_rfl) ?_ ?_
      rotate_left
      focus (intro w' hw'; go_simp; try with_reducible rfl)
      try simp only [Act.put, List.setIfInBounds_toArray, List.set_cons_zero, List.set_cons_succ]
      refine rb_take 2 (some 81) (v := ?_) rfl rfl (by kernel_rfl) (by kernel_rfl) (by kernel_rfl) (by kernel_rfl) ?_ ?_
      rotate_left
      focus (intro w' hw'; go_simp; try with_reducible rfl)
      try simp only [Act.put, List.setIfInBounds_toArray, List.set_cons_zero, List.set_cons_succ]
      refine rb_take 5 (some 84) (v := ?_) rfl rfl (by kernel_rfl) (by kernel_rfl) (by kernel_rfl) (by kernel_rfl) ?_ ?_
      rotate_left
      focus (intro w' hw'; go_simp; try with_reducible rfl)
      try simp only [Act.put, List.setIfInBounds_toArray, List.set_cons_zero, List.set_cons_succ]
      refine rb_take 6 (some 85) (v := ?_) rfl rfl (by kernel_rfl) (by kernel_rfl) (by kernel_rfl) (by kernel_rfl) ?_ ?_
      rotate_left
      focus (intro w' hw'; go_simp; try with_reducible rfl)
      try simp only [Act.put, List.setIfInBounds_toArray, List.set_cons_zero, List.set_cons_succ]
      refine rb_take 7 (some 86) (v := ?_) rfl rfl (by kernel_rfl) (by kernel_rfl) (by kernel_rfl) (by kernel_rfl) ?_ ?_
      rotate_left
      focus (intro w' hw'; go_simp; try with_reducible rfl)
      try simp only [Act.put, List.setIfInBounds_toArray, List.set_cons_zero, List.set_cons_succ]
      refine rb_step 3 rfl (by kernel_rfl) (by kernel_rfl) (Nat.le_refl _) (fun K hK => ?_)
      go_simp
      refine (put_c a0 c0 l0 N a3 sz _ _ hv0x (Nat.le_refl _) (by omega) hN HS.out).mono ?_
      rintro e wp ⟨g1, rfl, hg1, hA1, hb1, hy1⟩
      refine hK.out _ _ hb1 ?_
      clear hK K
      have hv0p := hv0x.step hb1
      have hv4p := hv4x.step hb1
      have hp1 := BView.of_arr hy1 hA1.out hA1.out.lt
      try simp only [Act.put, List.setIfInBounds_toArray, List.set_cons_zero, List.set_cons_succ]
      refine rb_take 4 (some 83) (v := .string (bstr (l0 ++ be N sz))) rfl rfl (by kernel_rfl) (by kernel_rfl) (by kernel_rfl) (by kernel_rfl) ?_ ?_
      focus (intro w' hw'; exact exec_bstr (l0 ++ be N sz).length (.tmp 82) _ _ rfl (by kernel_rfl) (hp1.step hw') rfl _ Try.underlying22 Try.underlying5 Try.underlying9 rfl)
      try simp only [Act.put, List.setIfInBounds_toArray, List.set_cons_zero, List.set_cons_succ]
      refine rb_step 8 rfl (by kernel_rfl) (by kernel_rfl) (Nat.le_refl _) (fun K hK => ?_)
      go_simp
      refine (ref_bytes_c N a3 sz _ hN HS.out).mono ?_
      rintro e wq ⟨g2, rfl, hg2, hA2, hb2, hy2⟩
      refine hK.out _ _ hb2 ?_
      clear hK K
      have hv0q := hv0p.step hb2
      have hv4q := hv4p.step hb2
      have hp2 := BView.of_arr hy2 hA2.out hA2.out.lt
      try simp only [Act.put, List.setIfInBounds_toArray, List.set_cons_zero, List.set_cons_succ]
      refine rb_step 9 rfl (by kernel_rfl) (by kernel_rfl) (Nat.le_refl _) (fun K hK => ?_)
      go_simp
      have hb3 : Below wq.heap.size wq (wq.alloc (.cells #[.slice a0 l0.length c0, .slice (some ⟨g2, 0, none⟩) (be N sz).length (be N sz).length] 22)) := (Below.refl _ _).alloc (Nat.le_refl _) _
      refine hK.out _ _ hb3 ?_
      clear hK K
      have hv0r := hv0q.step hb3
      have hv4r := hv4q.step hb3
      have hp2r := hp2.step hb3
      have hrow : View (wq.alloc (.cells #[.slice a0 l0.length c0, .slice (some ⟨g2, 0, none⟩) (be N sz).length (be N sz).length] 22)) (wq.heap.size + 1) (some ⟨wq.heap.size, 0, none⟩) ([(a0, l0, c0), (some ⟨g2, 0, none⟩, be N sz, (be N sz).length)].map rowV) := (Arr.new wq 22 [.slice a0 l0.length c0, .slice (some ⟨g2, 0, none⟩) (be N sz).length (be N sz).length]).view (by omega)
      generalize hwa : wq.alloc (.cells #[.slice a0 l0.length c0, .slice (some ⟨g2, 0, none⟩) (be N sz).length (be N sz).length] 22) = wa at hb3 hv0r hv4r hp2r hrow ⊢
      have hsza : wq.heap.size + 1 = wa.heap.size := by rw [← hwa]; simp
      clear hwa
      try simp only [Act.put, List.setIfInBounds_toArray, List.set_cons_zero, List.set_cons_succ]
      refine rb_step 10 rfl (by kernel_rfl) (by kernel_rfl) (Nat.le_refl _) (fun K hK => ?_)
      go_simp
      refine (join_c (some ⟨wq.heap.size, 0, none⟩) 2 [(a0, l0, c0), (some ⟨g2, 0, none⟩, be N sz, (be N sz).length)] _ _ (by rw [hsza] at hrow; exact hrow) (by intro r hr; simp at hr; rcases hr with rfl | rfl <;> first | exact ⟨hv0r, hc0⟩ | exact ⟨hp2r, by intro h; cases h⟩) (Nat.le_refl _) (by simp) (by rw [HJ.out]; simp [be_length]; have := HS.out; omega)).mono ?_
      rintro e wj ⟨A4, c4', rfl, hc4', hj4, hb4⟩
      rw [HJ.out] at hj4 ⊢
      refine hK.out _ _ hb4 ?_
      clear hK K
      have hv0j := hv0r.step hb4
      have hv4j := hv4r.step hb4
      try simp only [Act.put, List.setIfInBounds_toArray, List.set_cons_zero, List.set_cons_succ]
      refine rb_take 11 (some 90) (v := .string (bstr (l0 ++ be N sz))) rfl rfl (by kernel_rfl) (by kernel_rfl) (by kernel_rfl) (by kernel_rfl) ?_ ?_
      focus (intro w' hw'; exact exec_bstr c4' (.tmp 89) _ _ rfl (by kernel_rfl) (hj4.step hw') rfl _ Try.underlying22 Try.underlying5 Try.underlying9 rfl)
      try simp only [Act.put, List.setIfInBounds_toArray, List.set_cons_zero, List.set_cons_succ]
      refine rb_take 12 (some 91) (v := ?_) rfl rfl (by kernel_rfl) (by kernel_rfl) (by kernel_rfl) (by kernel_rfl) ?_ ?_
      rotate_left
      focus (intro w' hw'; go_simp; try with_reducible rfl)
      try simp only [Act.put, List.setIfInBounds_toArray, List.set_cons_zero, List.set_cons_succ]
      refine rb_take 13 (some 92) (v := ?_) rfl rfl (by kernel_rfl) (by kernel_rfl) (by kernel_rfl) (by kernel_rfl) ?_ ?_
      rotate_left
      focus (intro w' hw'; go_simp; try with_reducible rfl)
      try simp only [Act.put, List.setIfInBounds_toArray, List.set_cons_zero, List.set_cons_succ]
      refine rb_take 14 (some 93) (v := ?_) rfl rfl (by kernel_rfl) (by kernel_rfl) (by kernel_rfl) (by kernel_rfl) ?_ ?_
      rotate_left
      focus (intro w' hw'; go_simp; try with_reducible rfl)
      try simp only [Act.put, List.setIfInBounds_toArray, List.set_cons_zero, List.set_cons_succ]
      refine rb_take 15 (some 94) (v := ?_) rfl rfl (by kernel_rfl) (by kernel_rfl) (by kernel_rfl) (by kernel_rfl) ?_ ?_
      rotate_left
      focus (intro w' hw'; go_simp; try with_reducible rfl)
      try simp only [Act.put, List.setIfInBounds_toArray, List.set_cons_zero, List.set_cons_succ]
      refine rb_take 17 (some 96) (v := ?_) rfl rfl (by kernel_rfl) (by kernel_rfl) (by kernel_rfl) (by kernel_rfl) ?_ ?_
      rotate_left
      focus (intro w' hw'; go_simp; try with_reducible rfl)
      try simp only [Act.put, List.setIfInBounds_toArray, List.set_cons_zero, List.set_cons_succ]
      refine rb_take 18 (some 97) (v := .string (bstr l0)) rfl rfl (by kernel_rfl) (by kernel_rfl) (by kernel_rfl) (by kernel_rfl) ?_ ?_
      focus (intro w' hw'; exact exec_bstr c0 (.tmp 96) _ _ rfl (by kernel_rfl) (hv0j.step hw') rfl _ Try.underlying22 Try.underlying5 Try.underlying9 rfl)
      try simp only [Act.put, List.setIfInBounds_toArray, List.set_cons_zero, List.set_cons_succ]
      refine rb_take 19 (some 98) (v := ?_) rfl rfl (by kernel_rfl) (by kernel_rfl) (by kernel_rfl) (by kernel_rfl) ?_ ?_
      rotate_left
      focus (intro w' hw'; go_simp; try with_reducible rfl)
      try simp only [Act.put, List.setIfInBounds_toArray, List.set_cons_zero, List.set_cons_succ]
      refine rb_take 20 (some 99) (v := .string (bstr l4)) rfl rfl (by kernel_rfl) (by kernel_rfl) (by kernel_rfl) (by kernel_rfl) ?_ ?_
      focus (intro w' hw'; exact exec_bstr c4 (.tmp 98) _ _ rfl (by kernel_rfl) (hv4j.step hw') rfl _ Try.underlying22 Try.underlying5 Try.underlying9 rfl)
      try simp only [Act.put, List.setIfInBounds_toArray, List.set_cons_zero, List.set_cons_succ]
      refine rb_take 21 (some 100) (v := ?_) rfl rfl (by kernel_rfl) (by kernel_rfl) (by kernel_rfl) (by kernel_rfl) ?_ ?_
      rotate_left
      focus (intro w' hw'; go_simp; try with_reducible rfl)
      try simp only [Act.put, List.setIfInBounds_toArray, List.set_cons_zero, List.set_cons_succ]
      refine rb_step 16 rfl (by kernel_rfl) (by kernel_rfl) (Nat.le_refl _) (fun K hK => ?_)
      go_simp
      refine (equal_c a0 a4 c0 c4 l0 l4 _ _ hv0j hv4j).mono ?_
      rintro e wk ⟨rfl, rfl⟩
      refine hK.out _ _ (Below.refl _ _) ?_
      clear hK K
      try simp only [Act.put, List.setIfInBounds_toArray, List.set_cons_zero, List.set_cons_succ]
      refine rb_take 22 (some 101) (v := ?_) rfl rfl (by kernel_rfl) (by kernel_rfl) (by kernel_rfl) (by kernel_rfl) ?_ ?_
      rotate_left
      focus (intro w' hw'; go_simp; try with_reducible rfl)
      try simp only [Act.put, List.setIfInBounds_toArray, List.set_cons_zero, List.set_cons_succ]
      refine rb_take 23 (some 102) (v := ?_) rfl rfl (by kernel_rfl) (by kernel_rfl) (by kernel_rfl) (by kernel_rfl) ?_ ?_
      rotate_left
      focus (intro w' hw'; go_simp; try with_reducible rfl)
      try simp only [Act.put, List.setIfInBounds_toArray, List.set_cons_zero, List.set_cons_succ]
      refine rb_take 24 (some 103) (v := ?_) rfl rfl (by kernel_rfl) (by kernel_rfl) (by kernel_rfl) (by kernel_rfl) ?_ ?_
      rotate_left
      focus (intro w' hw'; go_simp; try with_reducible rfl)
      try simp only [Act.put, List.setIfInBounds_toArray, List.set_cons_zero, List.set_cons_succ]
      refine rb_take 25 (some 104) (v := ?_) rfl rfl (by kernel_rfl) (by kernel_rfl) (by kernel_rfl) (by kernel_rfl) ?_ ?_
      rotate_left
      focus (intro w' hw'; go_simp; try with_reducible rfl)
      try simp only [Act.put, List.setIfInBounds_toArray, List.set_cons_zero, List.set_cons_succ]
      refine rb_take 26 (some 105) (v := ?_) rfl rfl (by kernel_rfl) (by kernel_rfl) (by kernel_rfl) (by kernel_rfl) ?_ ?_
      rotate_left
      focus (intro w' hw'; go_simp; try with_reducible rfl)
      try simp only [Act.put, List.setIfInBounds_toArray, List.set_cons_zero, List.set_cons_succ]
      refine rb_step 27 rfl (by kernel_rfl) (by kernel_rfl) (Nat.le_refl _) (fun K hK => ?_)
      go_simp
      refine (equal_c a0 a0 c0 c0 l0 l0 _ _ hv0j hv0j).mono ?_
      rintro e wk ⟨rfl, rfl⟩
      rw [hs0]
      refine hK.out _ _ (Below.refl _ _) ?_
      clear hK K
      try simp only [Act.put, List.setIfInBounds_toArray, List.set_cons_zero, List.set_cons_succ]
      refine rb_take 28 (some 107) (v := ?_) rfl rfl (by kernel_rfl) (by kernel_rfl) (by kernel_rfl) (by kernel_rfl) ?_ ?_
      rotate_left
      focus (intro w' hw'; go_simp; try with_reducible rfl)
      try simp only [Act.put, List.setIfInBounds_toArray, List.set_cons_zero, List.set_cons_succ]
      refine rb_take 29 (some 108) (v := ?_) rfl rfl (by kernel_rfl) (by kernel_rfl) (by kernel_rfl) (by kernel_rfl) ?_ ?_
      rotate_left
      focus (intro w' hw'; go_simp; try with_reducible rfl)
      try simp only [Act.put, List.setIfInBounds_toArray, List.set_cons_zero, List.set_cons_succ]
      refine rb_step 30 rfl (by kernel_rfl) (by kernel_rfl) (Nat.le_refl _) (fun K hK => ?_)
      go_simp
      refine (octet_awake_c _).mono ?_
      rintro e wl ⟨rfl, hb5⟩
      refine hK.out _ _ hb5 ?_
      clear hK K
      have hball : Below w.heap.size w wl := hbx.trans ((hb1.trans ((hb2.trans ((hb3.trans ((hb4.trans (hb5.mono hb4.size)).mono hb3.size)).mono hb2.size)).mono hb1.size)).mono hbx.size)
      try simp only [Act.put, List.setIfInBounds_toArray, List.set_cons_zero, List.set_cons_succ]
      refine rb_take 31 (some 110) (v := ?_) rfl rfl (by kernel_rfl) (by kernel_rfl) (by kernel_rfl) (by kernel_rfl) ?_ ?_
      rotate_left
      focus (intro w' hw'; go_simp; try with_reducible rfl)
      try simp only [Act.put, List.setIfInBounds_toArray, List.set_cons_zero, List.set_cons_succ]
      refine rb_take 32 (some 10) (v := ?_) rfl rfl (by kernel_rfl) (by kernel_rfl) (by kernel_rfl) (by kernel_rfl) ?_ ?_
      rotate_left
      focus (intro w' hw'; go_simp; try with_reducible rfl)
      try simp only [Act.put, List.setIfInBounds_toArray, List.set_cons_zero, List.set_cons_succ]
      refine rb_done (Nat.le_refl _) (by kernel_rfl) ?_
      go_wp2
      go_ret
      exact ⟨rfl, hball⟩
  · have hk0 : 0 ≤ a1 := by omega
    obtain ⟨k, rfl⟩ := Int.eq_ofNat_of_zero_le hk0
    have hs3 : a3 = (sz : Int) ∧ 1 ≤ sz ∧ sz ≤ 8 := by omega
    obtain ⟨rfl, hs1, hs8⟩ := hs3
    have hks : k + sz ≤ l0.length := by omega
    have hkn : (k : Int) ≤ (l0.length : Int) - (sz : Int) := by omega
    have HS := Lib.hid hsz
    clear hsz hbad
    go_enter Try.func3, Try.ntmps3
    go_wp2_with (go_at_call 16; refine (set_ok a0 c0 l0 k sz N _ _ hv0 (Nat.le_refl _) (by omega) hN hs1 hs8 hks).mono ?_; rintro e wz ⟨A7, c7, rfl, hv7, hbz⟩)
    refine rb_start (by kernel_rfl) (fun wx hwx => ?_)
    have hbx0 := hbz.trans (hwx.mono hbz.size)
    have hv0x0 := hv0.step hbx0
    have hv7x0 := hv7.step hwx
    refine rb_take 0 (some 66) (v := ?_) rfl rfl (by kernel_rfl) (by kernel_rfl) (by kernel_rfl) (by kernel_rfl) ?_ ?_
    rotate_left
    focus (intro w' hw'; go_simp; try with_reducible rfl)
    try simp only [Act.put, List.setIfInBounds_toArray, List.set_cons_zero, List.set_cons_succ]
    refine rb_take 1 (some 67) (v := ?_) rfl rfl (by kernel_rfl) (by kernel_rfl) (by kernel_rfl) (by kernel_rfl) ?_ ?_
    rotate_left
    focus (intro w' hw'; go_simp; try with_reducible rfl)
    try simp only [Act.put, List.setIfInBounds_toArray, List.set_cons_zero, List.set_cons_succ]
    refine rb_take 2 (some 68) (v := ?_) rfl rfl (by kernel_rfl) (by kernel_rfl) (by kernel_rfl) (by kernel_rfl) ?_ ?_
    rotate_left
    focus (intro w' hw'; go_simp; try with_reducible rfl)
    try simp only [Act.put, List.setIfInBounds_toArray, List.set_cons_zero, List.set_cons_succ]
    refine rb_take 3 (some 69) (v := .string (bstr (setAt l0 (be N sz) k))) rfl rfl (by kernel_rfl) (by kernel_rfl) (by kernel_rfl) (by kernel_rfl) ?_ ?_
    focus (intro w' hw'; exact exec_bstr c7 (.tmp 68) _ _ rfl (by kernel_rfl) (hv7x0.step hw') rfl _ Try.underlying22 Try.underlying5 Try.underlying9 rfl)
    try simp only [Act.put, List.setIfInBounds_toArray, List.set_cons_zero, List.set_cons_succ]
    refine rb_take 4 (some 70) (v := ?_) rfl rfl (by kernel_rfl) (by kernel_rfl) (by kernel_rfl) (by kernel_rfl) ?_ ?_
    rotate_left
    focus (intro w' hw'; go_simp; try with_reducible rfl)
    try simp only [Act.put, List.setIfInBounds_toArray, List.set_cons_zero, List.set_cons_succ]
    refine rb_take 5 (some 71) (v := ?_) rfl rfl (by kernel_rfl) (by kernel_rfl) (by kernel_rfl) (by kernel_rfl) ?_ ?_
    rotate_left
    focus (intro w' hw'; go_simp; try with_reducible rfl)
    try simp only [Act.put, List.setIfInBounds_toArray, List.set_cons_zero, List.set_cons_succ]
    refine rb_take 6 (some 72) (v := ?_) rfl rfl (by kernel_rfl) (by kernel_rfl) (by kernel_rfl) (by kernel_rfl) ?_ ?_
    rotate_left
    focus (intro w' hw'; go_simp; try with_reducible rfl)
    try simp only [Act.put, List.setIfInBounds_toArray, List.set_cons_zero, List.set_cons_succ]
    refine rb_take 7 (some 73) (v := ?_) rfl rfl (by kernel_rfl) (by kernel_rfl) (by kernel_rfl) (by kernel_rfl) ?_ ?_
    rotate_left
    focus (intro w' hw'; go_simp; try with_reducible rfl)
    try simp only [Act.put, List.setIfInBounds_toArray, List.set_cons_zero, List.set_cons_succ]
    refine rb_step 8 rfl (by kernel_rfl) (by kernel_rfl) (Nat.le_refl _) (fun K hK => ?_)
    go_simp
    refine (ref_bytes_c N (sz : Int) sz _ hN (.inr (.inl ⟨rfl, hs1, hs8⟩))).mono ?_
    rintro e wq ⟨g2, rfl, hg2, hA2, hb2, hy2⟩
    refine hK.out _ _ hb2 ?_
    clear hK K
    have hv0q0 := hv0x0.step hb2
    have hp20 := BView.of_arr hy2 hA2.out hA2.out.lt
    try simp only [Act.put, List.setIfInBounds_toArray, List.set_cons_zero, List.set_cons_succ]
    refine rb_step 9 rfl (by kernel_rfl) (by kernel_rfl) (Nat.le_refl _) (fun K hK => ?_)
    go_simp
    refine (ref_set_c a0 (some ⟨g2, 0, none⟩) c0 _ k l0 (be N sz) _ _ hv0q0 hp20 hc0 (Nat.le_refl _) (by rw [be_length]; exact hks) (by omega)).mono ?_
    rintro e wr ⟨A8, c8, rfl, hc8, hv8, hb8⟩
    refine hK.out _ _ hb8 ?_
    clear hK K
    try simp only [Act.put, List.setIfInBounds_toArray, List.set_cons_zero, List.set_cons_succ]
    refine rb_take 10 (some 76) (v := .string (bstr (setAt l0 (be N sz) k))) rfl rfl (by kernel_rfl) (by kernel_rfl) (by kernel_rfl) (by kernel_rfl) ?_ ?_
    focus (intro w' hw'; exact exec_bstr c8 (.tmp 75) _ _ rfl (by kernel_rfl) (hv8.step hw') rfl _ Try.underlying22 Try.underlying5 Try.underlying9 rfl)
    try simp only [Act.put, List.setIfInBounds_toArray, List.set_cons_zero, List.set_cons_succ]
    refine rb_take 11 (some 77) (v := ?_) rfl rfl (by kernel_rfl) (by kernel_rfl) (by kernel_rfl) (by kernel_rfl) ?_ ?_
    rotate_left
    focus (intro w' hw'; go_simp; try with_reducible rfl)
    try simp only [Act.put, List.setIfInBounds_toArray, List.set_cons_zero, List.set_cons_succ]
    refine rb_take 12 (some 78) (v := ?_) rfl rfl (by kernel_rfl) (by kernel_rfl) (by kernel_rfl) (by kernel_rfl) ?_ ?_
    rotate_left
    focus (intro w' hw'; go_simp; try with_reducible rfl)
    try simp only [Act.put, List.setIfInBounds_toArray, List.set_cons_zero, List.set_cons_succ]
    refine rb_done (Nat.le_refl _) (by kernel_rfl) ?_
    have hbz2 : Below w.heap.size w wr := hbx0.trans ((hb2.trans (hb8.mono hb2.size)).mono hbx0.size)
    go_wp2
    refine rb_start (by kernel_rfl) (fun wx hwx => ?_)
    have hbx := hbz2.trans (hwx.mono hbz2.size)
    have hv0x := hv0.step hbx
    have hv4x := hv4.step hbx
    refine rb_take 0 (some 79) (v := ?_) rfl rfl (by kernel_rfl) (by kernel_rfl) (by kernel_rfl) (by kernel_rfl) ?_ ?_
    rotate_left
    focus (intro w' hw'; go_simp; try with_reducible rfl)
    try simp only [Act.put, List.setIfInBounds_toArray, List.set_cons_zero, List.set_cons_succ]
    refine rb_take 1 (some 80) (v := ?_) rfl rfl (by kernel_rfl) (by kernel_rfl) (by kernel_rfl) (by kernel_rfl) ?_ ?_
    rotate_left
    focus (intro w' hw'; go_simp; try with_reducible rfl)
    try simp only [Act.put, List.setIfInBounds_toArray, List.set_cons_zero, List.set_cons_succ]
    refine rb_take 2 (some 81) (v := ?_) rfl rfl (by kernel_rfl) (by kernel_rfl) (by kernel_rfl) (by kernel_rfl) ?_ ?_
    rotate_left
    focus (intro w' hw'; go_simp; try with_reducible rfl)
    try simp only [Act.put, List.setIfInBounds_toArray, List.set_cons_zero, List.set_cons_succ]
    refine rb_take 5 (some 84) (v := ?_) rfl rfl (by kernel_rfl) (by kernel_rfl) (by kernel_rfl) (by kernel_rfl) ?_ ?_
    rotate_left
    focus (intro w' hw'; go_simp; try with_reducible rfl)
    try simp only [Act.put, List.setIfInBounds_toArray, List.set_cons_zero, List.set_cons_succ]
    refine rb_take 6 (some 85) (v := ?_) rfl rfl (by kernel_rfl) (by kernel_rfl) (by kernel_rfl) (by kernel_rfl) ?_ ?_
    rotate_left
    focus (intro w' hw'; go_simp; try with_reducible rfl)
    try simp only [Act.put, List.setIfInBounds_toArray, List.set_cons_zero, List.set_cons_succ]
    refine rb_take 7 (some 86) (v := ?_) rfl rfl (by kernel_rfl) (by kernel_rfl) (by kernel_rfl) (by kernel_rfl) ?_ ?_
    rotate_left
    focus (intro w' hw'; go_simp; try with_reducible rfl)
    try simp only [Act.put, List.setIfInBounds_toArray, List.set_cons_zero, List.set_cons_succ]
    refine rb_step 3 rfl (by kernel_rfl) (by kernel_rfl) (Nat.le_refl _) (fun K hK => ?_)
    go_simp
    refine (put_c a0 c0 l0 N (sz : Int) sz _ _ hv0x (Nat.le_refl _) (by omega) hN (.inr (.inl ⟨rfl, hs1, hs8⟩))).mono ?_
    rintro e wp ⟨g1, rfl, hg1, hA1, hb1, hy1⟩
    refine hK.out _ _ hb1 ?_
    clear hK K
    have hv0p := hv0x.step hb1
    have hv4p := hv4x.step hb1
    have hp1 := BView.of_arr hy1 hA1.out hA1.out.lt
    try simp only [Act.put, List.setIfInBounds_toArray, List.set_cons_zero, List.set_cons_succ]
    refine rb_take 4 (some 83) (v := .string (bstr (l0 ++ be N sz))) rfl rfl (by kernel_rfl) (by kernel_rfl) (by kernel_rfl) (by kernel_rfl) ?_ ?_
    focus (intro w' hw'; exact exec_bstr (l0 ++ be N sz).length (.tmp 82) _ _ rfl (by kernel_rfl) (hp1.step hw') rfl _ Try.underlying22 Try.underlying5 Try.underlying9 rfl)
    try simp only [Act.put, List.setIfInBounds_toArray, List.set_cons_zero, List.set_cons_succ]
    refine rb_step 8 rfl (by kernel_rfl) (by kernel_rfl) (Nat.le_refl _) (fun K hK => ?_)
    go_simp
    refine (ref_bytes_c N (sz : Int) sz _ hN (.inr (.inl ⟨rfl, hs1, hs8⟩))).mono ?_
    rintro e wq ⟨g2, rfl, hg2, hA2, hb2, hy2⟩
    refine hK.out _ _ hb2 ?_
    clear hK K
    have hv0q := hv0p.step hb2
    have hv4q := hv4p.step hb2
    have hp2 := BView.of_arr hy2 hA2.out hA2.out.lt
    try simp only [Act.put, List.setIfInBounds_toArray, List.set_cons_zero, List.set_cons_succ]
    refine rb_step 9 rfl (by kernel_rfl) (by kernel_rfl) (Nat.le_refl _) (fun K hK => ?_)
    go_simp
    have hb3 : Below wq.heap.size wq (wq.alloc (.cells #[.slice a0 l0.length c0, .slice (some ⟨g2, 0, none⟩) (be N sz).length (be N sz).length] 22)) := (Below.refl _ _).alloc (Nat.le_refl _) _
    refine hK.out _ _ hb3 ?_
    clear hK K
    have hv0r := hv0q.step hb3
    have hv4r := hv4q.step hb3
    have hp2r := hp2.step hb3
    have hrow : View (wq.alloc (.cells #[.slice a0 l0.length c0, .slice (some ⟨g2, 0, none⟩) (be N sz).length (be N sz).length] 22)) (wq.heap.size + 1) (some ⟨wq.heap.size, 0, none⟩) ([(a0, l0, c0), (some ⟨g2, 0, none⟩, be N sz, (be N sz).length)].map rowV) := (Arr.new wq 22 [.slice a0 l0.length c0, .slice (some ⟨g2, 0, none⟩) (be N sz).length (be N sz).length]).view (by omega)
    generalize hwa : wq.alloc (.cells #[.slice a0 l0.length c0, .slice (some ⟨g2, 0, none⟩) (be N sz).length (be N sz).length] 22) = wa at hb3 hv0r hv4r hp2r hrow ⊢
    have hsza : wq.heap.size + 1 = wa.heap.size := by rw [← hwa]; simp
    clear hwa
    try simp only [Act.put, List.setIfInBounds_toArray, List.set_cons_zero, List.set_cons_succ]
    refine rb_step 10 rfl (by kernel_rfl) (by kernel_rfl) (Nat.le_refl _) (fun K hK => ?_)
    go_simp
    refine (join_c (some ⟨wq.heap.size, 0, none⟩) 2 [(a0, l0, c0), (some ⟨g2, 0, none⟩, be N sz, (be N sz).length)] _ _ (by rw [hsza] at hrow; exact hrow) (by intro r hr; simp at hr; rcases hr with rfl | rfl <;> first | exact ⟨hv0r, hc0⟩ | exact ⟨hp2r, by intro h; cases h⟩) (Nat.le_refl _) (by simp) (by rw [HJ.out]; simp [be_length]; omega)).mono ?_
    rintro e wj ⟨A4, c4', rfl, hc4', hj4, hb4⟩
    rw [HJ.out] at hj4 ⊢
    refine hK.out _ _ hb4 ?_
    clear hK K
    have hv0j := hv0r.step hb4
    have hv4j := hv4r.step hb4
    try simp only [Act.put, List.setIfInBounds_toArray, List.set_cons_zero, List.set_cons_succ]
    refine rb_take 11 (some 90) (v := .string (bstr (l0 ++ be N sz))) rfl rfl (by kernel_rfl) (by kernel_rfl) (by kernel_rfl) (by kernel_rfl) ?_ ?_
    focus (intro w' hw'; exact exec_bstr c4' (.tmp 89) _ _ rfl (by kernel_rfl) (hj4.step hw') rfl _ Try.underlying22 Try.underlying5 Try.underlying9 rfl)
    try simp only [Act.put, List.setIfInBounds_toArray, List.set_cons_zero, List.set_cons_succ]
    refine rb_take 12 (some 91) (v := ?_) rfl rfl (by kernel_rfl) (by kernel_rfl) (by kernel_rfl) (by kernel_rfl) ?_ ?_
    rotate_left
    focus (intro w' hw'; go_simp; try with_reducible rfl)
    try simp only [Act.put, List.setIfInBounds_toArray, List.set_cons_zero, List.set_cons_succ]
    refine rb_take 13 (some 92) (v := ?_) rfl rfl (by kernel_rfl) (by kernel_rfl) (by kernel_rfl) (by kernel_rfl) ?_ ?_
    rotate_left
    focus (intro w' hw'; go_simp; try with_reducible rfl)
    try simp only [Act.put, List.setIfInBounds_toArray, List.set_cons_zero, List.set_cons_succ]
    refine rb_take 14 (some 93) (v := ?_) rfl rfl (by kernel_rfl) (by kernel_rfl) (by kernel_rfl) (by kernel_rfl) ?_ ?_
    rotate_left
    focus (intro w' hw'; go_simp; try with_reducible rfl)
    try simp only [Act.put, List.setIfInBounds_toArray, List.set_cons_zero, List.set_cons_succ]
    refine rb_take 15 (some 94) (v := ?_) rfl rfl (by kernel_rfl) (by kernel_rfl) (by kernel_rfl) (by kernel_rfl) ?_ ?_
    rotate_left
    focus (intro w' hw'; go_simp; try with_reducible rfl)
    try simp only [Act.put, List.setIfInBounds_toArray, List.set_cons_zero, List.set_cons_succ]
    refine rb_take 17 (some 96) (v := ?_) rfl rfl (by kernel_rfl) (by kernel_rfl) (by kernel_rfl) (by kernel_rfl) ?_ ?_
    rotate_left
    focus (intro w' hw'; go_simp; try with_reducible rfl)
    try simp only [Act.put, List.setIfInBounds_toArray, List.set_cons_zero, List.set_cons_succ]
    refine rb_take 18 (some 97) (v := .string (bstr l0)) rfl rfl (by kernel_rfl) (by kernel_rfl) (by kernel_rfl) (by kernel_rfl) ?_ ?_
    focus (intro w' hw'; exact exec_bstr c0 (.tmp 96) _ _ rfl (by kernel_rfl) (hv0j.step hw') rfl _ Try.underlying22 Try.underlying5 Try.underlying9 rfl)
    try simp only [Act.put, List.setIfInBounds_toArray, List.set_cons_zero, List.set_cons_succ]
    refine rb_take 19 (some 98) (v := ?_) rfl rfl (by kernel_rfl) (by kernel_rfl) (by kernel_rfl) (by kernel_rfl) ?_ ?_
    rotate_left
    focus (intro w' hw'; go_simp; try with_reducible rfl)
    try simp only [Act.put, List.setIfInBounds_toArray, List.set_cons_zero, List.set_cons_succ]
    refine rb_take 20 (some 99) (v := .string (bstr l4)) rfl rfl (by kernel_rfl) (by kernel_rfl) (by kernel_rfl) (by kernel_rfl) ?_ ?_
    focus (intro w' hw'; exact exec_bstr c4 (.tmp 98) _ _ rfl (by kernel_rfl) (hv4j.step hw') rfl _ Try.underlying22 Try.underlying5 Try.underlying9 rfl)
    try simp only [Act.put, List.setIfInBounds_toArray, List.set_cons_zero, List.set_cons_succ]
    refine rb_take 21 (some 100) (v := ?_) rfl rfl (by kernel_rfl) (by kernel_rfl) (by kernel_rfl) (by kernel_rfl) ?_ ?_
    rotate_left
    focus (intro w' hw'; go_simp; try with_reducible rfl)
    try simp only [Act.put, List.setIfInBounds_toArray, List.set_cons_zero, List.set_cons_succ]
    refine rb_step 16 rfl (by kernel_rfl) (by kernel_rfl) (Nat.le_refl _) (fun K hK => ?_)
    go_simp
    refine (equal_c a0 a4 c0 c4 l0 l4 _ _ hv0j hv4j).mono ?_
    rintro e wk ⟨rfl, rfl⟩
    refine hK.out _ _ (Below.refl _ _) ?_
    clear hK K
    try simp only [Act.put, List.setIfInBounds_toArray, List.set_cons_zero, List.set_cons_succ]
    refine rb_take 22 (some 101) (v := ?_) rfl rfl (by kernel_rfl) (by kernel_rfl) (by kernel_rfl) (by kernel_rfl) ?_ ?_
    rotate_left
    focus (intro w' hw'; go_simp; try with_reducible rfl)
    try simp only [Act.put, List.setIfInBounds_toArray, List.set_cons_zero, List.set_cons_succ]
    refine rb_take 23 (some 102) (v := ?_) rfl rfl (by kernel_rfl) (by kernel_rfl) (by kernel_rfl) (by kernel_rfl) ?_ ?_
    rotate_left
    focus (intro w' hw'; go_simp; try with_reducible rfl)
    try simp only [Act.put, List.setIfInBounds_toArray, List.set_cons_zero, List.set_cons_succ]
    refine rb_take 24 (some 103) (v := ?_) rfl rfl (by kernel_rfl) (by kernel_rfl) (by kernel_rfl) (by kernel_rfl) ?_ ?_
    rotate_left
    focus (intro w' hw'; go_simp; try with_reducible rfl)
    try simp only [Act.put, List.setIfInBounds_toArray, List.set_cons_zero, List.set_cons_succ]
    refine rb_take 25 (some 104) (v := ?_) rfl rfl (by kernel_rfl) (by kernel_rfl) (by kernel_rfl) (by kernel_rfl) ?_ ?_
    rotate_left
    focus (intro w' hw'; go_simp; try with_reducible rfl)
    try simp only [Act.put, List.setIfInBounds_toArray, List.set_cons_zero, List.set_cons_succ]
    refine rb_take 26 (some 105) (v := ?_) rfl rfl (by kernel_rfl) (by kernel_rfl) (by kernel_rfl) (by kernel_rfl) ?_ ?_
    rotate_left
    focus (intro w' hw'; go_simp; try with_reducible rfl)
    try simp only [Act.put, List.setIfInBounds_toArray, List.set_cons_zero, List.set_cons_succ]
    refine rb_step 27 rfl (by kernel_rfl) (by kernel_rfl) (Nat.le_refl _) (fun K hK => ?_)
    go_simp
    refine (equal_c a0 a0 c0 c0 l0 l0 _ _ hv0j hv0j).mono ?_
    rintro e wk ⟨rfl, rfl⟩
    rw [hs0]
    refine hK.out _ _ (Below.refl _ _) ?_
    clear hK K
    try simp only [Act.put, List.setIfInBounds_toArray, List.set_cons_zero, List.set_cons_succ]
    refine rb_take 28 (some 107) (v := ?_) rfl rfl (by kernel_rfl) (by kernel_rfl) (by kernel_rfl) (by kernel_rfl) ?_ ?_
    rotate_left
    focus (intro w' hw'; go_simp; try with_reducible rfl)
    try simp only [Act.put, List.setIfInBounds_toArray, List.set_cons_zero, List.set_cons_succ]
    refine rb_take 29 (some 108) (v := ?_) rfl rfl (by kernel_rfl) (by kernel_rfl) (by kernel_rfl) (by kernel_rfl) ?_ ?_
    rotate_left
    focus (intro w' hw'; go_simp; try with_reducible rfl)
    try simp only [Act.put, List.setIfInBounds_toArray, List.set_cons_zero, List.set_cons_succ]
    refine rb_step 30 rfl (by kernel_rfl) (by kernel_rfl) (Nat.le_refl _) (fun K hK => ?_)
    go_simp
    refine (octet_awake_c _).mono ?_
    rintro e wl ⟨rfl, hb5⟩
    refine hK.out _ _ hb5 ?_
    clear hK K
    have hball : Below w.heap.size w wl := hbx.trans ((hb1.trans ((hb2.trans ((hb3.trans ((hb4.trans (hb5.mono hb4.size)).mono hb3.size)).mono hb2.size)).mono hb1.size)).mono hbx.size)
    try simp only [Act.put, List.setIfInBounds_toArray, List.set_cons_zero, List.set_cons_succ]
    refine rb_take 31 (some 110) (v := ?_) rfl rfl (by kernel_rfl) (by kernel_rfl) (by kernel_rfl) (by kernel_rfl) ?_ ?_
    rotate_left
    focus (intro w' hw'; go_simp; try with_reducible rfl)
    try simp only [Act.put, List.setIfInBounds_toArray, List.set_cons_zero, List.set_cons_succ]
    refine rb_take 32 (some 10) (v := ?_) rfl rfl (by kernel_rfl) (by kernel_rfl) (by kernel_rfl) (by kernel_rfl) ?_ ?_
    rotate_left
    focus (intro w' hw'; go_simp; try with_reducible rfl)
    try simp only [Act.put, List.setIfInBounds_toArray, List.set_cons_zero, List.set_cons_succ]
    refine rb_done (Nat.le_refl _) (by kernel_rfl) ?_
    go_wp2
    go_ret
    exact ⟨rfl, hball⟩
end Go.Proofs.Ytaaincffbaaopaa.OctetPuts
