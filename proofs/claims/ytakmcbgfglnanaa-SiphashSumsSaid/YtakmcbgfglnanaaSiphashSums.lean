
/- Proved: SiphashSums returns true for every key and bytes, and changes no memory that was there. Conditions: none. -/
import Derived.Test.YtakmcbgfglnanaaSipAwake
namespace Go.Proofs.Ytakmcbgfglnanaa.SiphashSums
open Go.RowKit

set_option maxRecDepth 100000 in
set_option maxHeartbeats 2000000 in
theorem walk_ (kl : List Nat) (h16 : kl.length = 16) (hkb : Bytes kl) (A : Option Addr) (n c : Nat) (l : List Nat) (w : World) (hn : l.length = n) (hA : A = none → c = 0) (hv : BView w w.heap.size A l) (hnc : n ≤ c) :
    Calls Try.prog 11 #[keyV kl, .slice A n c] w fun e w' => e = .returned (.bool true) ∧ Below w.heap.size w w' := by
  subst hn
  have hb0 := (Below.refl w.heap.size w).alloc (Nat.le_refl _) (.cells (kl.map u8v).toArray 105)
  have hK := Arr.new w 105 (kl.map u8v)
  have hv0 := (hv.below hb0).more hb0.size
  obtain ⟨V, HVV⟩ : ∃ x, Hid (sipV kl l = x) := ⟨_, Lib.hid rfl⟩
  have HS := Lib.hid (show ∀ w c, BView w w.heap.size A l → l.length ≤ 1000000 → l.length ≤ c → Calls Try.prog 58 #[keyV kl, .slice A l.length c] w (fun e w' => e = .returned (.int .u64 V) ∧ Below w.heap.size w w') from fun w c hv h1 h2 => by rw [← HVV.out]; exact sip_sum_c kl A c l w h16 hkb hv h1 h2)
  have HR := Lib.hid (show ∀ w c, BView w w.heap.size A l → l.length ≤ 1000000 → l.length ≤ c → (A = none → c = 0) → Calls Try.prog 59 #[keyV kl, .slice A l.length c] w (fun e w' => e = .returned (.int .u64 V) ∧ Below w.heap.size w w') from fun w c hv h1 h2 h3 => by rw [← HVV.out, ← sip_same hv.bytes]; exact ref_sip_c kl A c l w h16 hkb hv h1 h2 h3)
  have hB0 : w.heap.size + 1 ≤ (w.alloc (.cells (kl.map u8v).toArray 105)).heap.size := by simp
  clear HVV
  obtain ⟨k0, k1, k2, k3, k4, k5, k6, k7, k8, k9, k10, k11, k12, k13, k14, k15, rfl⟩ := list16 h16
  unfold keyV at HS HR ⊢
  simp only [List.map_cons, List.map_nil] at hb0 hK hv0 HS HR hB0 ⊢
  have HV0 := Lib.hid hv0
  have HKA := Lib.hid hK
  clear hK hv0
  by_cases hlong : 3000 < l.length
  · have h1 : (3000 : Int) < (l.length : Int) := by omega
    by_cases hbig : l.length ≤ 9223372036854775807
    · go_enter Try.func11, Try.ntmps11
      go_wp2_with fail
      refine (sip_awake_c _).mono ?_
      rintro e w1 ⟨rfl, hb1⟩
      go_wp2
      go_ret
      exact ⟨rfl, hb0.trans (hb1.mono hb0.size)⟩
    · go_enter Try.func11, Try.ntmps11
      go_wp2_with fail
      refine (sip_awake_c _).mono ?_
      rintro e w1 ⟨rfl, hb1⟩
      go_wp2
      go_ret
      exact ⟨rfl, hb0.trans (hb1.mono hb0.size)⟩
  · have h1 : ¬ (3000 : Int) < (l.length : Int) := by omega
    have hl3 : (l.length : Int) ≤ 3000 := by omega
    go_enter Try.func11, Try.ntmps11
    go_wp2_with fail
    refine rb_start_at (w.heap.size+1) (by assumption) (by kernel_rfl) (fun wx hwx hBwx => ?_)
    have hbx := hb0.trans (hwx.mono hb0.size)
    have hKx := (show Arr _ w.heap.size 105 _ from HKA.out).below hwx (by simp)
    have hvx := Lib.hid ((HV0.out.below hwx).more hwx.size)
    have k0 := hKx.cell 0
    have k1 := hKx.cell 1
    have k2 := hKx.cell 2
    have k3 := hKx.cell 3
    have k4 := hKx.cell 4
    have k5 := hKx.cell 5
    have k6 := hKx.cell 6
    have k7 := hKx.cell 7
    have k8 := hKx.cell 8
    have k9 := hKx.cell 9
    have k10 := hKx.cell 10
    have k11 := hKx.cell 11
    have k12 := hKx.cell 12
    have k13 := hKx.cell 13
    have k14 := hKx.cell 14
    have k15 := hKx.cell 15
    simp only [List.getElem?_cons_zero, List.getElem?_cons_succ] at k0 k1 k2 k3 k4 k5 k6 k7 k8 k9 k10 k11 k12 k13 k14 k15
    refine rb_take 0 (some 9) (v := ?_) rfl rfl (by kernel_rfl) (by kernel_rfl) (by kernel_rfl) (by kernel_rfl) ?_ ?_
    rotate_left
    focus (intro w' hw'; have q0 := (hw'.cell (p := ⟨w.heap.size, 0, none⟩) (by simp)).trans k0; have q1 := (hw'.cell (p := ⟨w.heap.size, 1, none⟩) (by simp)).trans k1; have q2 := (hw'.cell (p := ⟨w.heap.size, 2, none⟩) (by simp)).trans k2; have q3 := (hw'.cell (p := ⟨w.heap.size, 3, none⟩) (by simp)).trans k3; have q4 := (hw'.cell (p := ⟨w.heap.size, 4, none⟩) (by simp)).trans k4; have q5 := (hw'.cell (p := ⟨w.heap.size, 5, none⟩) (by simp)).trans k5; have q6 := (hw'.cell (p := ⟨w.heap.size, 6, none⟩) (by simp)).trans k6; have q7 := (hw'.cell (p := ⟨w.heap.size, 7, none⟩) (by simp)).trans k7; have q8 := (hw'.cell (p := ⟨w.heap.size, 8, none⟩) (by simp)).trans k8; have q9 := (hw'.cell (p := ⟨w.heap.size, 9, none⟩) (by simp)).trans k9; have q10 := (hw'.cell (p := ⟨w.heap.size, 10, none⟩) (by simp)).trans k10; have q11 := (hw'.cell (p := ⟨w.heap.size, 11, none⟩) (by simp)).trans k11; have q12 := (hw'.cell (p := ⟨w.heap.size, 12, none⟩) (by simp)).trans k12; have q13 := (hw'.cell (p := ⟨w.heap.size, 13, none⟩) (by simp)).trans k13; have q14 := (hw'.cell (p := ⟨w.heap.size, 14, none⟩) (by simp)).trans k14; have q15 := (hw'.cell (p := ⟨w.heap.size, 15, none⟩) (by simp)).trans k15; go_simp; try with_reducible rfl)
    try simp only [Act.put, List.setIfInBounds_toArray, List.set_cons_zero, List.set_cons_succ]
    refine rb_take 1 (some 10) (v := ?_) rfl rfl (by kernel_rfl) (by kernel_rfl) (by kernel_rfl) (by kernel_rfl) ?_ ?_
    rotate_left
    focus (intro w' hw'; go_simp; try with_reducible rfl)
    try simp only [Act.put, List.setIfInBounds_toArray, List.set_cons_zero, List.set_cons_succ]
    refine rb_take 3 (some 12) (v := ?_) rfl rfl (by kernel_rfl) (by kernel_rfl) (by kernel_rfl) (by kernel_rfl) ?_ ?_
    rotate_left
    focus (intro w' hw'; have q0 := (hw'.cell (p := ⟨w.heap.size, 0, none⟩) (by simp)).trans k0; have q1 := (hw'.cell (p := ⟨w.heap.size, 1, none⟩) (by simp)).trans k1; have q2 := (hw'.cell (p := ⟨w.heap.size, 2, none⟩) (by simp)).trans k2; have q3 := (hw'.cell (p := ⟨w.heap.size, 3, none⟩) (by simp)).trans k3; have q4 := (hw'.cell (p := ⟨w.heap.size, 4, none⟩) (by simp)).trans k4; have q5 := (hw'.cell (p := ⟨w.heap.size, 5, none⟩) (by simp)).trans k5; have q6 := (hw'.cell (p := ⟨w.heap.size, 6, none⟩) (by simp)).trans k6; have q7 := (hw'.cell (p := ⟨w.heap.size, 7, none⟩) (by simp)).trans k7; have q8 := (hw'.cell (p := ⟨w.heap.size, 8, none⟩) (by simp)).trans k8; have q9 := (hw'.cell (p := ⟨w.heap.size, 9, none⟩) (by simp)).trans k9; have q10 := (hw'.cell (p := ⟨w.heap.size, 10, none⟩) (by simp)).trans k10; have q11 := (hw'.cell (p := ⟨w.heap.size, 11, none⟩) (by simp)).trans k11; have q12 := (hw'.cell (p := ⟨w.heap.size, 12, none⟩) (by simp)).trans k12; have q13 := (hw'.cell (p := ⟨w.heap.size, 13, none⟩) (by simp)).trans k13; have q14 := (hw'.cell (p := ⟨w.heap.size, 14, none⟩) (by simp)).trans k14; have q15 := (hw'.cell (p := ⟨w.heap.size, 15, none⟩) (by simp)).trans k15; go_simp; try with_reducible rfl)
    try simp only [Act.put, List.setIfInBounds_toArray, List.set_cons_zero, List.set_cons_succ]
    refine rb_take 4 (some 13) (v := ?_) rfl rfl (by kernel_rfl) (by kernel_rfl) (by kernel_rfl) (by kernel_rfl) ?_ ?_
    rotate_left
    focus (intro w' hw'; go_simp; try with_reducible rfl)
    try simp only [Act.put, List.setIfInBounds_toArray, List.set_cons_zero, List.set_cons_succ]
    refine rb_keep 2 rfl (by kernel_rfl) (by kernel_rfl) (by first | assumption | exact hBB _ _) (fun K hK => ?_)
    go_simp
    first
      | (have hvy := hvx.out; refine (HS.out _ c hvy (by omega) hnc).mono ?_)
      | (have hvy := hvz.out; refine (HS.out _ c hvy (by omega) hnc).mono ?_)
    clear hvy
    rintro e w5 ⟨rfl, hb5⟩
    refine hK.out _ _ (hb5.mono (by assumption)) ?_
    clear hK K
    first
      | (have hvz := Lib.hid ((hvx.out.below hb5).more hb5.size); have hbz := hbx.trans (hb5.mono hbx.size); have hBz : w.heap.size + 1 ≤ w5.heap.size := Nat.le_trans hBwx hb5.size)
      | (have hby := hbz.trans (hb5.mono hbz.size); have hBy : w.heap.size + 1 ≤ w5.heap.size := Nat.le_trans hBz hb5.size)
    try simp only [Act.put, List.setIfInBounds_toArray, List.set_cons_zero, List.set_cons_succ]
    refine rb_keep 5 rfl (by kernel_rfl) (by kernel_rfl) (by first | assumption | exact hBB _ _) (fun K hK => ?_)
    go_simp
    first
      | (have hvy := hvx.out; refine (HR.out _ c hvy (by omega) hnc hA).mono ?_)
      | (have hvy := hvz.out; refine (HR.out _ c hvy (by omega) hnc hA).mono ?_)
    clear hvy
    rintro e w6 ⟨rfl, hb6⟩
    refine hK.out _ _ (hb6.mono (by assumption)) ?_
    clear hK K
    first
      | (have hvz := Lib.hid ((hvx.out.below hb6).more hb6.size); have hbz := hbx.trans (hb6.mono hbx.size); have hBz : w.heap.size + 1 ≤ w6.heap.size := Nat.le_trans hBwx hb6.size)
      | (have hby := hbz.trans (hb6.mono hbz.size); have hBy : w.heap.size + 1 ≤ w6.heap.size := Nat.le_trans hBz hb6.size)
    try simp only [Act.put, List.setIfInBounds_toArray, List.set_cons_zero, List.set_cons_succ]
    refine rb_take 6 (some 15) (v := ?_) rfl rfl (by kernel_rfl) (by kernel_rfl) (by kernel_rfl) (by kernel_rfl) ?_ ?_
    rotate_left
    focus (intro w' hw'; go_simp; try with_reducible rfl)
    try simp only [Act.put, List.setIfInBounds_toArray, List.set_cons_zero, List.set_cons_succ]
    refine rb_take 7 (some 16) (v := ?_) rfl rfl (by kernel_rfl) (by kernel_rfl) (by kernel_rfl) (by kernel_rfl) ?_ ?_
    rotate_left
    focus (intro w' hw'; go_simp; try with_reducible rfl)
    try simp only [Act.put, List.setIfInBounds_toArray, List.set_cons_zero, List.set_cons_succ]
    refine rb_keep 8 rfl (by kernel_rfl) (by kernel_rfl) (by first | assumption | exact hBB _ _) (fun K hK => ?_)
    go_simp
    refine (sip_awake_c _).mono ?_
    rintro e w7 ⟨rfl, hb7⟩
    refine hK.out _ _ (hb7.mono (by assumption)) ?_
    clear hK K
    have hball := hby.trans (hb7.mono hby.size)
    have hBall : w.heap.size + 1 ≤ w7.heap.size := Nat.le_trans hBy hb7.size
    try simp only [Act.put, List.setIfInBounds_toArray, List.set_cons_zero, List.set_cons_succ]
    refine rb_take 9 (some 18) (v := ?_) rfl rfl (by kernel_rfl) (by kernel_rfl) (by kernel_rfl) (by kernel_rfl) ?_ ?_
    rotate_left
    focus (intro w' hw'; go_simp; try with_reducible rfl)
    try simp only [Act.put, List.setIfInBounds_toArray, List.set_cons_zero, List.set_cons_succ]
    refine rb_take 10 (some 4) (v := ?_) rfl rfl (by kernel_rfl) (by kernel_rfl) (by kernel_rfl) (by kernel_rfl) ?_ ?_
    rotate_left
    focus (intro w' hw'; go_simp; try with_reducible rfl)
    try simp only [Act.put, List.setIfInBounds_toArray, List.set_cons_zero, List.set_cons_succ]
    refine rb_done (by first | assumption | exact hBB _ _) (by kernel_rfl) ?_
    go_wp2
    go_ret
    exact ⟨rfl, hball⟩

open Go.ChangeShapes Go.WideShapes Go.ChangeAt in
set_option maxRecDepth 100000 in
theorem walk {H : Type} {enc : TypeId × Value → H} {r : Reach} {b0 : Nat} {d : DataW H} {ps : List MemPlace} (v : Value) (A : Option Addr) (n c : Nat) (l : List Nat) (w : World)
    (hval : Value.okWide Try.prog w r b0 105 v) (hd : DataW.Trod enc Try.prog w 0 (fun _ => true) true 105 v d ps)
    (hl : l.length = n ∧ (A = none → c = 0) ∧ BView w w.heap.size A l ∧ n ≤ c) :
    Calls Try.prog 11 #[v, .slice A n c] w fun e w' => e = .returned (.bool true) ∧ Below w.heap.size w w' := by
  obtain ⟨kl, rfl, h16, hb⟩ := open_key hval hd
  obtain ⟨h1, h2, h3, h4⟩ := hl
  exact walk_ kl h16 hb A n c l w h1 h2 h3 h4
end Go.Proofs.Ytakmcbgfglnanaa.SiphashSums
