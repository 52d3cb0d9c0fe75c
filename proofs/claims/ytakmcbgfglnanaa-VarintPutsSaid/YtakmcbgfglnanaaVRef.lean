
/- The reference's Take of varint by a contract. Conditions: bounds on lengths. -/
import Derived.Test.YtakmcbgfglnanaaVTake
import Derived.Test.YtakmcbgfglnanaaRegion
namespace Go.Proofs.Ytakmcbgfglnanaa
open Go.RowKit

def RTakeOK (w : World) (l : List Nat) (e : Ending) (w' : World) : Prop :=
  e = .returned (.tuple #[.int .u64 (vval l : Nat), .int .i64 (vsz l : Nat)]) ∧ Below w.heap.size w w'
def RTakeNo (w : World) (e : Ending) (w' : World) : Prop :=
  e = .returned (.tuple #[.int .u64 0, .int .i64 0]) ∧ Below w.heap.size w w'
theorem ref_num_n (A : Option Addr) (c : Nat) (l : List Nat) (n : Nat) (w : World) (B : Nat) (hv : BView w B A l) (hn : l.length = n) (h8 : n ≤ 8) :
    Calls Try.prog 92 #[.slice A n c] w fun e w' => e = .returned (.int .u64 (numBE l : Nat)) ∧ w = w' := by
  subst hn
  exact ref_num_c A c l w B hv h8
theorem View.take' {w : World} {B : Nat} {A : Option Addr} {l : List Nat} (h : View w B A (l.map u8v)) (k : Nat) : View w B A ((l.take k).map u8v) := by
  rw [List.map_take]; exact h.take k
set_option maxRecDepth 100000 in
set_option maxHeartbeats 2000000 in
theorem ref_vTake_c (A : Option Addr) (c : Nat) (l : List Nat) (w : World) (hv : BView w w.heap.size A l) (hl : l.length ≤ 1000000) (hlc : l.length ≤ c) :
    Calls Try.prog 50 #[.slice A l.length c] w fun e w' => (VOk l ∧ RTakeOK w l e w') ∨ (¬ VOk l ∧ RTakeNo w e w') := by
  by_cases hpos : 0 < l.length
  · obtain ⟨f, HF⟩ : ∃ f, Hid (nth l 0 = f) := ⟨_, Lib.hid rfl⟩
    have hf : f < 256 := by rw [← HF.out]; exact nth_lt hv.bytes 0
    have hfi : (0 : Int) ≤ (f : Int) ∧ (f : Int) < 256 := by omega
    obtain ⟨x, HX1⟩ : ∃ x, Hid (f % 64 = x) := ⟨_, Lib.hid rfl⟩
    have HX := Lib.hid (show (f : Int).tmod 64 = (x : Int) by rw [Int.tmod_eq_emod_of_nonneg (by omega), ← HX1.out]; omega)
    have hww : w.heap.size ≤ w.heap.size := Nat.le_refl _
    have HX2 := Lib.hid (show x < 64 by rw [← HX1.out]; omega)
    obtain ⟨bb, o, rfl, hbb, hcell⟩ := hv.at_ hpos
    have hc0 := hcell 0 hpos
    rw [HF.out, Nat.add_zero] at hc0
    have hl0 : ((l.length : Int) == 0) = false := by rw [beq_eq_false_iff_ne]; omega
    have hl1 : ¬ l.length = 0 := by omega
    have hl2 : (0 : Int) < (l.length : Int) ∧ (l.length : Int) ≤ 1000000 := by omega
    have hl3 : (l.length : Int) ≤ (c : Int) := by omega
    clear hcell
    have hq : f / 64 = 0 ∨ f / 64 = 1 ∨ f / 64 = 2 ∨ f / 64 = 3 := by omega
    rcases hq with hq | hq | hq | hq
    · have hq1 : (f : Int) / 64 = 0 := by omega
      have HV := Lib.hid (show vsz l = 1 ∧ vval l = x * 256 ^ 0 + numBE ((l.drop 1).take 0) by
        have e : f / 64 = 0 := by omega
        have e2 : vsz l = 1 := by unfold vsz; rw [HF.out, e]
        exact ⟨e2, by unfold vval; rw [e2, HF.out, HX1.out]⟩)
      have HQ := Lib.hid hq1
      clear hq1 hf
      by_cases hfit : 1 ≤ l.length
      · have hfi2 : ¬ (l.length : Int) < 1 := by omega
        have hcc : (1 : Int) ≤ (c : Int) := by omega
        have hvc := hv.cut (k := 1) (c := c) hlc
        have HLN := Lib.hid (show (((l.drop 1).take 0).map u8v).length = 0 by simp <;> omega)
        have HLN2 := Lib.hid (show ((l.drop 1).take 0).length = 0 by simp <;> omega)
        by_cases hc1 : c = 1
        · rw [if_pos hc1] at hvc
          have HVD := Lib.hid hvc
          clear hvc
          go_enter Try.func50, Try.ntmps50
          go_wp2_with fail
          rw [HQ.out]
          refine (power_lit 0 1 w (by omega) (by decide)).mono ?_
          rintro e w1 ⟨rfl, rfl⟩
          go_wp2_with fail
          refine rb_start_at (w.heap.size) (by assumption) (by kernel_rfl) (fun wx hwx hBwx => ?_)
          have p0 := (hwx.cell (p := ⟨bb, o, none⟩) (by simpa using hbb)).trans hc0
          have hvx := HVD.out.below hwx
          have hBa : ∀ o', w.heap.size ≤ (wx.alloc o').heap.size := by intro o'; simp; omega
          refine rb_take 0 (some 20) (v := ?_) rfl rfl (by kernel_rfl) (by kernel_rfl) (by kernel_rfl) (by kernel_rfl) ?_ ?_
          rotate_left
          focus (intro w' hw'; go_simp; try with_reducible rfl)
          try simp only [Act.put, List.setIfInBounds_toArray, List.set_cons_zero, List.set_cons_succ]
          refine rb_take 1 (some 21) (v := ?_) rfl rfl (by kernel_rfl) (by kernel_rfl) (by kernel_rfl) (by kernel_rfl) ?_ ?_
          rotate_left
          focus (intro w' hw'; go_simp; try with_reducible rfl)
          try simp only [Act.put, List.setIfInBounds_toArray, List.set_cons_zero, List.set_cons_succ]
          refine rb_take 2 (some 22) (v := ?_) rfl rfl (by kernel_rfl) (by kernel_rfl) (by kernel_rfl) (by kernel_rfl) ?_ ?_
          rotate_left
          focus (intro w' hw'; have q := (hw'.cell (p := ⟨bb, o, none⟩) (by simpa using hbb)).trans p0; go_simp; try with_reducible rfl)
          try simp only [Act.put, List.setIfInBounds_toArray, List.set_cons_zero, List.set_cons_succ]
          refine rb_take 3 (some 23) (v := ?_) rfl rfl (by kernel_rfl) (by kernel_rfl) (by kernel_rfl) (by kernel_rfl) ?_ ?_
          rotate_left
          focus (intro w' hw'; go_simp; first | rw [HX.out] | with_reducible rfl)
          try simp only [Act.put, List.setIfInBounds_toArray, List.set_cons_zero, List.set_cons_succ]
          refine rb_take 5 (some 25) (v := ?_) rfl rfl (by kernel_rfl) (by kernel_rfl) (by kernel_rfl) (by kernel_rfl) ?_ ?_
          rotate_left
          focus (intro w' hw'; go_simp; try with_reducible rfl)
          try simp only [Act.put, List.setIfInBounds_toArray, List.set_cons_zero, List.set_cons_succ]
          refine rb_take 6 (some 26) (v := ?_) rfl rfl (by kernel_rfl) (by kernel_rfl) (by kernel_rfl) (by kernel_rfl) ?_ ?_
          rotate_left
          focus (intro w' hw'; go_simp; try with_reducible rfl)
          try simp only [Act.put, List.setIfInBounds_toArray, List.set_cons_zero, List.set_cons_succ]
          refine rb_take 7 (some 27) (v := ?_) rfl rfl (by kernel_rfl) (by kernel_rfl) (by kernel_rfl) (by kernel_rfl) ?_ ?_
          rotate_left
          focus (intro w' hw'; go_simp; try with_reducible rfl)
          try simp only [Act.put, List.setIfInBounds_toArray, List.set_cons_zero, List.set_cons_succ]
          refine rb_keep 4 rfl (by kernel_rfl) (by kernel_rfl) (by first | assumption | exact hBB _ _) (fun K hK => ?_)
          go_simp
          refine hK.out _ _ ((Below.refl _ _).alloc hBwx _) ?_
          clear hK K
          have hBa1 : w.heap.size ≤ (wx.alloc (.cells #[.int .u8 (x : Int)] 5)).heap.size := hBa _
          try simp only [Act.put, List.setIfInBounds_toArray, List.set_cons_zero, List.set_cons_succ]
          refine rb_keep 8 rfl (by kernel_rfl) (by kernel_rfl) (by first | assumption | exact hBB _ _) (fun K hK => ?_)
          refine owp_append1 _ _ _ rfl wx.heap.size 5 (.int .u8 0) 1 rfl Try.underlying80 u8info _ 1 _ _ rfl (Own.lit wx 5 #[.int .u8 (x : Int)] 1 (by decide) rfl) w.heap.size _ 0 _ (((l.drop 1).take 0).map u8v) rfl ((hvx.view.take' 0).alloc hBwx _) HLN.out (u8v_one _) (by unfold maxLen; omega) (by omega) (by simp) w.heap.size w (hwx.alloc hBwx _) hBwx hBa1 ?_
          intro A5 c5 w5 hown5 hb5 hbz
          refine hK.out _ _ hbz ?_
          clear hK K
          have hB5 := hb5.size
          try simp only [Act.put, List.setIfInBounds_toArray, List.set_cons_zero, List.set_cons_succ]
          refine rb_take 9 (some 5) (v := ?_) rfl rfl (by kernel_rfl) (by kernel_rfl) (by kernel_rfl) (by kernel_rfl) ?_ ?_
          rotate_left
          focus (intro w' hw'; go_simp; try with_reducible rfl)
          try simp only [Act.put, List.setIfInBounds_toArray, List.set_cons_zero, List.set_cons_succ]
          refine rb_done (by first | assumption | exact hBB _ _) (by kernel_rfl) ?_
          have hv5 : BView w5 w5.heap.size A5 (x :: (l.drop 1).take 0) := Own.bview (l := x :: (l.drop 1).take 0) hown5.out (Bytes.cons (by have := HX2.out; omega) ((hv.bytes.drop 1).take 0))
          have HV5 := Lib.hid hv5
          clear hv5 hown5
          go_wp2_with fail
          refine (ref_num_n A5 c5 (x :: (l.drop 1).take 0) 1 w5 _ HV5.out (by rw [List.length_cons, HLN2.out]) (by omega)).mono ?_
          rintro e w6 ⟨rfl, rfl⟩
          rw [show ((numBE (x :: (l.drop 1).take 0) : Nat) : Int) = ((vval l : Nat) : Int) by rw [HV.out.2, numBE_cons, HLN2.out]]
          go_wp2
          go_ret2
          refine .inl ⟨⟨hpos, by rw [HV.out.1]; exact hfit⟩, ?_, hb5⟩
          rw [HV.out.1]
          rfl
        · rw [if_neg hc1] at hvc
          have HVD := Lib.hid hvc
          clear hvc
          go_enter Try.func50, Try.ntmps50
          go_wp2_with fail
          rw [HQ.out]
          refine (power_lit 0 1 w (by omega) (by decide)).mono ?_
          rintro e w1 ⟨rfl, rfl⟩
          go_wp2_with fail
          refine rb_start_at (w.heap.size) (by assumption) (by kernel_rfl) (fun wx hwx hBwx => ?_)
          have p0 := (hwx.cell (p := ⟨bb, o, none⟩) (by simpa using hbb)).trans hc0
          have hvx := HVD.out.below hwx
          have hBa : ∀ o', w.heap.size ≤ (wx.alloc o').heap.size := by intro o'; simp; omega
          refine rb_take 0 (some 20) (v := ?_) rfl rfl (by kernel_rfl) (by kernel_rfl) (by kernel_rfl) (by kernel_rfl) ?_ ?_
          rotate_left
          focus (intro w' hw'; go_simp; try with_reducible rfl)
          try simp only [Act.put, List.setIfInBounds_toArray, List.set_cons_zero, List.set_cons_succ]
          refine rb_take 1 (some 21) (v := ?_) rfl rfl (by kernel_rfl) (by kernel_rfl) (by kernel_rfl) (by kernel_rfl) ?_ ?_
          rotate_left
          focus (intro w' hw'; go_simp; try with_reducible rfl)
          try simp only [Act.put, List.setIfInBounds_toArray, List.set_cons_zero, List.set_cons_succ]
          refine rb_take 2 (some 22) (v := ?_) rfl rfl (by kernel_rfl) (by kernel_rfl) (by kernel_rfl) (by kernel_rfl) ?_ ?_
          rotate_left
          focus (intro w' hw'; have q := (hw'.cell (p := ⟨bb, o, none⟩) (by simpa using hbb)).trans p0; go_simp; try with_reducible rfl)
          try simp only [Act.put, List.setIfInBounds_toArray, List.set_cons_zero, List.set_cons_succ]
          refine rb_take 3 (some 23) (v := ?_) rfl rfl (by kernel_rfl) (by kernel_rfl) (by kernel_rfl) (by kernel_rfl) ?_ ?_
          rotate_left
          focus (intro w' hw'; go_simp; first | rw [HX.out] | with_reducible rfl)
          try simp only [Act.put, List.setIfInBounds_toArray, List.set_cons_zero, List.set_cons_succ]
          refine rb_take 5 (some 25) (v := ?_) rfl rfl (by kernel_rfl) (by kernel_rfl) (by kernel_rfl) (by kernel_rfl) ?_ ?_
          rotate_left
          focus (intro w' hw'; go_simp; try with_reducible rfl)
          try simp only [Act.put, List.setIfInBounds_toArray, List.set_cons_zero, List.set_cons_succ]
          refine rb_take 6 (some 26) (v := ?_) rfl rfl (by kernel_rfl) (by kernel_rfl) (by kernel_rfl) (by kernel_rfl) ?_ ?_
          rotate_left
          focus (intro w' hw'; go_simp; try with_reducible rfl)
          try simp only [Act.put, List.setIfInBounds_toArray, List.set_cons_zero, List.set_cons_succ]
          refine rb_take 7 (some 27) (v := ?_) rfl rfl (by kernel_rfl) (by kernel_rfl) (by kernel_rfl) (by kernel_rfl) ?_ ?_
          rotate_left
          focus (intro w' hw'; go_simp; try with_reducible rfl)
          try simp only [Act.put, List.setIfInBounds_toArray, List.set_cons_zero, List.set_cons_succ]
          refine rb_keep 4 rfl (by kernel_rfl) (by kernel_rfl) (by first | assumption | exact hBB _ _) (fun K hK => ?_)
          go_simp
          refine hK.out _ _ ((Below.refl _ _).alloc hBwx _) ?_
          clear hK K
          have hBa1 : w.heap.size ≤ (wx.alloc (.cells #[.int .u8 (x : Int)] 5)).heap.size := hBa _
          try simp only [Act.put, List.setIfInBounds_toArray, List.set_cons_zero, List.set_cons_succ]
          refine rb_keep 8 rfl (by kernel_rfl) (by kernel_rfl) (by first | assumption | exact hBB _ _) (fun K hK => ?_)
          refine owp_append1 _ _ _ rfl wx.heap.size 5 (.int .u8 0) 1 rfl Try.underlying80 u8info _ 1 _ _ rfl (Own.lit wx 5 #[.int .u8 (x : Int)] 1 (by decide) rfl) w.heap.size _ 0 _ (((l.drop 1).take 0).map u8v) rfl ((hvx.view.take' 0).alloc hBwx _) HLN.out (u8v_one _) (by unfold maxLen; omega) (by omega) (by simp) w.heap.size w (hwx.alloc hBwx _) hBwx hBa1 ?_
          intro A5 c5 w5 hown5 hb5 hbz
          refine hK.out _ _ hbz ?_
          clear hK K
          have hB5 := hb5.size
          try simp only [Act.put, List.setIfInBounds_toArray, List.set_cons_zero, List.set_cons_succ]
          refine rb_take 9 (some 5) (v := ?_) rfl rfl (by kernel_rfl) (by kernel_rfl) (by kernel_rfl) (by kernel_rfl) ?_ ?_
          rotate_left
          focus (intro w' hw'; go_simp; try with_reducible rfl)
          try simp only [Act.put, List.setIfInBounds_toArray, List.set_cons_zero, List.set_cons_succ]
          refine rb_done (by first | assumption | exact hBB _ _) (by kernel_rfl) ?_
          have hv5 : BView w5 w5.heap.size A5 (x :: (l.drop 1).take 0) := Own.bview (l := x :: (l.drop 1).take 0) hown5.out (Bytes.cons (by have := HX2.out; omega) ((hv.bytes.drop 1).take 0))
          have HV5 := Lib.hid hv5
          clear hv5 hown5
          go_wp2_with fail
          refine (ref_num_n A5 c5 (x :: (l.drop 1).take 0) 1 w5 _ HV5.out (by rw [List.length_cons, HLN2.out]) (by omega)).mono ?_
          rintro e w6 ⟨rfl, rfl⟩
          rw [show ((numBE (x :: (l.drop 1).take 0) : Nat) : Int) = ((vval l : Nat) : Int) by rw [HV.out.2, numBE_cons, HLN2.out]]
          go_wp2
          go_ret2
          refine .inl ⟨⟨hpos, by rw [HV.out.1]; exact hfit⟩, ?_, hb5⟩
          rw [HV.out.1]
          rfl
      · have hfi2 : (l.length : Int) < 1 := by omega
        go_enter Try.func50, Try.ntmps50
        go_wp2_with fail
        rw [HQ.out]
        refine (power_lit 0 1 w (by omega) (by decide)).mono ?_
        rintro e w1 ⟨rfl, rfl⟩
        go_wp2
        go_ret2
        exact .inr ⟨fun h => by have := h.2; rw [HV.out.1] at this; omega, rfl, Below.refl _ _⟩
    · have hq1 : (f : Int) / 64 = 1 := by omega
      have HV := Lib.hid (show vsz l = 2 ∧ vval l = x * 256 ^ 1 + numBE ((l.drop 1).take 1) by
        have e : f / 64 = 1 := by omega
        have e2 : vsz l = 2 := by unfold vsz; rw [HF.out, e]
        exact ⟨e2, by unfold vval; rw [e2, HF.out, HX1.out]⟩)
      have HQ := Lib.hid hq1
      clear hq1 hf
      by_cases hfit : 2 ≤ l.length
      · have hfi2 : ¬ (l.length : Int) < 2 := by omega
        have hcc : (2 : Int) ≤ (c : Int) := by omega
        have hvc := hv.cut (k := 1) (c := c) hlc
        have HLN := Lib.hid (show (((l.drop 1).take 1).map u8v).length = 1 by simp <;> omega)
        have HLN2 := Lib.hid (show ((l.drop 1).take 1).length = 1 by simp <;> omega)
        have hc1 : ¬ c = 1 := by omega
        rw [if_neg hc1] at hvc
        have HVD := Lib.hid hvc
        clear hvc
        go_enter Try.func50, Try.ntmps50
        go_wp2_with fail
        rw [HQ.out]
        refine (power_lit 1 2 w (by omega) (by decide)).mono ?_
        rintro e w1 ⟨rfl, rfl⟩
        go_wp2_with fail
        refine rb_start_at (w.heap.size) (by assumption) (by kernel_rfl) (fun wx hwx hBwx => ?_)
        have p0 := (hwx.cell (p := ⟨bb, o, none⟩) (by simpa using hbb)).trans hc0
        have hvx := HVD.out.below hwx
        have hBa : ∀ o', w.heap.size ≤ (wx.alloc o').heap.size := by intro o'; simp; omega
        refine rb_take 0 (some 20) (v := ?_) rfl rfl (by kernel_rfl) (by kernel_rfl) (by kernel_rfl) (by kernel_rfl) ?_ ?_
        rotate_left
        focus (intro w' hw'; go_simp; try with_reducible rfl)
        try simp only [Act.put, List.setIfInBounds_toArray, List.set_cons_zero, List.set_cons_succ]
        refine rb_take 1 (some 21) (v := ?_) rfl rfl (by kernel_rfl) (by kernel_rfl) (by kernel_rfl) (by kernel_rfl) ?_ ?_
        rotate_left
        focus (intro w' hw'; go_simp; try with_reducible rfl)
        try simp only [Act.put, List.setIfInBounds_toArray, List.set_cons_zero, List.set_cons_succ]
        refine rb_take 2 (some 22) (v := ?_) rfl rfl (by kernel_rfl) (by kernel_rfl) (by kernel_rfl) (by kernel_rfl) ?_ ?_
        rotate_left
        focus (intro w' hw'; have q := (hw'.cell (p := ⟨bb, o, none⟩) (by simpa using hbb)).trans p0; go_simp; try with_reducible rfl)
        try simp only [Act.put, List.setIfInBounds_toArray, List.set_cons_zero, List.set_cons_succ]
        refine rb_take 3 (some 23) (v := ?_) rfl rfl (by kernel_rfl) (by kernel_rfl) (by kernel_rfl) (by kernel_rfl) ?_ ?_
        rotate_left
        focus (intro w' hw'; go_simp; first | rw [HX.out] | with_reducible rfl)
        try simp only [Act.put, List.setIfInBounds_toArray, List.set_cons_zero, List.set_cons_succ]
        refine rb_take 5 (some 25) (v := ?_) rfl rfl (by kernel_rfl) (by kernel_rfl) (by kernel_rfl) (by kernel_rfl) ?_ ?_
        rotate_left
        focus (intro w' hw'; go_simp; try with_reducible rfl)
        try simp only [Act.put, List.setIfInBounds_toArray, List.set_cons_zero, List.set_cons_succ]
        refine rb_take 6 (some 26) (v := ?_) rfl rfl (by kernel_rfl) (by kernel_rfl) (by kernel_rfl) (by kernel_rfl) ?_ ?_
        rotate_left
        focus (intro w' hw'; go_simp; try with_reducible rfl)
        try simp only [Act.put, List.setIfInBounds_toArray, List.set_cons_zero, List.set_cons_succ]
        refine rb_take 7 (some 27) (v := ?_) rfl rfl (by kernel_rfl) (by kernel_rfl) (by kernel_rfl) (by kernel_rfl) ?_ ?_
        rotate_left
        focus (intro w' hw'; go_simp; try with_reducible rfl)
        try simp only [Act.put, List.setIfInBounds_toArray, List.set_cons_zero, List.set_cons_succ]
        refine rb_keep 4 rfl (by kernel_rfl) (by kernel_rfl) (by first | assumption | exact hBB _ _) (fun K hK => ?_)
        go_simp
        refine hK.out _ _ ((Below.refl _ _).alloc hBwx _) ?_
        clear hK K
        have hBa1 : w.heap.size ≤ (wx.alloc (.cells #[.int .u8 (x : Int)] 5)).heap.size := hBa _
        try simp only [Act.put, List.setIfInBounds_toArray, List.set_cons_zero, List.set_cons_succ]
        refine rb_keep 8 rfl (by kernel_rfl) (by kernel_rfl) (by first | assumption | exact hBB _ _) (fun K hK => ?_)
        refine owp_append1 _ _ _ rfl wx.heap.size 5 (.int .u8 0) 1 rfl Try.underlying80 u8info _ 1 _ _ rfl (Own.lit wx 5 #[.int .u8 (x : Int)] 1 (by decide) rfl) w.heap.size _ 1 _ (((l.drop 1).take 1).map u8v) rfl ((hvx.view.take' 1).alloc hBwx _) HLN.out (u8v_one _) (by unfold maxLen; omega) (by omega) (by simp) w.heap.size w (hwx.alloc hBwx _) hBwx hBa1 ?_
        intro A5 c5 w5 hown5 hb5 hbz
        refine hK.out _ _ hbz ?_
        clear hK K
        have hB5 := hb5.size
        try simp only [Act.put, List.setIfInBounds_toArray, List.set_cons_zero, List.set_cons_succ]
        refine rb_take 9 (some 5) (v := ?_) rfl rfl (by kernel_rfl) (by kernel_rfl) (by kernel_rfl) (by kernel_rfl) ?_ ?_
        rotate_left
        focus (intro w' hw'; go_simp; try with_reducible rfl)
        try simp only [Act.put, List.setIfInBounds_toArray, List.set_cons_zero, List.set_cons_succ]
        refine rb_done (by first | assumption | exact hBB _ _) (by kernel_rfl) ?_
        have hv5 : BView w5 w5.heap.size A5 (x :: (l.drop 1).take 1) := Own.bview (l := x :: (l.drop 1).take 1) hown5.out (Bytes.cons (by have := HX2.out; omega) ((hv.bytes.drop 1).take 1))
        have HV5 := Lib.hid hv5
        clear hv5 hown5
        go_wp2_with fail
        refine (ref_num_n A5 c5 (x :: (l.drop 1).take 1) 2 w5 _ HV5.out (by rw [List.length_cons, HLN2.out]) (by omega)).mono ?_
        rintro e w6 ⟨rfl, rfl⟩
        rw [show ((numBE (x :: (l.drop 1).take 1) : Nat) : Int) = ((vval l : Nat) : Int) by rw [HV.out.2, numBE_cons, HLN2.out]]
        go_wp2
        go_ret2
        refine .inl ⟨⟨hpos, by rw [HV.out.1]; exact hfit⟩, ?_, hb5⟩
        rw [HV.out.1]
        rfl
      · have hfi2 : (l.length : Int) < 2 := by omega
        go_enter Try.func50, Try.ntmps50
        go_wp2_with fail
        rw [HQ.out]
        refine (power_lit 1 2 w (by omega) (by decide)).mono ?_
        rintro e w1 ⟨rfl, rfl⟩
        go_wp2
        go_ret2
        exact .inr ⟨fun h => by have := h.2; rw [HV.out.1] at this; omega, rfl, Below.refl _ _⟩
    · have hq1 : (f : Int) / 64 = 2 := by omega
      have HV := Lib.hid (show vsz l = 4 ∧ vval l = x * 256 ^ 3 + numBE ((l.drop 1).take 3) by
        have e : f / 64 = 2 := by omega
        have e2 : vsz l = 4 := by unfold vsz; rw [HF.out, e]
        exact ⟨e2, by unfold vval; rw [e2, HF.out, HX1.out]⟩)
      have HQ := Lib.hid hq1
      clear hq1 hf
      by_cases hfit : 4 ≤ l.length
      · have hfi2 : ¬ (l.length : Int) < 4 := by omega
        have hcc : (4 : Int) ≤ (c : Int) := by omega
        have hvc := hv.cut (k := 1) (c := c) hlc
        have HLN := Lib.hid (show (((l.drop 1).take 3).map u8v).length = 3 by simp <;> omega)
        have HLN2 := Lib.hid (show ((l.drop 1).take 3).length = 3 by simp <;> omega)
        have hc1 : ¬ c = 1 := by omega
        rw [if_neg hc1] at hvc
        have HVD := Lib.hid hvc
        clear hvc
        go_enter Try.func50, Try.ntmps50
        go_wp2_with fail
        rw [HQ.out]
        refine (power_lit 2 4 w (by omega) (by decide)).mono ?_
        rintro e w1 ⟨rfl, rfl⟩
        go_wp2_with fail
        refine rb_start_at (w.heap.size) (by assumption) (by kernel_rfl) (fun wx hwx hBwx => ?_)
        have p0 := (hwx.cell (p := ⟨bb, o, none⟩) (by simpa using hbb)).trans hc0
        have hvx := HVD.out.below hwx
        have hBa : ∀ o', w.heap.size ≤ (wx.alloc o').heap.size := by intro o'; simp; omega
        refine rb_take 0 (some 20) (v := ?_) rfl rfl (by kernel_rfl) (by kernel_rfl) (by kernel_rfl) (by kernel_rfl) ?_ ?_
        rotate_left
        focus (intro w' hw'; go_simp; try with_reducible rfl)
        try simp only [Act.put, List.setIfInBounds_toArray, List.set_cons_zero, List.set_cons_succ]
        refine rb_take 1 (some 21) (v := ?_) rfl rfl (by kernel_rfl) (by kernel_rfl) (by kernel_rfl) (by kernel_rfl) ?_ ?_
        rotate_left
        focus (intro w' hw'; go_simp; try with_reducible rfl)
        try simp only [Act.put, List.setIfInBounds_toArray, List.set_cons_zero, List.set_cons_succ]
        refine rb_take 2 (some 22) (v := ?_) rfl rfl (by kernel_rfl) (by kernel_rfl) (by kernel_rfl) (by kernel_rfl) ?_ ?_
        rotate_left
        focus (intro w' hw'; have q := (hw'.cell (p := ⟨bb, o, none⟩) (by simpa using hbb)).trans p0; go_simp; try with_reducible rfl)
        try simp only [Act.put, List.setIfInBounds_toArray, List.set_cons_zero, List.set_cons_succ]
        refine rb_take 3 (some 23) (v := ?_) rfl rfl (by kernel_rfl) (by kernel_rfl) (by kernel_rfl) (by kernel_rfl) ?_ ?_
        rotate_left
        focus (intro w' hw'; go_simp; first | rw [HX.out] | with_reducible rfl)
        try simp only [Act.put, List.setIfInBounds_toArray, List.set_cons_zero, List.set_cons_succ]
        refine rb_take 5 (some 25) (v := ?_) rfl rfl (by kernel_rfl) (by kernel_rfl) (by kernel_rfl) (by kernel_rfl) ?_ ?_
        rotate_left
        focus (intro w' hw'; go_simp; try with_reducible rfl)
        try simp only [Act.put, List.setIfInBounds_toArray, List.set_cons_zero, List.set_cons_succ]
        refine rb_take 6 (some 26) (v := ?_) rfl rfl (by kernel_rfl) (by kernel_rfl) (by kernel_rfl) (by kernel_rfl) ?_ ?_
        rotate_left
        focus (intro w' hw'; go_simp; try with_reducible rfl)
        try simp only [Act.put, List.setIfInBounds_toArray, List.set_cons_zero, List.set_cons_succ]
        refine rb_take 7 (some 27) (v := ?_) rfl rfl (by kernel_rfl) (by kernel_rfl) (by kernel_rfl) (by kernel_rfl) ?_ ?_
        rotate_left
        focus (intro w' hw'; go_simp; try with_reducible rfl)
        try simp only [Act.put, List.setIfInBounds_toArray, List.set_cons_zero, List.set_cons_succ]
        refine rb_keep 4 rfl (by kernel_rfl) (by kernel_rfl) (by first | assumption | exact hBB _ _) (fun K hK => ?_)
        go_simp
        refine hK.out _ _ ((Below.refl _ _).alloc hBwx _) ?_
        clear hK K
        have hBa1 : w.heap.size ≤ (wx.alloc (.cells #[.int .u8 (x : Int)] 5)).heap.size := hBa _
        try simp only [Act.put, List.setIfInBounds_toArray, List.set_cons_zero, List.set_cons_succ]
        refine rb_keep 8 rfl (by kernel_rfl) (by kernel_rfl) (by first | assumption | exact hBB _ _) (fun K hK => ?_)
        refine owp_append1 _ _ _ rfl wx.heap.size 5 (.int .u8 0) 1 rfl Try.underlying80 u8info _ 1 _ _ rfl (Own.lit wx 5 #[.int .u8 (x : Int)] 1 (by decide) rfl) w.heap.size _ 3 _ (((l.drop 1).take 3).map u8v) rfl ((hvx.view.take' 3).alloc hBwx _) HLN.out (u8v_one _) (by unfold maxLen; omega) (by omega) (by simp) w.heap.size w (hwx.alloc hBwx _) hBwx hBa1 ?_
        intro A5 c5 w5 hown5 hb5 hbz
        refine hK.out _ _ hbz ?_
        clear hK K
        have hB5 := hb5.size
        try simp only [Act.put, List.setIfInBounds_toArray, List.set_cons_zero, List.set_cons_succ]
        refine rb_take 9 (some 5) (v := ?_) rfl rfl (by kernel_rfl) (by kernel_rfl) (by kernel_rfl) (by kernel_rfl) ?_ ?_
        rotate_left
        focus (intro w' hw'; go_simp; try with_reducible rfl)
        try simp only [Act.put, List.setIfInBounds_toArray, List.set_cons_zero, List.set_cons_succ]
        refine rb_done (by first | assumption | exact hBB _ _) (by kernel_rfl) ?_
        have hv5 : BView w5 w5.heap.size A5 (x :: (l.drop 1).take 3) := Own.bview (l := x :: (l.drop 1).take 3) hown5.out (Bytes.cons (by have := HX2.out; omega) ((hv.bytes.drop 1).take 3))
        have HV5 := Lib.hid hv5
        clear hv5 hown5
        go_wp2_with fail
        refine (ref_num_n A5 c5 (x :: (l.drop 1).take 3) 4 w5 _ HV5.out (by rw [List.length_cons, HLN2.out]) (by omega)).mono ?_
        rintro e w6 ⟨rfl, rfl⟩
        rw [show ((numBE (x :: (l.drop 1).take 3) : Nat) : Int) = ((vval l : Nat) : Int) by rw [HV.out.2, numBE_cons, HLN2.out]]
        go_wp2
        go_ret2
        refine .inl ⟨⟨hpos, by rw [HV.out.1]; exact hfit⟩, ?_, hb5⟩
        rw [HV.out.1]
        rfl
      · have hfi2 : (l.length : Int) < 4 := by omega
        go_enter Try.func50, Try.ntmps50
        go_wp2_with fail
        rw [HQ.out]
        refine (power_lit 2 4 w (by omega) (by decide)).mono ?_
        rintro e w1 ⟨rfl, rfl⟩
        go_wp2
        go_ret2
        exact .inr ⟨fun h => by have := h.2; rw [HV.out.1] at this; omega, rfl, Below.refl _ _⟩
    · have hq1 : (f : Int) / 64 = 3 := by omega
      have HV := Lib.hid (show vsz l = 8 ∧ vval l = x * 256 ^ 7 + numBE ((l.drop 1).take 7) by
        have e : f / 64 = 3 := by omega
        have e2 : vsz l = 8 := by unfold vsz; rw [HF.out, e]
        exact ⟨e2, by unfold vval; rw [e2, HF.out, HX1.out]⟩)
      have HQ := Lib.hid hq1
      clear hq1 hf
      by_cases hfit : 8 ≤ l.length
      · have hfi2 : ¬ (l.length : Int) < 8 := by omega
        have hcc : (8 : Int) ≤ (c : Int) := by omega
        have hvc := hv.cut (k := 1) (c := c) hlc
        have HLN := Lib.hid (show (((l.drop 1).take 7).map u8v).length = 7 by simp <;> omega)
        have HLN2 := Lib.hid (show ((l.drop 1).take 7).length = 7 by simp <;> omega)
        have hc1 : ¬ c = 1 := by omega
        rw [if_neg hc1] at hvc
        have HVD := Lib.hid hvc
        clear hvc
        go_enter Try.func50, Try.ntmps50
        go_wp2_with fail
        rw [HQ.out]
        refine (power_lit 3 8 w (by omega) (by decide)).mono ?_
        rintro e w1 ⟨rfl, rfl⟩
        go_wp2_with fail
        refine rb_start_at (w.heap.size) (by assumption) (by kernel_rfl) (fun wx hwx hBwx => ?_)
        have p0 := (hwx.cell (p := ⟨bb, o, none⟩) (by simpa using hbb)).trans hc0
        have hvx := HVD.out.below hwx
        have hBa : ∀ o', w.heap.size ≤ (wx.alloc o').heap.size := by intro o'; simp; omega
        refine rb_take 0 (some 20) (v := ?_) rfl rfl (by kernel_rfl) (by kernel_rfl) (by kernel_rfl) (by kernel_rfl) ?_ ?_
        rotate_left
        focus (intro w' hw'; go_simp; try with_reducible rfl)
        try simp only [Act.put, List.setIfInBounds_toArray, List.set_cons_zero, List.set_cons_succ]
        refine rb_take 1 (some 21) (v := ?_) rfl rfl (by kernel_rfl) (by kernel_rfl) (by kernel_rfl) (by kernel_rfl) ?_ ?_
        rotate_left
        focus (intro w' hw'; go_simp; try with_reducible rfl)
        try simp only [Act.put, List.setIfInBounds_toArray, List.set_cons_zero, List.set_cons_succ]
        refine rb_take 2 (some 22) (v := ?_) rfl rfl (by kernel_rfl) (by kernel_rfl) (by kernel_rfl) (by kernel_rfl) ?_ ?_
        rotate_left
        focus (intro w' hw'; have q := (hw'.cell (p := ⟨bb, o, none⟩) (by simpa using hbb)).trans p0; go_simp; try with_reducible rfl)
        try simp only [Act.put, List.setIfInBounds_toArray, List.set_cons_zero, List.set_cons_succ]
        refine rb_take 3 (some 23) (v := ?_) rfl rfl (by kernel_rfl) (by kernel_rfl) (by kernel_rfl) (by kernel_rfl) ?_ ?_
        rotate_left
        focus (intro w' hw'; go_simp; first | rw [HX.out] | with_reducible rfl)
        try simp only [Act.put, List.setIfInBounds_toArray, List.set_cons_zero, List.set_cons_succ]
        refine rb_take 5 (some 25) (v := ?_) rfl rfl (by kernel_rfl) (by kernel_rfl) (by kernel_rfl) (by kernel_rfl) ?_ ?_
        rotate_left
        focus (intro w' hw'; go_simp; try with_reducible rfl)
        try simp only [Act.put, List.setIfInBounds_toArray, List.set_cons_zero, List.set_cons_succ]
        refine rb_take 6 (some 26) (v := ?_) rfl rfl (by kernel_rfl) (by kernel_rfl) (by kernel_rfl) (by kernel_rfl) ?_ ?_
        rotate_left
        focus (intro w' hw'; go_simp; try with_reducible rfl)
        try simp only [Act.put, List.setIfInBounds_toArray, List.set_cons_zero, List.set_cons_succ]
        refine rb_take 7 (some 27) (v := ?_) rfl rfl (by kernel_rfl) (by kernel_rfl) (by kernel_rfl) (by kernel_rfl) ?_ ?_
        rotate_left
        focus (intro w' hw'; go_simp; try with_reducible rfl)
        try simp only [Act.put, List.setIfInBounds_toArray, List.set_cons_zero, List.set_cons_succ]
        refine rb_keep 4 rfl (by kernel_rfl) (by kernel_rfl) (by first | assumption | exact hBB _ _) (fun K hK => ?_)
        go_simp
        refine hK.out _ _ ((Below.refl _ _).alloc hBwx _) ?_
        clear hK K
        have hBa1 : w.heap.size ≤ (wx.alloc (.cells #[.int .u8 (x : Int)] 5)).heap.size := hBa _
        try simp only [Act.put, List.setIfInBounds_toArray, List.set_cons_zero, List.set_cons_succ]
        refine rb_keep 8 rfl (by kernel_rfl) (by kernel_rfl) (by first | assumption | exact hBB _ _) (fun K hK => ?_)
        refine owp_append1 _ _ _ rfl wx.heap.size 5 (.int .u8 0) 1 rfl Try.underlying80 u8info _ 1 _ _ rfl (Own.lit wx 5 #[.int .u8 (x : Int)] 1 (by decide) rfl) w.heap.size _ 7 _ (((l.drop 1).take 7).map u8v) rfl ((hvx.view.take' 7).alloc hBwx _) HLN.out (u8v_one _) (by unfold maxLen; omega) (by omega) (by simp) w.heap.size w (hwx.alloc hBwx _) hBwx hBa1 ?_
        intro A5 c5 w5 hown5 hb5 hbz
        refine hK.out _ _ hbz ?_
        clear hK K
        have hB5 := hb5.size
        try simp only [Act.put, List.setIfInBounds_toArray, List.set_cons_zero, List.set_cons_succ]
        refine rb_take 9 (some 5) (v := ?_) rfl rfl (by kernel_rfl) (by kernel_rfl) (by kernel_rfl) (by kernel_rfl) ?_ ?_
        rotate_left
        focus (intro w' hw'; go_simp; try with_reducible rfl)
        try simp only [Act.put, List.setIfInBounds_toArray, List.set_cons_zero, List.set_cons_succ]
        refine rb_done (by first | assumption | exact hBB _ _) (by kernel_rfl) ?_
        have hv5 : BView w5 w5.heap.size A5 (x :: (l.drop 1).take 7) := Own.bview (l := x :: (l.drop 1).take 7) hown5.out (Bytes.cons (by have := HX2.out; omega) ((hv.bytes.drop 1).take 7))
        have HV5 := Lib.hid hv5
        clear hv5 hown5
        go_wp2_with fail
        refine (ref_num_n A5 c5 (x :: (l.drop 1).take 7) 8 w5 _ HV5.out (by rw [List.length_cons, HLN2.out]) (by omega)).mono ?_
        rintro e w6 ⟨rfl, rfl⟩
        rw [show ((numBE (x :: (l.drop 1).take 7) : Nat) : Int) = ((vval l : Nat) : Int) by rw [HV.out.2, numBE_cons, HLN2.out]]
        go_wp2
        go_ret2
        refine .inl ⟨⟨hpos, by rw [HV.out.1]; exact hfit⟩, ?_, hb5⟩
        rw [HV.out.1]
        rfl
      · have hfi2 : (l.length : Int) < 8 := by omega
        go_enter Try.func50, Try.ntmps50
        go_wp2_with fail
        rw [HQ.out]
        refine (power_lit 3 8 w (by omega) (by decide)).mono ?_
        rintro e w1 ⟨rfl, rfl⟩
        go_wp2
        go_ret2
        exact .inr ⟨fun h => by have := h.2; rw [HV.out.1] at this; omega, rfl, Below.refl _ _⟩
  · have e : l = [] := List.eq_nil_of_length_eq_zero (by omega)
    subst e
    go_enter Try.func50, Try.ntmps50
    go_wp2
    go_ret2
    exact .inr ⟨fun h => by have := h.1; simp at this, rfl, Below.refl _ _⟩
end Go.Proofs.Ytakmcbgfglnanaa
