
/- siphash's state and its round by contracts. Conditions: none. -/
import Derived.Test.YtgfmjgfeiokcdaaMeter
import Derived.Test.YtgfmjgfeiokcdaaAppend
import Derived.StillTailTactics
namespace Go.Proofs.Ytgfmjgfeiokcdaa.Old
open Go.RowKit

def rotI (m d x : Int) : Int := bits .or .u64 (IntKind.u64.wrap (x * m)) (x / d)
def xorI (x y : Int) : Int := bits .xor .u64 x y
def addI (x y : Int) : Int := IntKind.u64.wrap (x + y)
theorem wrap_bd (x : Int) : 0 ≤ IntKind.u64.wrap x ∧ IntKind.u64.wrap x < 18446744073709551616 := by
  simp [IntKind.wrap, IntKind.bits, IntKind.signed]; omega
theorem addI_bd (x y : Int) : 0 ≤ addI x y ∧ addI x y < 18446744073709551616 := wrap_bd _
theorem bits_bd (op : BinOp) (x y : Int) : 0 ≤ bits op .u64 x y ∧ bits op .u64 x y < 18446744073709551616 := by
  unfold bits
  exact wrap_bd _
theorem xorI_bd (x y : Int) : 0 ≤ xorI x y ∧ xorI x y < 18446744073709551616 := bits_bd _ _ _
theorem rotI_bd (m d x : Int) : 0 ≤ rotI m d x ∧ rotI m d x < 18446744073709551616 := bits_bd _ _ _
def rot13 (x : Int) : Int := rotI 8192 2251799813685248 x
theorem rot13_c (x : Int) (w : World) (hx : 0 ≤ x ∧ x < 18446744073709551616) : Calls Try.prog 43 #[.int .u64 x, .int .i64 13] w fun e w' => e = .returned (.int .u64 (rot13 x)) ∧ w' = w := by
  have hb : bits .and .u64 13 63 = 13 := by decide
  go_enter Try.func43, Try.ntmps43
  go_wp2
  go_ret
  exact ⟨rfl, rfl⟩
theorem turned13_c (x : Int) (w : World) (hx : 0 ≤ x ∧ x < 18446744073709551616) : Calls Try.prog 44 #[.int .u64 x, .int .u64 13] w fun e w' => e = .returned (.int .u64 (rot13 x)) ∧ w' = w := by
  go_enter Try.func44, Try.ntmps44
  go_wp2
  go_ret
  exact ⟨rfl, rfl⟩
def rot16 (x : Int) : Int := rotI 65536 281474976710656 x
theorem rot16_c (x : Int) (w : World) (hx : 0 ≤ x ∧ x < 18446744073709551616) : Calls Try.prog 43 #[.int .u64 x, .int .i64 16] w fun e w' => e = .returned (.int .u64 (rot16 x)) ∧ w' = w := by
  have hb : bits .and .u64 16 63 = 16 := by decide
  go_enter Try.func43, Try.ntmps43
  go_wp2
  go_ret
  exact ⟨rfl, rfl⟩
theorem turned16_c (x : Int) (w : World) (hx : 0 ≤ x ∧ x < 18446744073709551616) : Calls Try.prog 44 #[.int .u64 x, .int .u64 16] w fun e w' => e = .returned (.int .u64 (rot16 x)) ∧ w' = w := by
  go_enter Try.func44, Try.ntmps44
  go_wp2
  go_ret
  exact ⟨rfl, rfl⟩
def rot17 (x : Int) : Int := rotI 131072 140737488355328 x
theorem rot17_c (x : Int) (w : World) (hx : 0 ≤ x ∧ x < 18446744073709551616) : Calls Try.prog 43 #[.int .u64 x, .int .i64 17] w fun e w' => e = .returned (.int .u64 (rot17 x)) ∧ w' = w := by
  have hb : bits .and .u64 17 63 = 17 := by decide
  go_enter Try.func43, Try.ntmps43
  go_wp2
  go_ret
  exact ⟨rfl, rfl⟩
theorem turned17_c (x : Int) (w : World) (hx : 0 ≤ x ∧ x < 18446744073709551616) : Calls Try.prog 44 #[.int .u64 x, .int .u64 17] w fun e w' => e = .returned (.int .u64 (rot17 x)) ∧ w' = w := by
  go_enter Try.func44, Try.ntmps44
  go_wp2
  go_ret
  exact ⟨rfl, rfl⟩
def rot21 (x : Int) : Int := rotI 2097152 8796093022208 x
theorem rot21_c (x : Int) (w : World) (hx : 0 ≤ x ∧ x < 18446744073709551616) : Calls Try.prog 43 #[.int .u64 x, .int .i64 21] w fun e w' => e = .returned (.int .u64 (rot21 x)) ∧ w' = w := by
  have hb : bits .and .u64 21 63 = 21 := by decide
  go_enter Try.func43, Try.ntmps43
  go_wp2
  go_ret
  exact ⟨rfl, rfl⟩
theorem turned21_c (x : Int) (w : World) (hx : 0 ≤ x ∧ x < 18446744073709551616) : Calls Try.prog 44 #[.int .u64 x, .int .u64 21] w fun e w' => e = .returned (.int .u64 (rot21 x)) ∧ w' = w := by
  go_enter Try.func44, Try.ntmps44
  go_wp2
  go_ret
  exact ⟨rfl, rfl⟩
def rot32 (x : Int) : Int := rotI 4294967296 4294967296 x
theorem rot32_c (x : Int) (w : World) (hx : 0 ≤ x ∧ x < 18446744073709551616) : Calls Try.prog 43 #[.int .u64 x, .int .i64 32] w fun e w' => e = .returned (.int .u64 (rot32 x)) ∧ w' = w := by
  have hb : bits .and .u64 32 63 = 32 := by decide
  go_enter Try.func43, Try.ntmps43
  go_wp2
  go_ret
  exact ⟨rfl, rfl⟩
theorem turned32_c (x : Int) (w : World) (hx : 0 ≤ x ∧ x < 18446744073709551616) : Calls Try.prog 44 #[.int .u64 x, .int .u64 32] w fun e w' => e = .returned (.int .u64 (rot32 x)) ∧ w' = w := by
  go_enter Try.func44, Try.ntmps44
  go_wp2
  go_ret
  exact ⟨rfl, rfl⟩

def WAt (w : World) (g : Nat) (a b c d : Int) : Prop := Hid (Arr w g 62 [.int .u64 a, .int .u64 b, .int .u64 c, .int .u64 d])
def rnd (a b c d : Int) : Int × Int × Int × Int :=
  let a1 := addI a b
  let b1 := xorI (rot13 b) a1
  let a2 := rot32 a1
  let c1 := addI c d
  let d1 := xorI (rot16 d) c1
  let a3 := addI a2 d1
  let d2 := xorI (rot21 d1) a3
  let c2 := addI c1 b1
  let b2 := xorI (rot17 b1) c2
  let c3 := rot32 c2
  (a3, b2, c3, d2)
set_option maxRecDepth 100000 in
set_option maxHeartbeats 2000000 in
theorem round_c (g : Nat) (a b c d : Int) (w : World) (hW : WAt w g a b c d) (ha : 0 ≤ a ∧ a < 18446744073709551616) (hb : 0 ≤ b ∧ b < 18446744073709551616) (hc : 0 ≤ c ∧ c < 18446744073709551616) (hd : 0 ≤ d ∧ d < 18446744073709551616) :
    Calls Try.prog 28 #[.pointer (some ⟨g, 0, none⟩)] w fun e w' => e = .returned (.tuple #[]) ∧ WAt w' g (rnd a b c d).1 (rnd a b c d).2.1 (rnd a b c d).2.2.1 (rnd a b c d).2.2.2 ∧ Mod g w w' := by
  have hM := Mod.refl g w
  go_enter Try.func28, Try.ntmps28
  go_wp2_with fail
  obtain ⟨x0, Hx0, hx0⟩ : ∃ x, Hid (addI a b = x) ∧ 0 ≤ x ∧ x < 18446744073709551616 := ⟨_, Lib.hid rfl, addI_bd _ _⟩
  have q0 := hW.out.cell 0
  have q1 := hW.out.cell 1
  have q2 := hW.out.cell 2
  have q3 := hW.out.cell 3
  simp only [List.getElem?_cons_zero, List.getElem?_cons_succ] at q0 q1 q2 q3
  refine wp_region_still_tail 11 (by kernel_rfl) (by kernel_rfl) ?_
  simp only [List.take_succ_cons, List.take_zero, List.drop_succ_cons, List.drop_zero]
  repeat (first | still_step | still_call ((rot13_c _ _ (by assumption))))
  try refine wpStill_nil ?_
  have hU0 : WAt (w.drew) g a b c d := hW
  have hN0 : Mod g w (w.drew) := hM.trans (Mod.of_below (Below.refl _ _).drew)
  clear q0 q1 q2 q3 hW hM
  change wpList _ _ _ _ _ (w.drew)
  generalize w.drew = v0 at hU0 hN0 ⊢
  have q0 := hU0.out.cell 0
  simp only [List.getElem?_cons_zero, List.getElem?_cons_succ] at q0
  have f0 := hU0.out.frozen 0
  go_wp2_with fail
  rw [show IntKind.u64.wrap (a + b) = x0 from Hx0.out]
  have hW0 : WAt (v0.setCell ⟨g, 0, none⟩ (.int .u64 x0)) g x0 b c d := hid_arr (hU0.out.set_ 0 _)
  have hM0 := hN0.set 0 (.int .u64 x0)
  clear q0 f0 hU0 hN0
  generalize v0.setCell ⟨g, 0, none⟩ (.int .u64 x0) = u0 at hW0 hM0 ⊢
  obtain ⟨x1, Hx1, hx1⟩ : ∃ x, Hid (xorI (rot13 b) x0 = x) ∧ 0 ≤ x ∧ x < 18446744073709551616 := ⟨_, Lib.hid rfl, xorI_bd _ _⟩
  have q0 := hW0.out.cell 0
  have q1 := hW0.out.cell 1
  have q2 := hW0.out.cell 2
  have q3 := hW0.out.cell 3
  simp only [List.getElem?_cons_zero, List.getElem?_cons_succ] at q0 q1 q2 q3
  refine wp_region_still_tail 13 (by kernel_rfl) (by kernel_rfl) ?_
  simp only [List.take_succ_cons, List.take_zero, List.drop_succ_cons, List.drop_zero]
  repeat (first | still_step | still_call ((rot13_c _ _ (by assumption))))
  try refine wpStill_nil ?_
  have hU1 : WAt (u0.drew) g x0 b c d := hW0
  have hN1 : Mod g w (u0.drew) := hM0.trans (Mod.of_below (Below.refl _ _).drew)
  clear q0 q1 q2 q3 hW0 hM0
  change wpList _ _ _ _ _ (u0.drew)
  generalize u0.drew = v1 at hU1 hN1 ⊢
  have q0 := hU1.out.cell 1
  simp only [List.getElem?_cons_zero, List.getElem?_cons_succ] at q0
  have f0 := hU1.out.frozen 1
  go_wp2_with fail
  rw [show bits .xor .u64 (rot13 b) x0 = x1 from Hx1.out]
  have hW1 : WAt (v1.setCell ⟨g, 1, none⟩ (.int .u64 x1)) g x0 x1 c d := hid_arr (hU1.out.set_ 1 _)
  have hM1 := hN1.set 1 (.int .u64 x1)
  clear q0 f0 hU1 hN1
  generalize v1.setCell ⟨g, 1, none⟩ (.int .u64 x1) = u1 at hW1 hM1 ⊢
  obtain ⟨x2, Hx2, hx2⟩ : ∃ x, Hid (rot32 x0 = x) ∧ 0 ≤ x ∧ x < 18446744073709551616 := ⟨_, Lib.hid rfl, rotI_bd _ _ _⟩
  have q0 := hW1.out.cell 0
  have q1 := hW1.out.cell 1
  have q2 := hW1.out.cell 2
  have q3 := hW1.out.cell 3
  simp only [List.getElem?_cons_zero, List.getElem?_cons_succ] at q0 q1 q2 q3
  refine wp_region_still_tail 8 (by kernel_rfl) (by kernel_rfl) ?_
  simp only [List.take_succ_cons, List.take_zero, List.drop_succ_cons, List.drop_zero]
  repeat (first | still_step | still_call ((rot32_c _ _ (by assumption))))
  try refine wpStill_nil ?_
  have hU2 : WAt (u1.drew) g x0 x1 c d := hW1
  have hN2 : Mod g w (u1.drew) := hM1.trans (Mod.of_below (Below.refl _ _).drew)
  clear q0 q1 q2 q3 hW1 hM1
  change wpList _ _ _ _ _ (u1.drew)
  generalize u1.drew = v2 at hU2 hN2 ⊢
  have q0 := hU2.out.cell 0
  simp only [List.getElem?_cons_zero, List.getElem?_cons_succ] at q0
  have f0 := hU2.out.frozen 0
  go_wp2_with fail
  rw [show rot32 x0 = x2 from Hx2.out]
  have hW2 : WAt (v2.setCell ⟨g, 0, none⟩ (.int .u64 x2)) g x2 x1 c d := hid_arr (hU2.out.set_ 0 _)
  have hM2 := hN2.set 0 (.int .u64 x2)
  clear q0 f0 hU2 hN2
  generalize v2.setCell ⟨g, 0, none⟩ (.int .u64 x2) = u2 at hW2 hM2 ⊢
  obtain ⟨x3, Hx3, hx3⟩ : ∃ x, Hid (addI c d = x) ∧ 0 ≤ x ∧ x < 18446744073709551616 := ⟨_, Lib.hid rfl, addI_bd _ _⟩
  have q0 := hW2.out.cell 0
  have q1 := hW2.out.cell 1
  have q2 := hW2.out.cell 2
  have q3 := hW2.out.cell 3
  simp only [List.getElem?_cons_zero, List.getElem?_cons_succ] at q0 q1 q2 q3
  refine wp_region_still_tail 11 (by kernel_rfl) (by kernel_rfl) ?_
  simp only [List.take_succ_cons, List.take_zero, List.drop_succ_cons, List.drop_zero]
  repeat (first | still_step | still_call ((rot13_c _ _ (by assumption))))
  try refine wpStill_nil ?_
  have hU3 : WAt (u2.drew) g x2 x1 c d := hW2
  have hN3 : Mod g w (u2.drew) := hM2.trans (Mod.of_below (Below.refl _ _).drew)
  clear q0 q1 q2 q3 hW2 hM2
  change wpList _ _ _ _ _ (u2.drew)
  generalize u2.drew = v3 at hU3 hN3 ⊢
  have q0 := hU3.out.cell 2
  simp only [List.getElem?_cons_zero, List.getElem?_cons_succ] at q0
  have f0 := hU3.out.frozen 2
  go_wp2_with fail
  rw [show IntKind.u64.wrap (c + d) = x3 from Hx3.out]
  have hW3 : WAt (v3.setCell ⟨g, 2, none⟩ (.int .u64 x3)) g x2 x1 x3 d := hid_arr (hU3.out.set_ 2 _)
  have hM3 := hN3.set 2 (.int .u64 x3)
  clear q0 f0 hU3 hN3
  generalize v3.setCell ⟨g, 2, none⟩ (.int .u64 x3) = u3 at hW3 hM3 ⊢
  obtain ⟨x4, Hx4, hx4⟩ : ∃ x, Hid (xorI (rot16 d) x3 = x) ∧ 0 ≤ x ∧ x < 18446744073709551616 := ⟨_, Lib.hid rfl, xorI_bd _ _⟩
  have q0 := hW3.out.cell 0
  have q1 := hW3.out.cell 1
  have q2 := hW3.out.cell 2
  have q3 := hW3.out.cell 3
  simp only [List.getElem?_cons_zero, List.getElem?_cons_succ] at q0 q1 q2 q3
  refine wp_region_still_tail 13 (by kernel_rfl) (by kernel_rfl) ?_
  simp only [List.take_succ_cons, List.take_zero, List.drop_succ_cons, List.drop_zero]
  repeat (first | still_step | still_call ((rot16_c _ _ (by assumption))))
  try refine wpStill_nil ?_
  have hU4 : WAt (u3.drew) g x2 x1 x3 d := hW3
  have hN4 : Mod g w (u3.drew) := hM3.trans (Mod.of_below (Below.refl _ _).drew)
  clear q0 q1 q2 q3 hW3 hM3
  change wpList _ _ _ _ _ (u3.drew)
  generalize u3.drew = v4 at hU4 hN4 ⊢
  have q0 := hU4.out.cell 3
  simp only [List.getElem?_cons_zero, List.getElem?_cons_succ] at q0
  have f0 := hU4.out.frozen 3
  go_wp2_with fail
  rw [show bits .xor .u64 (rot16 d) x3 = x4 from Hx4.out]
  have hW4 : WAt (v4.setCell ⟨g, 3, none⟩ (.int .u64 x4)) g x2 x1 x3 x4 := hid_arr (hU4.out.set_ 3 _)
  have hM4 := hN4.set 3 (.int .u64 x4)
  clear q0 f0 hU4 hN4
  generalize v4.setCell ⟨g, 3, none⟩ (.int .u64 x4) = u4 at hW4 hM4 ⊢
  obtain ⟨x5, Hx5, hx5⟩ : ∃ x, Hid (addI x2 x4 = x) ∧ 0 ≤ x ∧ x < 18446744073709551616 := ⟨_, Lib.hid rfl, addI_bd _ _⟩
  have q0 := hW4.out.cell 0
  have q1 := hW4.out.cell 1
  have q2 := hW4.out.cell 2
  have q3 := hW4.out.cell 3
  simp only [List.getElem?_cons_zero, List.getElem?_cons_succ] at q0 q1 q2 q3
  refine wp_region_still_tail 11 (by kernel_rfl) (by kernel_rfl) ?_
  simp only [List.take_succ_cons, List.take_zero, List.drop_succ_cons, List.drop_zero]
  repeat (first | still_step | still_call ((rot13_c _ _ (by assumption))))
  try refine wpStill_nil ?_
  have hU5 : WAt (u4.drew) g x2 x1 x3 x4 := hW4
  have hN5 : Mod g w (u4.drew) := hM4.trans (Mod.of_below (Below.refl _ _).drew)
  clear q0 q1 q2 q3 hW4 hM4
  change wpList _ _ _ _ _ (u4.drew)
  generalize u4.drew = v5 at hU5 hN5 ⊢
  have q0 := hU5.out.cell 0
  simp only [List.getElem?_cons_zero, List.getElem?_cons_succ] at q0
  have f0 := hU5.out.frozen 0
  go_wp2_with fail
  rw [show IntKind.u64.wrap (x2 + x4) = x5 from Hx5.out]
  have hW5 : WAt (v5.setCell ⟨g, 0, none⟩ (.int .u64 x5)) g x5 x1 x3 x4 := hid_arr (hU5.out.set_ 0 _)
  have hM5 := hN5.set 0 (.int .u64 x5)
  clear q0 f0 hU5 hN5
  generalize v5.setCell ⟨g, 0, none⟩ (.int .u64 x5) = u5 at hW5 hM5 ⊢
  obtain ⟨x6, Hx6, hx6⟩ : ∃ x, Hid (xorI (rot21 x4) x5 = x) ∧ 0 ≤ x ∧ x < 18446744073709551616 := ⟨_, Lib.hid rfl, xorI_bd _ _⟩
  have q0 := hW5.out.cell 0
  have q1 := hW5.out.cell 1
  have q2 := hW5.out.cell 2
  have q3 := hW5.out.cell 3
  simp only [List.getElem?_cons_zero, List.getElem?_cons_succ] at q0 q1 q2 q3
  refine wp_region_still_tail 13 (by kernel_rfl) (by kernel_rfl) ?_
  simp only [List.take_succ_cons, List.take_zero, List.drop_succ_cons, List.drop_zero]
  repeat (first | still_step | still_call ((rot21_c _ _ (by assumption))))
  try refine wpStill_nil ?_
  have hU6 : WAt (u5.drew) g x5 x1 x3 x4 := hW5
  have hN6 : Mod g w (u5.drew) := hM5.trans (Mod.of_below (Below.refl _ _).drew)
  clear q0 q1 q2 q3 hW5 hM5
  change wpList _ _ _ _ _ (u5.drew)
  generalize u5.drew = v6 at hU6 hN6 ⊢
  have q0 := hU6.out.cell 3
  simp only [List.getElem?_cons_zero, List.getElem?_cons_succ] at q0
  have f0 := hU6.out.frozen 3
  go_wp2_with fail
  rw [show bits .xor .u64 (rot21 x4) x5 = x6 from Hx6.out]
  have hW6 : WAt (v6.setCell ⟨g, 3, none⟩ (.int .u64 x6)) g x5 x1 x3 x6 := hid_arr (hU6.out.set_ 3 _)
  have hM6 := hN6.set 3 (.int .u64 x6)
  clear q0 f0 hU6 hN6
  generalize v6.setCell ⟨g, 3, none⟩ (.int .u64 x6) = u6 at hW6 hM6 ⊢
  obtain ⟨x7, Hx7, hx7⟩ : ∃ x, Hid (addI x3 x1 = x) ∧ 0 ≤ x ∧ x < 18446744073709551616 := ⟨_, Lib.hid rfl, addI_bd _ _⟩
  have q0 := hW6.out.cell 0
  have q1 := hW6.out.cell 1
  have q2 := hW6.out.cell 2
  have q3 := hW6.out.cell 3
  simp only [List.getElem?_cons_zero, List.getElem?_cons_succ] at q0 q1 q2 q3
  refine wp_region_still_tail 11 (by kernel_rfl) (by kernel_rfl) ?_
  simp only [List.take_succ_cons, List.take_zero, List.drop_succ_cons, List.drop_zero]
  repeat (first | still_step | still_call ((rot13_c _ _ (by assumption))))
  try refine wpStill_nil ?_
  have hU7 : WAt (u6.drew) g x5 x1 x3 x6 := hW6
  have hN7 : Mod g w (u6.drew) := hM6.trans (Mod.of_below (Below.refl _ _).drew)
  clear q0 q1 q2 q3 hW6 hM6
  change wpList _ _ _ _ _ (u6.drew)
  generalize u6.drew = v7 at hU7 hN7 ⊢
  have q0 := hU7.out.cell 2
  simp only [List.getElem?_cons_zero, List.getElem?_cons_succ] at q0
  have f0 := hU7.out.frozen 2
  go_wp2_with fail
  rw [show IntKind.u64.wrap (x3 + x1) = x7 from Hx7.out]
  have hW7 : WAt (v7.setCell ⟨g, 2, none⟩ (.int .u64 x7)) g x5 x1 x7 x6 := hid_arr (hU7.out.set_ 2 _)
  have hM7 := hN7.set 2 (.int .u64 x7)
  clear q0 f0 hU7 hN7
  generalize v7.setCell ⟨g, 2, none⟩ (.int .u64 x7) = u7 at hW7 hM7 ⊢
  obtain ⟨x8, Hx8, hx8⟩ : ∃ x, Hid (xorI (rot17 x1) x7 = x) ∧ 0 ≤ x ∧ x < 18446744073709551616 := ⟨_, Lib.hid rfl, xorI_bd _ _⟩
  have q0 := hW7.out.cell 0
  have q1 := hW7.out.cell 1
  have q2 := hW7.out.cell 2
  have q3 := hW7.out.cell 3
  simp only [List.getElem?_cons_zero, List.getElem?_cons_succ] at q0 q1 q2 q3
  refine wp_region_still_tail 13 (by kernel_rfl) (by kernel_rfl) ?_
  simp only [List.take_succ_cons, List.take_zero, List.drop_succ_cons, List.drop_zero]
  repeat (first | still_step | still_call ((rot17_c _ _ (by assumption))))
  try refine wpStill_nil ?_
  have hU8 : WAt (u7.drew) g x5 x1 x7 x6 := hW7
  have hN8 : Mod g w (u7.drew) := hM7.trans (Mod.of_below (Below.refl _ _).drew)
  clear q0 q1 q2 q3 hW7 hM7
  change wpList _ _ _ _ _ (u7.drew)
  generalize u7.drew = v8 at hU8 hN8 ⊢
  have q0 := hU8.out.cell 1
  simp only [List.getElem?_cons_zero, List.getElem?_cons_succ] at q0
  have f0 := hU8.out.frozen 1
  go_wp2_with fail
  rw [show bits .xor .u64 (rot17 x1) x7 = x8 from Hx8.out]
  have hW8 : WAt (v8.setCell ⟨g, 1, none⟩ (.int .u64 x8)) g x5 x8 x7 x6 := hid_arr (hU8.out.set_ 1 _)
  have hM8 := hN8.set 1 (.int .u64 x8)
  clear q0 f0 hU8 hN8
  generalize v8.setCell ⟨g, 1, none⟩ (.int .u64 x8) = u8 at hW8 hM8 ⊢
  obtain ⟨x9, Hx9, hx9⟩ : ∃ x, Hid (rot32 x7 = x) ∧ 0 ≤ x ∧ x < 18446744073709551616 := ⟨_, Lib.hid rfl, rotI_bd _ _ _⟩
  have q0 := hW8.out.cell 0
  have q1 := hW8.out.cell 1
  have q2 := hW8.out.cell 2
  have q3 := hW8.out.cell 3
  simp only [List.getElem?_cons_zero, List.getElem?_cons_succ] at q0 q1 q2 q3
  refine wp_region_still_tail 8 (by kernel_rfl) (by kernel_rfl) ?_
  simp only [List.take_succ_cons, List.take_zero, List.drop_succ_cons, List.drop_zero]
  repeat (first | still_step | still_call ((rot32_c _ _ (by assumption))))
  try refine wpStill_nil ?_
  have hU9 : WAt (u8.drew) g x5 x8 x7 x6 := hW8
  have hN9 : Mod g w (u8.drew) := hM8.trans (Mod.of_below (Below.refl _ _).drew)
  clear q0 q1 q2 q3 hW8 hM8
  change wpList _ _ _ _ _ (u8.drew)
  generalize u8.drew = v9 at hU9 hN9 ⊢
  have q0 := hU9.out.cell 2
  simp only [List.getElem?_cons_zero, List.getElem?_cons_succ] at q0
  have f0 := hU9.out.frozen 2
  go_wp2_with fail
  rw [show rot32 x7 = x9 from Hx9.out]
  have hW9 : WAt (v9.setCell ⟨g, 2, none⟩ (.int .u64 x9)) g x5 x8 x9 x6 := hid_arr (hU9.out.set_ 2 _)
  have hM9 := hN9.set 2 (.int .u64 x9)
  clear q0 f0 hU9 hN9
  generalize v9.setCell ⟨g, 2, none⟩ (.int .u64 x9) = u9 at hW9 hM9 ⊢
  refine bodyPost_end (results_none rfl _ _ _) rfl ⟨rfl, ?_, hM9⟩
  have e : rnd a b c d = (x5, x8, x9, x6) := by
    unfold rnd
    simp only [Hx0.out, Hx1.out, Hx2.out, Hx3.out, Hx4.out, Hx5.out, Hx6.out, Hx7.out, Hx8.out, Hx9.out]
  rw [e]
  exact hW9
end Go.Proofs.Ytgfmjgfeiokcdaa.Old
