
/- The reference's round, and the little-endian words, by contracts. Conditions: none. -/
import Derived.Test.YtgfmjgfeiokcdaaSip
import Derived.Laws.ResultCell
import Derived.Test.YtgfmjgfeiokcdaaMeterRef
namespace Go.Proofs.Ytgfmjgfeiokcdaa.Old
open Go.RowKit

def RAt (w : World) (g : Nat) (a b c d : Int) : Prop := Hid (Arr w g 67 [.int .u64 a, .int .u64 b, .int .u64 c, .int .u64 d])
theorem load_rw {w : World} {g : Nat} {a b c d : Value} (hA : Arr w g 67 [a, b, c, d]) (h1 : a.oneCell' = true) (h2 : b.oneCell' = true) (h3 : c.oneCell' = true) (h4 : d.oneCell' = true) :
    (loadVar 67 ⟨g, 0, none⟩).run Try.prog w = .ok (.agg #[a, b, c, d]) w := by
  have q0 := hA.cell 0
  have q1 := hA.cell 1
  have q2 := hA.cell 2
  have q3 := hA.cell 3
  simp only [List.getElem?_cons_zero, List.getElem?_cons_succ] at q0 q1 q2 q3
  go_simp
theorem ret_rw {fn : Func} {R : Ending → World → Prop} {act : Act} {w : World} {g p : Nat} {a b c d : Value} (hres : fn.results = #[.cell p 67]) (hA : Arr w g 67 [a, b, c, d])
    (h1 : a.oneCell' = true) (h2 : b.oneCell' = true) (h3 : c.oneCell' = true) (h4 : d.oneCell' = true)
    (hp : act.tmps.getD p undef = .pointer (some ⟨g, 0, none⟩)) (hd : act.defers = [])
    (hR : R (.returned (.agg #[a, b, c, d])) w) : bodyPost Try.prog fn R .ret act w := by
  refine bodyPost_ret_by (v := .agg #[a, b, c, d]) ?_ hd hR
  rw [results_cell_one hres, hp]
  simp only [asAddr, Sem.run_pure, Result.andThen, load_rw hA h1 h2 h3 h4]
set_option maxRecDepth 100000 in
set_option maxHeartbeats 4000000 in
theorem ref_round_c (a b c d : Int) (w : World) (ha : 0 ≤ a ∧ a < 18446744073709551616) (hb : 0 ≤ b ∧ b < 18446744073709551616) (hc : 0 ≤ c ∧ c < 18446744073709551616) (hd : 0 ≤ d ∧ d < 18446744073709551616) :
    Calls Try.prog 30 #[.agg #[.int .u64 a, .int .u64 b, .int .u64 c, .int .u64 d]] w fun e w' => e = .returned (.agg #[.int .u64 (rnd a b c d).1, .int .u64 (rnd a b c d).2.1, .int .u64 (rnd a b c d).2.2.1, .int .u64 (rnd a b c d).2.2.2]) ∧ Below w.heap.size w w' := by
  obtain ⟨x0, Hx0, hx0⟩ : ∃ x, Hid (addI a b = x) ∧ 0 ≤ x ∧ x < 18446744073709551616 := ⟨_, Lib.hid rfl, addI_bd _ _⟩
  obtain ⟨x1, Hx1, hx1⟩ : ∃ x, Hid (xorI (rot13 b) x0 = x) ∧ 0 ≤ x ∧ x < 18446744073709551616 := ⟨_, Lib.hid rfl, xorI_bd _ _⟩
  obtain ⟨x2, Hx2, hx2⟩ : ∃ x, Hid (rot32 x0 = x) ∧ 0 ≤ x ∧ x < 18446744073709551616 := ⟨_, Lib.hid rfl, rotI_bd _ _ _⟩
  obtain ⟨x3, Hx3, hx3⟩ : ∃ x, Hid (addI c d = x) ∧ 0 ≤ x ∧ x < 18446744073709551616 := ⟨_, Lib.hid rfl, addI_bd _ _⟩
  obtain ⟨x4, Hx4, hx4⟩ : ∃ x, Hid (xorI (rot16 d) x3 = x) ∧ 0 ≤ x ∧ x < 18446744073709551616 := ⟨_, Lib.hid rfl, xorI_bd _ _⟩
  obtain ⟨x5, Hx5, hx5⟩ : ∃ x, Hid (addI x2 x4 = x) ∧ 0 ≤ x ∧ x < 18446744073709551616 := ⟨_, Lib.hid rfl, addI_bd _ _⟩
  obtain ⟨x6, Hx6, hx6⟩ : ∃ x, Hid (xorI (rot21 x4) x5 = x) ∧ 0 ≤ x ∧ x < 18446744073709551616 := ⟨_, Lib.hid rfl, xorI_bd _ _⟩
  obtain ⟨x7, Hx7, hx7⟩ : ∃ x, Hid (addI x3 x1 = x) ∧ 0 ≤ x ∧ x < 18446744073709551616 := ⟨_, Lib.hid rfl, addI_bd _ _⟩
  obtain ⟨x8, Hx8, hx8⟩ : ∃ x, Hid (xorI (rot17 x1) x7 = x) ∧ 0 ≤ x ∧ x < 18446744073709551616 := ⟨_, Lib.hid rfl, xorI_bd _ _⟩
  obtain ⟨x9, Hx9, hx9⟩ : ∃ x, Hid (rot32 x7 = x) ∧ 0 ≤ x ∧ x < 18446744073709551616 := ⟨_, Lib.hid rfl, rotI_bd _ _ _⟩
  have e : rnd a b c d = (x5, x8, x9, x6) := by
    unfold rnd
    simp only [Hx0.out, Hx1.out, Hx2.out, Hx3.out, Hx4.out, Hx5.out, Hx6.out, Hx7.out, Hx8.out, Hx9.out]
  rw [e]
  have hB0 := below2 w (.cells #[.int .u64 a, .int .u64 b, .int .u64 c, .int .u64 d] 67) (.cells #[.int .u64 0, .int .u64 0, .int .u64 0, .int .u64 0] 67)
  have hZ0 := hid_arr (arr_new2 w (.cells #[.int .u64 a, .int .u64 b, .int .u64 c, .int .u64 d] 67) 67 [.int .u64 0, .int .u64 0, .int .u64 0, .int .u64 0])
  have hW0 : RAt ((w.alloc (.cells #[.int .u64 a, .int .u64 b, .int .u64 c, .int .u64 d] 67)).alloc (.cells #[.int .u64 0, .int .u64 0, .int .u64 0, .int .u64 0] 67)) w.heap.size a b c d := hid_arr ((Arr.new w 67 [.int .u64 a, .int .u64 b, .int .u64 c, .int .u64 d]).alloc _)
  clear e
  go_enter Try.func30, Try.ntmps30
  go_upto_region 1 with (fail)
  generalize (w.alloc (.cells #[.int .u64 a, .int .u64 b, .int .u64 c, .int .u64 d] 67)).alloc (.cells #[.int .u64 0, .int .u64 0, .int .u64 0, .int .u64 0] 67) = u0 at hW0 hZ0 hB0 ⊢
  have q0 := hW0.out.cell 0
  have q1 := hW0.out.cell 1
  have q2 := hW0.out.cell 2
  have q3 := hW0.out.cell 3
  have f0 := hW0.out.frozen 0
  have f1 := hW0.out.frozen 1
  have f2 := hW0.out.frozen 2
  have f3 := hW0.out.frozen 3
  simp only [List.getElem?_cons_zero, List.getElem?_cons_succ] at q0 q1 q2 q3
  go_wp2_with fail
  rw [show IntKind.u64.wrap (a + b) = x0 from Hx0.out]
  have hW1 : RAt (u0.setCell ⟨w.heap.size, 0, none⟩ (.int .u64 x0)) w.heap.size x0 b c d := hid_arr (hW0.out.set_ 0 _)
  have hZ1 : Hid (Arr (u0.setCell ⟨w.heap.size, 0, none⟩ (.int .u64 x0)) (w.heap.size + 1) 67 [.int .u64 0, .int .u64 0, .int .u64 0, .int .u64 0]) := hid_arr (hZ0.out.far (by simp) _)
  have hB1 : Below w.heap.size w (u0.setCell ⟨w.heap.size, 0, none⟩ (.int .u64 x0)) := (hB0.setCell (by simp) _)
  clear q0 q1 q2 q3 f0 f1 f2 f3 hW0 hZ0 hB0
  generalize (u0.setCell ⟨w.heap.size, 0, none⟩ (.int .u64 x0)) = u1 at hW1 hZ1 hB1 ⊢
  have q0 := hW1.out.cell 0
  have q1 := hW1.out.cell 1
  have q2 := hW1.out.cell 2
  have q3 := hW1.out.cell 3
  have f0 := hW1.out.frozen 0
  have f1 := hW1.out.frozen 1
  have f2 := hW1.out.frozen 2
  have f3 := hW1.out.frozen 3
  simp only [List.getElem?_cons_zero, List.getElem?_cons_succ] at q0 q1 q2 q3
  refine wp_region_still_tail 7 (by kernel_rfl) (by kernel_rfl) ?_
  simp only [List.take_succ_cons, List.take_zero, List.drop_succ_cons, List.drop_zero]
  repeat (first | still_step | still_call ((turned13_c _ _ (by assumption))))
  try refine wpStill_nil ?_
  have hU1 : RAt (u1.drew) w.heap.size x0 b c d := hW1
  have hY1 : Hid (Arr (u1.drew) (w.heap.size + 1) 67 [.int .u64 0, .int .u64 0, .int .u64 0, .int .u64 0]) := hZ1
  have hC1 : Below w.heap.size w (u1.drew) := hB1.drew
  clear q0 q1 q2 q3 f0 f1 f2 f3 hW1 hZ1 hB1
  change wpList _ _ _ _ _ (u1.drew)
  generalize u1.drew = v1 at hU1 hY1 hC1 ⊢
  have q0 := hU1.out.cell 0
  have q1 := hU1.out.cell 1
  have q2 := hU1.out.cell 2
  have q3 := hU1.out.cell 3
  have f0 := hU1.out.frozen 0
  have f1 := hU1.out.frozen 1
  have f2 := hU1.out.frozen 2
  have f3 := hU1.out.frozen 3
  simp only [List.getElem?_cons_zero, List.getElem?_cons_succ] at q0 q1 q2 q3
  go_wp2_with fail
  rw [show bits .xor .u64 (rot13 b) x0 = x1 from Hx1.out]
  have hW2 : RAt (v1.setCell ⟨w.heap.size, 1, none⟩ (.int .u64 x1)) w.heap.size x0 x1 c d := hid_arr (hU1.out.set_ 1 _)
  have hZ2 : Hid (Arr (v1.setCell ⟨w.heap.size, 1, none⟩ (.int .u64 x1)) (w.heap.size + 1) 67 [.int .u64 0, .int .u64 0, .int .u64 0, .int .u64 0]) := hid_arr (hY1.out.far (by simp) _)
  have hB2 : Below w.heap.size w (v1.setCell ⟨w.heap.size, 1, none⟩ (.int .u64 x1)) := (hC1.setCell (by simp) _)
  clear q0 q1 q2 q3 f0 f1 f2 f3 hU1 hY1 hC1
  generalize (v1.setCell ⟨w.heap.size, 1, none⟩ (.int .u64 x1)) = u2 at hW2 hZ2 hB2 ⊢
  refine (turned32_c x0 _ (by assumption)).mono ?_
  rintro e w9 ⟨rfl, hw9⟩
  replace hw9 := hw9.symm
  subst hw9
  have q0 := hW2.out.cell 0
  have q1 := hW2.out.cell 1
  have q2 := hW2.out.cell 2
  have q3 := hW2.out.cell 3
  have f0 := hW2.out.frozen 0
  have f1 := hW2.out.frozen 1
  have f2 := hW2.out.frozen 2
  have f3 := hW2.out.frozen 3
  simp only [List.getElem?_cons_zero, List.getElem?_cons_succ] at q0 q1 q2 q3
  go_wp2_with fail
  rw [show rot32 x0 = x2 from Hx2.out]
  rw [show IntKind.u64.wrap (c + d) = x3 from Hx3.out]
  have hW3 : RAt ((u2.setCell ⟨w.heap.size, 0, none⟩ (.int .u64 x2)).setCell ⟨w.heap.size, 2, none⟩ (.int .u64 x3)) w.heap.size x2 x1 x3 d := hid_arr ((hW2.out.set_ 0 _).set_ 2 _)
  have hZ3 : Hid (Arr ((u2.setCell ⟨w.heap.size, 0, none⟩ (.int .u64 x2)).setCell ⟨w.heap.size, 2, none⟩ (.int .u64 x3)) (w.heap.size + 1) 67 [.int .u64 0, .int .u64 0, .int .u64 0, .int .u64 0]) := hid_arr ((hZ2.out.far (by simp) _).far (by simp) _)
  have hB3 : Below w.heap.size w ((u2.setCell ⟨w.heap.size, 0, none⟩ (.int .u64 x2)).setCell ⟨w.heap.size, 2, none⟩ (.int .u64 x3)) := ((hB2.setCell (by simp) _).setCell (by simp) _)
  clear q0 q1 q2 q3 f0 f1 f2 f3 hW2 hZ2 hB2
  generalize ((u2.setCell ⟨w.heap.size, 0, none⟩ (.int .u64 x2)).setCell ⟨w.heap.size, 2, none⟩ (.int .u64 x3)) = u3 at hW3 hZ3 hB3 ⊢
  have q0 := hW3.out.cell 0
  have q1 := hW3.out.cell 1
  have q2 := hW3.out.cell 2
  have q3 := hW3.out.cell 3
  have f0 := hW3.out.frozen 0
  have f1 := hW3.out.frozen 1
  have f2 := hW3.out.frozen 2
  have f3 := hW3.out.frozen 3
  simp only [List.getElem?_cons_zero, List.getElem?_cons_succ] at q0 q1 q2 q3
  refine wp_region_still_tail 7 (by kernel_rfl) (by kernel_rfl) ?_
  simp only [List.take_succ_cons, List.take_zero, List.drop_succ_cons, List.drop_zero]
  repeat (first | still_step | still_call ((turned16_c _ _ (by assumption))))
  try refine wpStill_nil ?_
  have hU3 : RAt (u3.drew) w.heap.size x2 x1 x3 d := hW3
  have hY3 : Hid (Arr (u3.drew) (w.heap.size + 1) 67 [.int .u64 0, .int .u64 0, .int .u64 0, .int .u64 0]) := hZ3
  have hC3 : Below w.heap.size w (u3.drew) := hB3.drew
  clear q0 q1 q2 q3 f0 f1 f2 f3 hW3 hZ3 hB3
  change wpList _ _ _ _ _ (u3.drew)
  generalize u3.drew = v3 at hU3 hY3 hC3 ⊢
  have q0 := hU3.out.cell 0
  have q1 := hU3.out.cell 1
  have q2 := hU3.out.cell 2
  have q3 := hU3.out.cell 3
  have f0 := hU3.out.frozen 0
  have f1 := hU3.out.frozen 1
  have f2 := hU3.out.frozen 2
  have f3 := hU3.out.frozen 3
  simp only [List.getElem?_cons_zero, List.getElem?_cons_succ] at q0 q1 q2 q3
  go_wp2_with fail
  rw [show bits .xor .u64 (rot16 d) x3 = x4 from Hx4.out]
  rw [show IntKind.u64.wrap (x2 + x4) = x5 from Hx5.out]
  have hW4 : RAt ((v3.setCell ⟨w.heap.size, 3, none⟩ (.int .u64 x4)).setCell ⟨w.heap.size, 0, none⟩ (.int .u64 x5)) w.heap.size x5 x1 x3 x4 := hid_arr ((hU3.out.set_ 3 _).set_ 0 _)
  have hZ4 : Hid (Arr ((v3.setCell ⟨w.heap.size, 3, none⟩ (.int .u64 x4)).setCell ⟨w.heap.size, 0, none⟩ (.int .u64 x5)) (w.heap.size + 1) 67 [.int .u64 0, .int .u64 0, .int .u64 0, .int .u64 0]) := hid_arr ((hY3.out.far (by simp) _).far (by simp) _)
  have hB4 : Below w.heap.size w ((v3.setCell ⟨w.heap.size, 3, none⟩ (.int .u64 x4)).setCell ⟨w.heap.size, 0, none⟩ (.int .u64 x5)) := ((hC3.setCell (by simp) _).setCell (by simp) _)
  clear q0 q1 q2 q3 f0 f1 f2 f3 hU3 hY3 hC3
  generalize ((v3.setCell ⟨w.heap.size, 3, none⟩ (.int .u64 x4)).setCell ⟨w.heap.size, 0, none⟩ (.int .u64 x5)) = u4 at hW4 hZ4 hB4 ⊢
  have q0 := hW4.out.cell 0
  have q1 := hW4.out.cell 1
  have q2 := hW4.out.cell 2
  have q3 := hW4.out.cell 3
  have f0 := hW4.out.frozen 0
  have f1 := hW4.out.frozen 1
  have f2 := hW4.out.frozen 2
  have f3 := hW4.out.frozen 3
  simp only [List.getElem?_cons_zero, List.getElem?_cons_succ] at q0 q1 q2 q3
  refine wp_region_still_tail 7 (by kernel_rfl) (by kernel_rfl) ?_
  simp only [List.take_succ_cons, List.take_zero, List.drop_succ_cons, List.drop_zero]
  repeat (first | still_step | still_call ((turned21_c _ _ (by assumption))))
  try refine wpStill_nil ?_
  have hU4 : RAt (u4.drew) w.heap.size x5 x1 x3 x4 := hW4
  have hY4 : Hid (Arr (u4.drew) (w.heap.size + 1) 67 [.int .u64 0, .int .u64 0, .int .u64 0, .int .u64 0]) := hZ4
  have hC4 : Below w.heap.size w (u4.drew) := hB4.drew
  clear q0 q1 q2 q3 f0 f1 f2 f3 hW4 hZ4 hB4
  change wpList _ _ _ _ _ (u4.drew)
  generalize u4.drew = v4 at hU4 hY4 hC4 ⊢
  have q0 := hU4.out.cell 0
  have q1 := hU4.out.cell 1
  have q2 := hU4.out.cell 2
  have q3 := hU4.out.cell 3
  have f0 := hU4.out.frozen 0
  have f1 := hU4.out.frozen 1
  have f2 := hU4.out.frozen 2
  have f3 := hU4.out.frozen 3
  simp only [List.getElem?_cons_zero, List.getElem?_cons_succ] at q0 q1 q2 q3
  go_wp2_with fail
  rw [show bits .xor .u64 (rot21 x4) x5 = x6 from Hx6.out]
  rw [show IntKind.u64.wrap (x3 + x1) = x7 from Hx7.out]
  have hW5 : RAt ((v4.setCell ⟨w.heap.size, 3, none⟩ (.int .u64 x6)).setCell ⟨w.heap.size, 2, none⟩ (.int .u64 x7)) w.heap.size x5 x1 x7 x6 := hid_arr ((hU4.out.set_ 3 _).set_ 2 _)
  have hZ5 : Hid (Arr ((v4.setCell ⟨w.heap.size, 3, none⟩ (.int .u64 x6)).setCell ⟨w.heap.size, 2, none⟩ (.int .u64 x7)) (w.heap.size + 1) 67 [.int .u64 0, .int .u64 0, .int .u64 0, .int .u64 0]) := hid_arr ((hY4.out.far (by simp) _).far (by simp) _)
  have hB5 : Below w.heap.size w ((v4.setCell ⟨w.heap.size, 3, none⟩ (.int .u64 x6)).setCell ⟨w.heap.size, 2, none⟩ (.int .u64 x7)) := ((hC4.setCell (by simp) _).setCell (by simp) _)
  clear q0 q1 q2 q3 f0 f1 f2 f3 hU4 hY4 hC4
  generalize ((v4.setCell ⟨w.heap.size, 3, none⟩ (.int .u64 x6)).setCell ⟨w.heap.size, 2, none⟩ (.int .u64 x7)) = u5 at hW5 hZ5 hB5 ⊢
  have q0 := hW5.out.cell 0
  have q1 := hW5.out.cell 1
  have q2 := hW5.out.cell 2
  have q3 := hW5.out.cell 3
  have f0 := hW5.out.frozen 0
  have f1 := hW5.out.frozen 1
  have f2 := hW5.out.frozen 2
  have f3 := hW5.out.frozen 3
  simp only [List.getElem?_cons_zero, List.getElem?_cons_succ] at q0 q1 q2 q3
  refine wp_region_still_tail 7 (by kernel_rfl) (by kernel_rfl) ?_
  simp only [List.take_succ_cons, List.take_zero, List.drop_succ_cons, List.drop_zero]
  repeat (first | still_step | still_call ((turned17_c _ _ (by assumption))))
  try refine wpStill_nil ?_
  have hU5 : RAt (u5.drew) w.heap.size x5 x1 x7 x6 := hW5
  have hY5 : Hid (Arr (u5.drew) (w.heap.size + 1) 67 [.int .u64 0, .int .u64 0, .int .u64 0, .int .u64 0]) := hZ5
  have hC5 : Below w.heap.size w (u5.drew) := hB5.drew
  clear q0 q1 q2 q3 f0 f1 f2 f3 hW5 hZ5 hB5
  change wpList _ _ _ _ _ (u5.drew)
  generalize u5.drew = v5 at hU5 hY5 hC5 ⊢
  have q0 := hU5.out.cell 0
  have q1 := hU5.out.cell 1
  have q2 := hU5.out.cell 2
  have q3 := hU5.out.cell 3
  have f0 := hU5.out.frozen 0
  have f1 := hU5.out.frozen 1
  have f2 := hU5.out.frozen 2
  have f3 := hU5.out.frozen 3
  simp only [List.getElem?_cons_zero, List.getElem?_cons_succ] at q0 q1 q2 q3
  go_wp2_with fail
  rw [show bits .xor .u64 (rot17 x1) x7 = x8 from Hx8.out]
  have hW6 : RAt (v5.setCell ⟨w.heap.size, 1, none⟩ (.int .u64 x8)) w.heap.size x5 x8 x7 x6 := hid_arr (hU5.out.set_ 1 _)
  have hZ6 : Hid (Arr (v5.setCell ⟨w.heap.size, 1, none⟩ (.int .u64 x8)) (w.heap.size + 1) 67 [.int .u64 0, .int .u64 0, .int .u64 0, .int .u64 0]) := hid_arr (hY5.out.far (by simp) _)
  have hB6 : Below w.heap.size w (v5.setCell ⟨w.heap.size, 1, none⟩ (.int .u64 x8)) := (hC5.setCell (by simp) _)
  clear q0 q1 q2 q3 f0 f1 f2 f3 hU5 hY5 hC5
  generalize (v5.setCell ⟨w.heap.size, 1, none⟩ (.int .u64 x8)) = u6 at hW6 hZ6 hB6 ⊢
  have r0 := hZ6.out.cell 0
  have r1 := hZ6.out.cell 1
  have r2 := hZ6.out.cell 2
  have r3 := hZ6.out.cell 3
  have rf0 := hZ6.out.frozen 0
  have rf1 := hZ6.out.frozen 1
  have rf2 := hZ6.out.frozen 2
  have rf3 := hZ6.out.frozen 3
  simp only [List.getElem?_cons_zero, List.getElem?_cons_succ] at r0 r1 r2 r3
  refine (turned32_c x7 _ (by assumption)).mono ?_
  rintro e w9 ⟨rfl, hw9⟩
  replace hw9 := hw9.symm
  subst hw9
  have q0 := hW6.out.cell 0
  have q1 := hW6.out.cell 1
  have q2 := hW6.out.cell 2
  have q3 := hW6.out.cell 3
  have f0 := hW6.out.frozen 0
  have f1 := hW6.out.frozen 1
  have f2 := hW6.out.frozen 2
  have f3 := hW6.out.frozen 3
  simp only [List.getElem?_cons_zero, List.getElem?_cons_succ] at q0 q1 q2 q3
  go_wp2_with fail
  rw [show rot32 x7 = x9 from Hx9.out]
  refine ret_rw (g := w.heap.size + 1) rfl (((((hZ6.out.far (by simp) _).set_ 0 _).set_ 1 _).set_ 2 _).set_ 3 _) rfl rfl rfl rfl rfl rfl ⟨rfl, (((((hB6.setCell (by simp) _).setCell (by simp) _).setCell (by simp) _).setCell (by simp) _).setCell (by simp) _)⟩
end Go.Proofs.Ytgfmjgfeiokcdaa.Old
