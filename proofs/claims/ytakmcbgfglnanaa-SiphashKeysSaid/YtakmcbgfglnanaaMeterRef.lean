
/- The reference's bucket by contracts: a struct by value. Conditions: none but bounds on the numbers. -/
import Derived.Test.YtakmcbgfglnanaaMeterMore
import Derived.Laws.ResultCell
import Derived.Deep.Cut
import Derived.Deep.DeepCutAuto
namespace Go.Proofs.Ytakmcbgfglnanaa
open Go.RowKit

theorem results_cell_one {fn : Func} {p : Tmp} {ty : TypeId} (h : fn.results = #[.cell p ty]) (tmps : Array Value) (P : Program) (w : World) :
    (results fn tmps).run P w = ((asAddr (tmps.getD p undef)).run P w).andThen fun a w₁ => (loadVar ty a).run P w₁ := by
  simp only [results, h]
  simp [Sem.run_bind, Result.andThen]
theorem load_rb {w : World} {g : Nat} {a b c d : Value} (hA : Arr w g 49 [a, b, c, d]) (h1 : a.oneCell' = true) (h2 : b.oneCell' = true) (h3 : c.oneCell' = true) (h4 : d.oneCell' = true) :
    (loadVar 49 ⟨g, 0, none⟩).run Try.prog w = .ok (.agg #[a, b, c, d]) w := by
  have q0 := hA.cell 0
  have q1 := hA.cell 1
  have q2 := hA.cell 2
  have q3 := hA.cell 3
  simp only [List.getElem?_cons_zero, List.getElem?_cons_succ] at q0 q1 q2 q3
  go_simp
theorem ret_rb1 {fn : Func} {R : Ending → World → Prop} {act : Act} {w : World} {g p : Nat} {a b c d : Value} (hres : fn.results = #[.cell p 49]) (hA : Arr w g 49 [a, b, c, d])
    (h1 : a.oneCell' = true) (h2 : b.oneCell' = true) (h3 : c.oneCell' = true) (h4 : d.oneCell' = true)
    (hp : act.tmps.getD p undef = .pointer (some ⟨g, 0, none⟩)) (hd : act.defers = [])
    (hR : R (.returned (.agg #[a, b, c, d])) w) : bodyPost Try.prog fn R .ret act w := by
  refine bodyPost_ret_by (v := .agg #[a, b, c, d]) ?_ hd hR
  rw [results_cell_one hres, hp]
  simp only [asAddr, Sem.run_pure, Result.andThen, load_rb hA h1 h2 h3 h4]
theorem ret_rb2 {fn : Func} {R : Ending → World → Prop} {act : Act} {w : World} {g p u : Nat} {a b c d v : Value} (hres : fn.results = #[.cell p 49, .tmp u]) (hA : Arr w g 49 [a, b, c, d])
    (h1 : a.oneCell' = true) (h2 : b.oneCell' = true) (h3 : c.oneCell' = true) (h4 : d.oneCell' = true)
    (hp : act.tmps.getD p undef = .pointer (some ⟨g, 0, none⟩)) (hv : act.tmps.getD u undef = v) (hd : act.defers = [])
    (hR : R (.returned (.tuple #[.agg #[a, b, c, d], v])) w) : bodyPost Try.prog fn R .ret act w := by
  refine bodyPost_ret_by (v := .tuple #[.agg #[a, b, c, d], v]) ?_ hd hR
  rw [results_cell_tmp hres, hp, hv]
  simp only [asAddr, Sem.run_pure, Result.andThen, load_rb hA h1 h2 h3 h4]
def bktV (r s l t : Nat) : Value := .agg #[.int .u64 (r : Int), .int .u64 (s : Int), .int .u64 (l : Int), .int .u64 (t : Int)]

theorem arr_new2 (w : World) (o : Obj) (t : TypeId) (l : List Value) : Arr ((w.alloc o).alloc (.cells l.toArray t)) (w.heap.size + 1) t l := by
  have := Arr.new (w.alloc o) t l
  simpa using this
theorem below2 (w : World) (o o' : Obj) : Below w.heap.size w ((w.alloc o).alloc o') := ((Below.refl _ _).alloc (Nat.le_refl _) _).alloc (by simp) _

set_option maxRecDepth 100000 in
theorem ref_fill_c (r s l t now : Nat) (w : World) (hr : r ≤ 2147483648) (hs : s ≤ 2147483648) (hl : l ≤ s) (hnow : U64 now) :
    Calls Try.prog 28 #[bktV r s l t, .int .u64 (now : Int)] w fun e w' => e = .returned (bktV r s (refL r s l t now) (max t now)) ∧ Below w.heap.size w w' := by
  have hb1 : (0 : Int) ≤ (now : Int) ∧ (now : Int) < 18446744073709551616 := by have := hnow.out; omega
  unfold bktV
  by_cases h1 : (now : Int) ≤ (t : Int)
  · rw [show refL r s l t now = l by unfold refL; rw [if_pos (by omega)], show max t now = t by omega]
    go_enter Try.func28, Try.ntmps28
    go_wp2
    refine ret_rb1 (g := w.heap.size + 1) rfl (arr_new2 w _ 49 [_, _, _, _]) rfl rfl rfl rfl rfl rfl ⟨rfl, below2 w _ _⟩
  · obtain ⟨d, hmin⟩ : ∃ d : Nat, min (now - t) 2147483648 = d := ⟨_, rfl⟩
    have hdl : d ≤ 2147483648 := by omega
    have hm2 : r * d ≤ 4611686018427387904 := by have := Nat.mul_le_mul hr hdl; omega
    have hm3 : (0 : Int) ≤ (d : Int) * (r : Int) ∧ (d : Int) * (r : Int) ≤ 4611686018427387904 := by
      rw [Int.mul_comm, ← Int.natCast_mul]; omega
    have e1 : refL r s l t now = min (l + r * d) s := by unfold refL; rw [if_neg (by omega), hmin]
    have e3 : ((r * d : Nat) : Int) = (d : Int) * (r : Int) := by rw [Int.natCast_mul, Int.mul_comm]
    rw [show max t now = now by omega]
    by_cases h2 : (2147483648 : Int) < (now : Int) - (t : Int)
    · obtain rfl : d = 2147483648 := by omega
      by_cases h3 : (s : Int) < (l : Int) + 2147483648 * (r : Int)
      · rw [show ((refL r s l t now : Nat) : Int) = (s : Int) by rw [e1]; omega]
        clear e1 e3 hmin
        go_enter Try.func28, Try.ntmps28
        go_wp2
        refine ret_rb1 (g := w.heap.size + 1) rfl (arr_new2 w _ 49 [_, _, _, _]) rfl rfl rfl rfl rfl rfl ⟨rfl, below2 w _ _⟩
      · rw [show ((refL r s l t now : Nat) : Int) = (l : Int) + 2147483648 * (r : Int) by rw [e1]; omega]
        clear e1 e3 hmin
        go_enter Try.func28, Try.ntmps28
        go_wp2
        refine ret_rb1 (g := w.heap.size + 1) rfl (arr_new2 w _ 49 [_, _, _, _]) rfl rfl rfl rfl rfl rfl ⟨rfl, below2 w _ _⟩
    · have hd : (d : Int) = (now : Int) - (t : Int) := by omega
      rw [hd] at hm3 e3
      by_cases h3 : (s : Int) < (l : Int) + ((now : Int) - (t : Int)) * (r : Int)
      · rw [show ((refL r s l t now : Nat) : Int) = (s : Int) by rw [e1]; omega]
        clear e1 e3 hmin hd
        go_enter Try.func28, Try.ntmps28
        go_wp2
        refine ret_rb1 (g := w.heap.size + 1) rfl (arr_new2 w _ 49 [_, _, _, _]) rfl rfl rfl rfl rfl rfl ⟨rfl, below2 w _ _⟩
      · rw [show ((refL r s l t now : Nat) : Int) = (l : Int) + ((now : Int) - (t : Int)) * (r : Int) by rw [e1]; omega]
        clear e1 e3 hmin hd
        go_enter Try.func28, Try.ntmps28
        go_wp2
        refine ret_rb1 (g := w.heap.size + 1) rfl (arr_new2 w _ 49 [_, _, _, _]) rfl rfl rfl rfl rfl rfl ⟨rfl, below2 w _ _⟩

set_option maxRecDepth 100000 in
set_option maxHeartbeats 1000000 in
theorem ref_take_c (r s l t n now : Nat) (w : World) (hr : r ≤ 2147483648) (hs : s ≤ 2147483648) (hl : l ≤ s) (hnow : U64 now) (hn : U64 n) (b : Bool) (hb : b = decide (n ≤ refL r s l t now)) :
    Calls Try.prog 29 #[bktV r s l t, .int .u64 (n : Int), .int .u64 (now : Int)] w fun e w' => e = .returned (.tuple #[bktV r s (refL r s l t now - if b then n else 0) (max t now), .bool b]) ∧ Below w.heap.size w w' := by
  have hb0 := below2 w (.cells #[.int .u64 (r : Int), .int .u64 (s : Int), .int .u64 (l : Int), .int .u64 (t : Int)] 49) (.cells #[.int .u64 0, .int .u64 0, .int .u64 0, .int .u64 0] 49)
  have hA0 := Lib.hid (arr_new2 w (.cells #[.int .u64 (r : Int), .int .u64 (s : Int), .int .u64 (l : Int), .int .u64 (t : Int)] 49) 49 [.int .u64 0, .int .u64 0, .int .u64 0, .int .u64 0])
  have hA1 := Lib.hid ((Arr.new w 49 [.int .u64 (r : Int), .int .u64 (s : Int), .int .u64 (l : Int), .int .u64 (t : Int)]).alloc (.cells #[.int .u64 0, .int .u64 0, .int .u64 0, .int .u64 0] 49))
  have hc := ref_fill_c r s l t now ((w.alloc (.cells #[.int .u64 (r : Int), .int .u64 (s : Int), .int .u64 (l : Int), .int .u64 (t : Int)] 49)).alloc (.cells #[.int .u64 0, .int .u64 0, .int .u64 0, .int .u64 0] 49)) hr hs hl hnow
  have HC := Lib.hid hc
  have hle := refL_le (r := r) (t := t) (now := now) hl
  have HB := Lib.hid hb
  clear hb hc
  unfold bktV at HC ⊢
  go_enter Try.func29, Try.ntmps29
  go_wp2_with fail
  refine HC.out.mono ?_
  rintro e w1 ⟨rfl, hb1⟩
  have hA2 := hid_arr (hA0.out.below hb1 (by simp))
  have hA3 := hid_arr (hA1.out.below hb1 (by simp; omega))
  have hb2 := hb0.trans (hb1.mono (by simp; omega))
  clear HC hA0 hA1 hb0 hb1
  have r0 := hA2.out.cell 0
  have r1 := hA2.out.cell 1
  have r2 := hA2.out.cell 2
  have r3 := hA2.out.cell 3
  have rf0 := hA2.out.frozen 0
  have rf1 := hA2.out.frozen 1
  have rf2 := hA2.out.frozen 2
  have rf3 := hA2.out.frozen 3
  have c0 := hA3.out.cell 0
  have c1 := hA3.out.cell 1
  have c2 := hA3.out.cell 2
  have c3 := hA3.out.cell 3
  have cf0 := hA3.out.frozen 0
  have cf1 := hA3.out.frozen 1
  have cf2 := hA3.out.frozen 2
  have cf3 := hA3.out.frozen 3
  simp only [List.getElem?_cons_zero, List.getElem?_cons_succ] at r0 r1 r2 r3 c0 c1 c2 c3
  have hl2 := hA2.out.lt
  have hws := hb2.size
  obtain ⟨lv, hlv⟩ : ∃ x, x = refL r s l t now := ⟨_, rfl⟩
  obtain ⟨y, hy⟩ : ∃ x, x = max t now := ⟨_, rfl⟩
  rw [← hlv] at hle HB ⊢
  rw [← hy]
  have HL := Lib.hid hlv
  have HY := Lib.hid hy
  clear hlv hy
  go_upto_if 14 with (fail)
  have hA4 := ((((hA3.out.set_ 0 (.int .u64 (r : Int))).set_ 1 (.int .u64 (s : Int))).set_ 2 (.int .u64 (lv : Int))).set_ 3 (.int .u64 (y : Int)))
  have hA5 := ((((hA2.out.far (p := ⟨w.heap.size, 0, none⟩) (by simp) (.int .u64 (r : Int))).far (p := ⟨w.heap.size, 1, none⟩) (by simp) (.int .u64 (s : Int))).far (p := ⟨w.heap.size, 2, none⟩) (by simp) (.int .u64 (lv : Int))).far (p := ⟨w.heap.size, 3, none⟩) (by simp) (.int .u64 (y : Int)))
  have hb3 : Below w.heap.size w ((((w1.setCell ⟨w.heap.size, 0, none⟩ (.int .u64 (r : Int))).setCell ⟨w.heap.size, 1, none⟩ (.int .u64 (s : Int))).setCell ⟨w.heap.size, 2, none⟩ (.int .u64 (lv : Int))).setCell ⟨w.heap.size, 3, none⟩ (.int .u64 (y : Int))) := (((hb2.setCell (by simp) _).setCell (by simp) _).setCell (by simp) _).setCell (by simp) _
  simp only [List.set_cons_zero, List.set_cons_succ] at hA4
  clear r0 r1 r2 r3 rf0 rf1 rf2 rf3 c0 c1 c2 c3 cf0 cf1 cf2 cf3 hA2 hA3 hb2 hl2 hws
  generalize (((w1.setCell ⟨w.heap.size, 0, none⟩ (.int .u64 (r : Int))).setCell ⟨w.heap.size, 1, none⟩ (.int .u64 (s : Int))).setCell ⟨w.heap.size, 2, none⟩ (.int .u64 (lv : Int))).setCell ⟨w.heap.size, 3, none⟩ (.int .u64 (y : Int)) = w2 at hA4 hA5 hb3 ⊢
  have r0 := hA5.cell 0
  have r1 := hA5.cell 1
  have r2 := hA5.cell 2
  have r3 := hA5.cell 3
  have rf0 := hA5.frozen 0
  have rf1 := hA5.frozen 1
  have rf2 := hA5.frozen 2
  have rf3 := hA5.frozen 3
  have c0 := hA4.cell 0
  have c1 := hA4.cell 1
  have c2 := hA4.cell 2
  have c3 := hA4.cell 3
  have cf2 := hA4.frozen 2
  simp only [List.getElem?_cons_zero, List.getElem?_cons_succ] at r0 r1 r2 r3 c0 c1 c2 c3
  have hl2 := hA5.lt
  have hA6 := Lib.hid hA5
  clear hA4 hA5
  cases b with
  | true =>
    have h2 : ¬ (lv : Int) < (n : Int) := by have := of_decide_eq_true HB.out.symm; omega
    go_wp2
    refine ret_rb2 (g := w.heap.size + 1) (v := .bool true) rfl (((((hA6.out.far (by simp) _).set_ 0 _).set_ 1 _).set_ 2 _).set_ 3 _) rfl rfl rfl rfl rfl rfl rfl ⟨?_, ?_⟩
    · rw [← HL.out, ← HY.out, show (lv : Int) - (n : Int) = ((lv - n : Nat) : Int) by have := of_decide_eq_true HB.out.symm; omega]; try rfl
    · exact ((((hb3.setCell (by simp) _).setCell (by simp) _).setCell (by simp) _).setCell (by simp) _).setCell (by simp) _
  | false =>
    have h1 : (lv : Int) < (n : Int) := by have := of_decide_eq_false HB.out.symm; omega
    go_wp2
    refine ret_rb2 (g := w.heap.size + 1) (v := .bool false) rfl ((((hA6.out.set_ 0 _).set_ 1 _).set_ 2 _).set_ 3 _) rfl rfl rfl rfl rfl rfl rfl ⟨?_, ?_⟩
    · rw [← HL.out, ← HY.out]; try rfl
    · exact (((hb3.setCell (by simp) _).setCell (by simp) _).setCell (by simp) _).setCell (by simp) _
end Go.Proofs.Ytakmcbgfglnanaa
