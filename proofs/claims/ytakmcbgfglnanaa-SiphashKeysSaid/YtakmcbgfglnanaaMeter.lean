
/- meter.Bucket's methods by contracts: a Bucket is a block of four numbers. Conditions: none but bounds on the numbers. -/
import Derived.Test.YtakmcbgfglnanaaMath
import Derived.Test.YtakmcbgfglnanaaMem
import Derived.Test.YtakmcbgfglnanaaTypes
import Derived.Test.YtakmcbgfglnanaaRegion
import Derived.Test.YtakmcbgfglnanaaReader
import Derived.KernelRfl
import Derived.IntWalk
import Derived.StillTailTactics
namespace Go.Proofs.Ytakmcbgfglnanaa
open Go.RowKit

/-- Bucket g: rate, size, level, time. -/
def BktAt (w : World) (g r s l t : Nat) : Prop := Hid (Arr w g 139 [.int .u64 (r : Int), .int .u64 (s : Int), .int .u64 (l : Int), .int .u64 (t : Int)])
theorem BktAt.lt {w g r s l t} (h : BktAt w g r s l t) : g < w.heap.size := h.out.lt
theorem BktAt.below {w w' g r s l t} (h : BktAt w g r s l t) (hb : Below w.heap.size w w') : BktAt w' g r s l t := h.out.below hb h.out.lt
def refL (r s l t now : Nat) : Nat := if now ≤ t then l else min (l + r * min (now - t) 2147483648) s


set_option maxRecDepth 100000 in
theorem refill_c (g r s l t now : Nat) (w : World) (hB0 : BktAt w g r s l t) (hr : r ≤ 2147483648) (hs : s ≤ 2147483648) (hl : l ≤ s) (hnow : U64 now) :
    Calls Try.prog 76 #[.pointer (some ⟨g, 0, none⟩), .int .u64 (now : Int)] w fun e w' => e = .returned (.tuple #[]) ∧ BktAt w' g r s (refL r s l t now) (max t now) ∧ Mod g w w' := by
  have q0 := hB0.out.cell 0
  have q1 := hB0.out.cell 1
  have q2 := hB0.out.cell 2
  have q3 := hB0.out.cell 3
  simp only [List.getElem?_cons_zero, List.getElem?_cons_succ] at q0 q1 q2 q3
  have f2 := hB0.out.frozen 2
  have f3 := hB0.out.frozen 3
  have hgs : g ≤ w.heap.size := Nat.le_of_lt hB0.lt
  have hb1 : (0 : Int) ≤ (now : Int) ∧ (now : Int) < 18446744073709551616 := by have := hnow.out; omega
  by_cases h1 : (now : Int) ≤ (t : Int)
  · go_enter Try.func76, Try.ntmps76
    go_wp2
    refine bodyPost_ret (results_none rfl _ _ _) rfl ?_
    rw [show refL r s l t now = l by unfold refL; rw [if_pos (by omega)], show max t now = t by omega]
    exact ⟨rfl, hB0, Mod.refl _ _⟩
  · obtain ⟨d, hmin⟩ : ∃ d : Nat, min (now - t) 2147483648 = d := ⟨_, rfl⟩
    have hdl : d ≤ 2147483648 := by omega
    have hm2 : r * d ≤ 4611686018427387904 := by have := Nat.mul_le_mul hr hdl; omega
    have HW := Lib.hid (show IntKind.u64.wrap ((l : Int) + IntKind.u64.wrap ((r : Int) * (d : Int))) = ((l + r * d : Nat) : Int) by
      rw [← Int.natCast_mul]; generalize r * d = q at hm2 ⊢; rw [IntWalk.u64_in (q : Int) (by omega), IntWalk.u64_in _ (by omega)]; omega)
    by_cases h2 : (2147483648 : Int) < (now : Int) - (t : Int)
    · have HD := Lib.hid (show (2147483648 : Int) = (d : Int) by omega)
      clear hm2
      go_enter Try.func76, Try.ntmps76
      go_wp2
      rw [HD.out]
      go_still_tail 19, (by kernel_rfl)
      change wpList _ _ _ _ _ w.drew
      have p0 : w.drew.cell? ⟨g, 0, none⟩ = _ := q0
      have p1 : w.drew.cell? ⟨g, 1, none⟩ = _ := q1
      have p2 : w.drew.cell? ⟨g, 2, none⟩ = _ := q2
      have p3 : w.drew.cell? ⟨g, 3, none⟩ = _ := q3
      have e2 : w.drew.frozen? ⟨g, 2, none⟩ = _ := f2
      have e3 : w.drew.frozen? ⟨g, 3, none⟩ = _ := f3
      have hA : Hid (Arr w.drew g 139 [.int .u64 (r : Int), .int .u64 (s : Int), .int .u64 (l : Int), .int .u64 (t : Int)]) := hid_arr (hB0.out)
      have hM : Mod g w w.drew := Mod.of_below (Below.refl _ _).drew
      generalize w.drew = w2 at p0 p1 p2 p3 e2 e3 hA hM ⊢
      clear q0 q1 q2 q3 f2 f3
      go_wp2
      all_goals
        refine bodyPost_end (results_none rfl _ _ _) rfl ?_
        rw [HW.out] at h
        have e1 : refL r s l t now = min (l + r * d) s := by unfold refL; rw [if_neg (by omega), hmin]
        rw [e1, show max t now = now by omega]
        refine ⟨rfl, ?_, (hM.set _ _).set _ _⟩
      · rw [show min (l + r * d) s = s by omega]
        exact hid_arr ((hA.out.set_ 2 (.int .u64 (s : Int))).set_ 3 (.int .u64 (now : Int)))
      · rw [show min (l + r * d) s = l + r * d by omega, HW.out]
        exact hid_arr ((hA.out.set_ 2 (.int .u64 ((l + r * d : Nat) : Int))).set_ 3 (.int .u64 (now : Int)))
    · have HD := Lib.hid (show (now : Int) - (t : Int) = (d : Int) by omega)
      clear hm2
      go_enter Try.func76, Try.ntmps76
      go_wp2
      rw [HD.out]
      go_still_tail 19, (by kernel_rfl)
      change wpList _ _ _ _ _ w.drew
      have p0 : w.drew.cell? ⟨g, 0, none⟩ = _ := q0
      have p1 : w.drew.cell? ⟨g, 1, none⟩ = _ := q1
      have p2 : w.drew.cell? ⟨g, 2, none⟩ = _ := q2
      have p3 : w.drew.cell? ⟨g, 3, none⟩ = _ := q3
      have e2 : w.drew.frozen? ⟨g, 2, none⟩ = _ := f2
      have e3 : w.drew.frozen? ⟨g, 3, none⟩ = _ := f3
      have hA : Hid (Arr w.drew g 139 [.int .u64 (r : Int), .int .u64 (s : Int), .int .u64 (l : Int), .int .u64 (t : Int)]) := hid_arr (hB0.out)
      have hM : Mod g w w.drew := Mod.of_below (Below.refl _ _).drew
      generalize w.drew = w2 at p0 p1 p2 p3 e2 e3 hA hM ⊢
      clear q0 q1 q2 q3 f2 f3
      go_wp2
      all_goals
        refine bodyPost_end (results_none rfl _ _ _) rfl ?_
        rw [HW.out] at h
        have e1 : refL r s l t now = min (l + r * d) s := by unfold refL; rw [if_neg (by omega), hmin]
        rw [e1, show max t now = now by omega]
        refine ⟨rfl, ?_, (hM.set _ _).set _ _⟩
      · rw [show min (l + r * d) s = s by omega]
        exact hid_arr ((hA.out.set_ 2 (.int .u64 (s : Int))).set_ 3 (.int .u64 (now : Int)))
      · rw [show min (l + r * d) s = l + r * d by omega, HW.out]
        exact hid_arr ((hA.out.set_ 2 (.int .u64 ((l + r * d : Nat) : Int))).set_ 3 (.int .u64 (now : Int)))

/-- What a Take of n leaves of a level. -/
def TakePost (w : World) (g r s l t n now : Nat) (e : Ending) (w' : World) : Prop :=
  (refL r s l t now < n ∧ e = .returned (.bool false) ∧ BktAt w' g r s (refL r s l t now) (max t now) ∧ Mod g w w') ∨
  (n ≤ refL r s l t now ∧ e = .returned (.bool true) ∧ BktAt w' g r s (refL r s l t now - n) (max t now) ∧ Mod g w w')
theorem refL_le {r s l t now : Nat} (h : l ≤ s) : refL r s l t now ≤ s := by unfold refL; split <;> omega

set_option maxRecDepth 100000 in
theorem bkt_take_c (g r s l t n now : Nat) (w : World) (hB0 : BktAt w g r s l t) (hr : r ≤ 2147483648) (hs : s ≤ 2147483648) (hl : l ≤ s) (hnow : U64 now) (hn : U64 n) :
    Calls Try.prog 26 #[.pointer (some ⟨g, 0, none⟩), .int .u64 (n : Int), .int .u64 (now : Int)] w (TakePost w g r s l t n now) := by
  go_enter Try.func26, Try.ntmps26
  go_wp2_with fail
  refine (refill_c g r s l t now w hB0 hr hs hl hnow).mono ?_
  rintro e w1 ⟨rfl, hB1, hM1⟩
  have hle := refL_le (r := r) (t := t) (now := now) hl
  obtain ⟨x, hx⟩ : ∃ x, x = refL r s l t now := ⟨_, rfl⟩
  obtain ⟨y, hy⟩ : ∃ y, y = max t now := ⟨_, rfl⟩
  rw [← hx] at hB1 hle
  rw [← hy] at hB1
  have HX := Lib.hid hx
  have HY := Lib.hid hy
  clear hx hy hB0 hl
  have q2 := hB1.out.cell 2
  simp only [List.getElem?_cons_zero, List.getElem?_cons_succ] at q2
  have f2 := hB1.out.frozen 2
  by_cases h1 : (x : Int) < (n : Int)
  · go_wp2
    go_ret
    unfold TakePost
    rw [← HX.out, ← HY.out]
    exact .inl ⟨by omega, rfl, hB1, hM1⟩
  · go_wp2
    go_ret
    unfold TakePost
    rw [← HX.out, ← HY.out]
    refine .inr ⟨by omega, rfl, ?_, hM1.set _ _⟩
    rw [show (x : Int) - (n : Int) = ((x - n : Nat) : Int) by omega]
    exact hid_arr (hB1.out.set_ 2 (.int .u64 ((x - n : Nat) : Int)))

theorem new_c (r s : Nat) (w : World) (hr : r ≤ 2147483648) (hs : s ≤ 2147483648) (hs1 : 1 ≤ s) :
    Calls Try.prog 25 #[.int .u64 (r : Int), .int .u64 (s : Int)] w fun e w' => ∃ g, e = .returned (.tuple #[.pointer (some ⟨g, 0, none⟩), .int .i64 0]) ∧ w.heap.size ≤ g ∧ BktAt w' g r s s 0 ∧ Below w.heap.size w w' := by
  go_enter Try.func25, Try.ntmps25
  go_wp2
  go_ret2
  exact ⟨w.heap.size, rfl, Nat.le_refl _, hid_arr (Arr.new w 139 [.int .u64 (r : Int), .int .u64 (s : Int), .int .u64 (s : Int), .int .u64 0]), (Below.refl _ _).alloc (Nat.le_refl _) _⟩
end Go.Proofs.Ytakmcbgfglnanaa
