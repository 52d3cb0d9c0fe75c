
/- The chapter's example of turn, and candidates as an argument. Conditions: none. -/
import Derived.Test.YtakmcbgfglnanaaTurnPick
import Derived.Test.YtakmcbgfglnanaaKit
namespace Go.Proofs.Ytakmcbgfglnanaa
open Go.RowKit

def exL : List Cd := [⟨1, 0, 0, 0⟩, ⟨4, 0, 0, 0⟩]
set_option maxRecDepth 100000 in
theorem turn_awake_c (w : World) : Calls Try.prog 17 #[] w fun e w' => e = .returned (.bool true) ∧ Below w.heap.size w w' := by
  have hT0 : TurnAt (w.alloc (.cells #[.int .i64 0] 26)) w.heap.size 0 := hid_arr (Arr.new w 26 [.int .i64 0])
  have hb0 : Below w.heap.size w ((w.alloc (.cells #[.int .i64 0] 26)).alloc (.cells #[.int .i64 1, .int .i64 0, .int .i64 0, .int .u32 0, .int .i64 4, .int .i64 0, .int .i64 0, .int .u32 0] 34)) := ((Below.refl _ _).alloc (Nat.le_refl _) _).alloc (by simp) _
  have hL := Lib.hid (Arr.new (w.alloc (.cells #[.int .i64 0] 26)) 34 (cdsV exL))
  rw [show (w.alloc (.cells #[.int .i64 0] 26)).heap.size = w.heap.size + 1 by simp] at hL
  have hT1 : TurnAt ((w.alloc (.cells #[.int .i64 0] 26)).alloc (.cells #[.int .i64 1, .int .i64 0, .int .i64 0, .int .u32 0, .int .i64 4, .int .i64 0, .int .i64 0, .int .u32 0] 34)) w.heap.size 0 := hid_arr (hT0.out.alloc _)
  have hv1 := Lib.hid (hL.out.view hL.out.lt)
  clear hT0
  go_enter Try.func17, Try.ntmps17
  go_wp2_with fail
  refine (turn_pick_c w.heap.size (some ⟨w.heap.size + 1, 0, none⟩) 2 exL 0 _ hv1.out (by decide) (by decide) hT1 (by intro j hj; have : j = 0 ∨ j = 1 := (by have h2 : exL.length = 2 := rfl; omega); rcases this with rfl | rfl <;> decide) (by omega)).mono ?_
  rintro e w1 ⟨rfl, hT2, hM1⟩
  rw [show cdAt exL (pickN exL 0) = ⟨1,0,0,0⟩ from rfl] at hT2 ⊢
  simp only [Cd.agg]
  have hb1 := hb0.trans (hM1.below (by simp; omega))
  have hs1 := hM1.size
  simp only [World.size_alloc] at hs1
  have hv1' := hv1.out.mod hM1 (by intro a ha; injection ha with ha; subst ha; simp) (Nat.le_refl _)
  have hv2 : View (w1.alloc (.cells #[.int .i64 1, .int .i64 0, .int .i64 0, .int .u32 0] 34)) (w1.alloc (.cells #[.int .i64 1, .int .i64 0, .int .i64 0, .int .u32 0] 34)).heap.size (some ⟨w.heap.size + 1, 0, none⟩) (cdsV exL) := ((hv1'.more hM1.size).alloc (Nat.le_refl _) _).more (by simp)
  have hT2' : TurnAt (w1.alloc (.cells #[.int .i64 1, .int .i64 0, .int .i64 0, .int .u32 0] 34)) w.heap.size 2 := hT2.below ((Below.refl _ _).alloc (Nat.le_refl _) _)
  have hb2 : Below w.heap.size w (w1.alloc (.cells #[.int .i64 1, .int .i64 0, .int .i64 0, .int .u32 0] 34)) := hb1.alloc hb1.size _
  have hA1 := hid_arr (Arr.new w1 34 [.int .i64 1, .int .i64 0, .int .i64 0, .int .u32 0])
  have hv2h := Lib.hid hv2
  clear hv1' hv2
  go_wp2_with fail
  refine (turn_pick_c w.heap.size (some ⟨w.heap.size + 1, 0, none⟩) 2 exL 2 _ hv2h.out (by decide) (by decide) hT2' (by intro j hj; have : j = 0 ∨ j = 1 := (by have h2 : exL.length = 2 := rfl; omega); rcases this with rfl | rfl <;> decide) (by omega)).mono ?_
  rintro e w2 ⟨rfl, hT3, hM2⟩
  rw [show cdAt exL (pickN exL 2) = ⟨4,0,0,0⟩ from rfl] at hT3 ⊢
  simp only [Cd.agg]
  have hb3 := hb2.trans (hM2.below (by simp; omega))
  have hs2 := hM2.size
  simp only [World.size_alloc] at hs2
  have hv2' := hv2h.out.mod hM2 (by intro a ha; injection ha with ha; subst ha; simp) (Nat.le_refl _)
  have hv3 : View (w2.alloc (.cells #[.int .i64 4, .int .i64 0, .int .i64 0, .int .u32 0] 34)) (w2.alloc (.cells #[.int .i64 4, .int .i64 0, .int .i64 0, .int .u32 0] 34)).heap.size (some ⟨w.heap.size + 1, 0, none⟩) (cdsV exL) := ((hv2'.more hM2.size).alloc (Nat.le_refl _) _).more (by simp)
  have hT3' : TurnAt (w2.alloc (.cells #[.int .i64 4, .int .i64 0, .int .i64 0, .int .u32 0] 34)) w.heap.size 5 := hT3.below ((Below.refl _ _).alloc (Nat.le_refl _) _)
  have hb4 : Below w.heap.size w (w2.alloc (.cells #[.int .i64 4, .int .i64 0, .int .i64 0, .int .u32 0] 34)) := hb3.alloc hb3.size _
  have hA2 := hid_arr ((hM2.arr (show Arr _ w1.heap.size 34 _ from hA1.out) (by omega)).alloc (.cells #[.int .i64 4, .int .i64 0, .int .i64 0, .int .u32 0] 34))
  have hA4 := hid_arr (Arr.new w2 34 [.int .i64 4, .int .i64 0, .int .i64 0, .int .u32 0])
  have hv3h := Lib.hid hv3
  clear hv2' hv3
  go_wp2_with fail
  refine (turn_pick_c w.heap.size (some ⟨w.heap.size + 1, 0, none⟩) 2 exL 5 _ hv3h.out (by decide) (by decide) hT3' (by intro j hj; have : j = 0 ∨ j = 1 := (by have h2 : exL.length = 2 := rfl; omega); rcases this with rfl | rfl <;> decide) (by omega)).mono ?_
  rintro e w3 ⟨rfl, hT4, hM3⟩
  rw [show cdAt exL (pickN exL 5) = ⟨1,0,0,0⟩ from rfl] at hT4 ⊢
  simp only [Cd.agg]
  have hb5 := hb4.trans (hM3.below (by simp; omega))
  have hs3 := hM3.size
  simp only [World.size_alloc] at hs3
  have hA3 := (hM3.arr (show Arr _ w1.heap.size 34 _ from hA2.out) (by omega))
  have hA5 := (hM3.arr (show Arr _ w2.heap.size 34 _ from hA4.out) (by omega))
  have k0 := (hA3.alloc (.cells #[.int .i64 1, .int .i64 0, .int .i64 0, .int .u32 0] 34)).cell 0
  have k4 := (hA5.alloc (.cells #[.int .i64 1, .int .i64 0, .int .i64 0, .int .u32 0] 34)).cell 0
  simp only [List.getElem?_cons_zero] at k0 k4
  go_wp2
  go_ret
  exact ⟨rfl, hb5.alloc hb5.size _⟩

open Go.ChangeShapes Go.WideShapes Go.ChangeAt in
set_option maxRecDepth 100000 in
/-- Candidates as an argument. -/
theorem open_cands {H : Type} {enc : TypeId × Value → H} {r : Reach} {b0 : Nat} {v : Value} {d : DataW H} {ps : List MemPlace} {w : World}
    (hval : Value.okWide Try.prog w r b0 27 v) (hd : DataW.Trod enc Try.prog w 0 (fun _ => true) true 27 v d ps) (hlt : ∀ x ∈ ps, x.block < w.heap.size) :
    ∃ (A : Option Addr) (c : Nat) (l : List Cd), v = .slice A l.length c ∧ (A = none → c = 0) ∧ l.length ≤ c ∧ c ≤ maxLen ∧ View w w.heap.size A (cdsV l) ∧ ∀ p ∈ l, p.ok := by
  have hC : Try.prog.cellsOf 137 = 4 := by kernel_rfl
  obtain ⟨A, n, c, es, rfl, hn, hA, hnc, hcm, hv, hes⟩ := open_elems Try.underlying27 (by rw [hC]; omega) hval hd hlt
  obtain ⟨l, rfl, hl⟩ := list_decode Cd.v Cd.ok es (by
    intro cs hcs
    obtain ⟨hl, m, x, ht, _⟩ := hes cs hcs
    rw [hC] at hl
    have hf := struct_fields Try.underlying137 (by kernel_rfl) ht hl
    obtain ⟨v0, y0, k0, h0, t0, _⟩ := hf 0 _ rfl
    obtain ⟨v1, y1, k1, h1, t1, _⟩ := hf 1 _ rfl
    obtain ⟨v2, y2, k2, h2, t2, _⟩ := hf 2 _ rfl
    obtain ⟨v3, y3, k3, h3, t3, _⟩ := hf 3 _ rfl
    obtain ⟨z0, e0, _, z0w⟩ := DataW.trod_int Try.underlying3 t0
    obtain ⟨z1, e1, _, z1w⟩ := DataW.trod_int Try.underlying3 t1
    obtain ⟨z2, e2, _, z2w⟩ := DataW.trod_int Try.underlying3 t2
    obtain ⟨z3, e3, _, z3w⟩ := DataW.trod_int Try.underlying32 t3
    injection e0 with e0; injection e1 with e1; injection e2 with e2; injection e3 with e3
    subst e0; subst e1; subst e2; subst e3
    simp [Lit.wf, IntKind.min, IntKind.max, IntKind.signed, IntKind.bits] at z0w z1w z2w z3w
    refine ⟨⟨z0, z1, z2, z3⟩, ?_, (by unfold Cd.ok; simp only; omega)⟩
    match cs, hl with
    | [c0, c1, c2, c3], _ => simp at h0 h1 h2 h3; rw [h0, h1, h2, h3]; rfl)
  refine ⟨A, c, l, by simp at hn; rw [hn], hA, by simp at hn; omega, hcm, by rw [cdsV, List.flatMap_def]; exact hv, hl⟩
end Go.Proofs.Ytakmcbgfglnanaa
