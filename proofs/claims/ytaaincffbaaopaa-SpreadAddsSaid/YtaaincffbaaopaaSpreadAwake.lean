/- The chapter's example of spread. Conditions: none. -/
import Derived.Test.YtaaincffbaaopaaSpreadNew
namespace Go.Proofs.Ytaaincffbaaopaa
open Go.RowKit
set_option maxRecDepth 100000 in
theorem spread_awake_c (w : World) : Calls Try.prog 55 #[] w fun e w' => e = .returned (.bool true) ∧ Below w.heap.size w w' := by
  have hand : bits .and .i64 ((4 : Nat) : Int) (((4 : Nat) : Int) - 1) = 0 := by decide
  have hA := hid_arr (Arr.new w 3 ([7, 8].map i64v))
  have hb1 : Below w.heap.size w (w.alloc (.cells #[.int .i64 7, .int .i64 8] 3)) := (Below.refl _ _).alloc (Nat.le_refl _) _
  go_enter Try.func55, Try.ntmps55
  go_wp2_with fail
  refine (spread_new_c 4 (some ⟨w.heap.size, 0, none⟩) 2 [7, 8] (w.alloc (.cells #[.int .i64 7, .int .i64 8] 3)) (hA.out.view hA.out.lt) (by omega) (by omega) (by decide) (by decide) hand).mono ?_
  rintro e w2 ⟨A', c', rfl, hc, hv, hb2⟩
  have hb3 := hb1.trans (hb2.mono hb1.size)
  have hT := hid_arr (Arr.new w2 107 [.slice A' 4 c'])
  have hv3 : View (w2.alloc (.cells #[.slice A' 4 c'] 107)) (w2.alloc (.cells #[.slice A' 4 c'] 107)).heap.size A' ((cyc [7, 8] 4).map i64v) := (hv.alloc (Nat.le_refl _) _).more (by simp)
  have hb4 : Below w.heap.size w (w2.alloc (.cells #[.slice A' 4 c'] 107)) := hb3.alloc hb3.size _
  go_wp2_with fail
  refine (table_pick_c 4 A' c' (cyc [7, 8] 4) 0 _ hv3 rfl (by omega) (by omega) (by omega)).mono ?_
  rintro e w4 ⟨rfl, hb5⟩
  have hT4 := (show Arr (w2.alloc (.cells #[.slice A' 4 c'] 107)) w2.heap.size 107 [.slice A' 4 c'] from hT.out).below hb5 hT.out.lt
  have hv4 := (hv3.below hb5).more hb5.size
  have qT := hT4.cell 0
  simp only [List.getElem?_cons_zero] at qT
  have hb6 := hb4.trans (hb5.mono hb4.size)
  rw [show (cyc [7, 8] 4).getD (0 % 4) 0 = 7 by decide]
  go_wp2_with fail
  refine (table_pick_c 4 A' c' (cyc [7, 8] 4) 5 _ hv4 rfl (by omega) (by omega) (by omega)).mono ?_
  rintro e w5 ⟨rfl, hb7⟩
  rw [show (cyc [7, 8] 4).getD (5 % 4) 0 = 8 by decide]
  go_wp2
  go_ret
  exact ⟨rfl, hb6.trans (hb7.mono hb6.size)⟩
end Go.Proofs.Ytaaincffbaaopaa
