
/- meter.Bucket's Level, the nil bucket, what New refuses, and the reference's bucket, by contracts. Conditions: none but bounds on the numbers. -/
import Derived.Test.YtakmcbgfglnanaaMeter
namespace Go.Proofs.Ytakmcbgfglnanaa
open Go.RowKit

set_option maxRecDepth 100000 in
theorem bkt_level_c (g r s l t now : Nat) (w : World) (hB0 : BktAt w g r s l t) (hr : r ≤ 2147483648) (hs : s ≤ 2147483648) (hl : l ≤ s) (hnow : U64 now) :
    Calls Try.prog 27 #[.pointer (some ⟨g, 0, none⟩), .int .u64 (now : Int)] w fun e w' => e = .returned (.int .u64 (refL r s l t now : Nat)) ∧ BktAt w' g r s (refL r s l t now) (max t now) ∧ Mod g w w' := by
  go_enter Try.func27, Try.ntmps27
  go_wp2_with fail
  refine (refill_c g r s l t now w hB0 hr hs hl hnow).mono ?_
  rintro e w1 ⟨rfl, hB1, hM1⟩
  have q2 := hB1.out.cell 2
  simp only [List.getElem?_cons_zero, List.getElem?_cons_succ] at q2
  go_wp2
  go_ret
  exact ⟨rfl, hB1, hM1⟩

theorem none_take_c (n now : Int) (w : World) :
    Calls Try.prog 26 #[.pointer none, .int .u64 n, .int .u64 now] w fun e w' => e = .returned (.bool false) ∧ w = w' := by
  go_enter Try.func26, Try.ntmps26
  go_wp2
  go_ret
  exact ⟨rfl, rfl⟩
theorem none_level_c (now : Int) (w : World) :
    Calls Try.prog 27 #[.pointer none, .int .u64 now] w fun e w' => e = .returned (.int .u64 0) ∧ w = w' := by
  go_enter Try.func27, Try.ntmps27
  go_wp2
  go_ret
  exact ⟨rfl, rfl⟩
theorem new_bad_c (r s : Int) (w : World) (hr : 0 ≤ r ∧ r < 18446744073709551616) (hs : 0 ≤ s ∧ s < 18446744073709551616) (h : 2147483648 < r ∨ s < 1 ∨ 2147483648 < s) :
    Calls Try.prog 25 #[.int .u64 r, .int .u64 s] w fun e w' => e = .returned (.tuple #[.pointer none, .int .i64 1]) ∧ w = w' := by
  by_cases h1 : 2147483648 < r
  · go_enter Try.func25, Try.ntmps25
    go_wp2
    go_ret2
    exact ⟨rfl, rfl⟩
  by_cases h2 : s < 1
  · go_enter Try.func25, Try.ntmps25
    go_wp2
    go_ret2
    exact ⟨rfl, rfl⟩
  · have h3 : 2147483648 < s := by omega
    go_enter Try.func25, Try.ntmps25
    go_wp2
    go_ret2
    exact ⟨rfl, rfl⟩
end Go.Proofs.Ytakmcbgfglnanaa
