
/- Proved: SpreadPlaces returns true for every input, and changes no memory that was there. Conditions: none. -/
import Derived.Test.YtchpcijmgnfkfaaSpreadPlacesA
import Derived.Test.YtchpcijmgnfkfaaSpreadPlacesB
import Derived.Test.YtchpcijmgnfkfaaSpreadPlacesC
namespace Go.Proofs.Ytchpcijmgnfkfaa
open Go.RowKit
namespace SpreadPlaces
theorem walk (z : Int) (A1 : Option Addr) (n1 c1 : Nat) (l1 : List Int) (s : Int) (gone : Int) (A4 : Option Addr) (n4 c4 : Nat) (l4 : List Int) (w0 : World)
    (hz : -9223372036854775808 ≤ z ∧ z ≤ 9223372036854775807) (r1 : l1.length = n1 ∧ (A1 = none → c1 = 0) ∧ (∀ x ∈ l1, I64 x) ∧ View w0 w0.heap.size A1 (l1.map i64v) ∧ n1 ≤ c1) (hs : 0 ≤ s ∧ s < 4294967296) (hg : -9223372036854775808 ≤ gone ∧ gone ≤ 9223372036854775807)
    (r4 : l4.length = n4 ∧ (A4 = none → c4 = 0) ∧ (∀ x ∈ l4, I64 x) ∧ View w0 w0.heap.size A4 (l4.map i64v) ∧ n4 ≤ c4) :
    Calls Try.prog 6 #[.int .i64 z, .slice A1 n1 c1, .int .u32 s, .int .i64 gone, .slice A4 n4 c4] w0 fun e w' => e = .returned (.bool true) ∧ Below w0.heap.size w0 w' := by
  obtain ⟨s, rfl⟩ := Int.eq_ofNat_of_zero_le hs.1
  obtain ⟨rfl, _, _, hv1, hc1⟩ := r1
  obtain ⟨rfl, _, _, hv4, hc4⟩ := r4
  have hs2 : s < 4294967296 := by omega
  have hsize : (l1.length = 0 ∨ ∀ j, j ≤ 12 → z ≠ ((2 ^ j : Nat) : Int)) ∨ (0 < l1.length ∧ ∃ mm j, mm = 2 ^ j ∧ j ≤ 12 ∧ z = ((mm : Nat) : Int)) := by
    by_cases h1 : l1.length = 0
    · exact .inl (.inl h1)
    · by_cases h2 : ∃ j, j ≤ 12 ∧ z = ((2 ^ j : Nat) : Int)
      · obtain ⟨j, hj, e⟩ := h2
        exact .inr ⟨by omega, 2 ^ j, j, rfl, hj, e⟩
      · exact .inl (.inr fun j hj e => h2 ⟨j, hj, e⟩)
  rcases hsize with hbad | ⟨hto, mm, j, hmj, hj, rfl⟩
  · exact walk_bad z A1 c1 l1 s gone A4 c4 l4 w0 hv1 hc1 hv4 hc4 hs2 hz.1 hz.2 hbad
  · have hmm1 : 1 ≤ mm := by rw [hmj]; exact Nat.one_le_two_pow
    have hmm4 : mm ≤ 4096 := by rw [hmj]; exact Nat.pow_le_pow_right (n := 2) (by omega) hj
    have hand : mm &&& (mm - 1) = 0 := by rw [hmj]; exact pow_and j hj
    have hright : ∀ w, Calls Try.prog 37 #[.int .i64 (mm : Int)] w fun e w' => e = .returned (.bool true) ∧ Kp [] w w' := by
      intro w; rw [hmj]; exact right_yes j hj w
    by_cases hoth : oth gone l4 l4.length = []
    · exact walk_none A1 c1 l1 s gone A4 c4 l4 w0 hv1 hc1 hv4 hc4 hs2 mm hto hmm1 hmm4 hand hright hoth
    · exact walk_some A1 c1 l1 s gone A4 c4 l4 w0 hv1 hc1 hv4 hc4 hs2 mm hto hmm1 hmm4 hand hright hoth
end SpreadPlaces
end Go.Proofs.Ytchpcijmgnfkfaa
