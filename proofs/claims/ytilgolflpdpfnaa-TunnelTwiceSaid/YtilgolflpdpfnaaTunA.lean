/- ip6: Parse with errors, and the reference's Parse, by contract. Conditions: none but bounds. -/
import Derived.Test.YtilgolflpdpfnaaIp6B
namespace Go.Proofs.Ytilgolflpdpfnaa
open Go.RowKit
theorem getN_split (l : List Nat) (p a b : Nat) (h : p + a + b ≤ l.length) : getN l p (a + b) = getN l p a * 256 ^ b + getN l (p + a) b := by
  unfold getN
  rw [List.take_add, numBE_append, List.drop_drop]
  rw [show ((l.drop (p + a)).take b).length = b by rw [List.length_take, List.length_drop]; omega]
theorem six_first {l : List Nat} (hb : Bytes l) (h : 4 ≤ l.length) : getN l 0 4 / 2 ^ 28 = nth l 0 / 16 := by
  have h1 := getN_split l 0 1 3 (by omega)
  have h2 := getN_lt hb 1 3
  rw [getN_one (by omega)] at h1
  have h3 : getN l 0 4 = nth l 0 * 256 ^ 3 + getN l 1 3 := h1
  omega
def ad0_ : Ad := ⟨false, 0, 0⟩
end Go.Proofs.Ytilgolflpdpfnaa
