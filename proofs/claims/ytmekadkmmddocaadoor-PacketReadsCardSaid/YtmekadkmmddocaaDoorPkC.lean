/- Packets put together and taken apart, both sides at once. Conditions: none but bounds. -/
import Derived.Test.YtmekadkmmddocaaDoorTunB
import Derived.Test.YtmekadkmmddocaaDoorIp4Q
import Derived.Test.YtmekadkmmddocaaDoorTcpW
namespace Go.Proofs.YtmekadkmmddocaaDoor
open Go.RowKit
theorem adLim6 {l : List Nat} (hb : Bytes l) (p : Nat) : adLim (ad6 l p) := by
  have h1 := getN_lt ((hb.drop p).take 16) 0 8
  have h2 := getN_lt ((hb.drop p).take 16) 8 8
  constructor
  · show getN ((l.drop p).take 16) 0 8 ≤ _
    omega
  · show getN ((l.drop p).take 16) 8 8 ≤ _
    omega
theorem first4 {l : List Nat} (h : 4 ≤ l.length) : getN l 0 4 = ((nth l 0 * 256 + nth l 1) * 256 + nth l 2) * 256 + nth l 3 ∧ getN l 2 2 = nth l 2 * 256 + nth l 3 := by
  have h1 := getN_split l 0 1 3 (by omega)
  have h2 := getN_split l 1 1 2 (by omega)
  have h3 := getN_split l 2 1 1 (by omega)
  rw [getN_one (by omega)] at h1 h2 h3
  rw [getN_one (by omega)] at h3
  have e1 : getN l 0 4 = nth l 0 * 256 ^ 3 + getN l 1 3 := h1
  have e2 : getN l 1 3 = nth l 1 * 256 ^ 2 + getN l 2 2 := h2
  have e3 : getN l 2 2 = nth l 2 * 256 ^ 1 + nth l 3 := h3
  omega
end Go.Proofs.YtmekadkmmddocaaDoor
