/- ip6: Right, Bytes and the references', by contract. Conditions: none but bounds. -/
import Derived.Test.YtmekadkmmddocaaDoorAd
import Derived.Test.YtmekadkmmddocaaDoorSet
namespace Go.Proofs.YtmekadkmmddocaaDoor
open Go.RowKit

def hd6V (cl lb : Nat) (len : Int) (nx hp : Nat) (s d : Ad) : List Value :=
  [.int .u8 (cl : Int), .int .u32 (lb : Int), .int .i64 len, .int .u8 (nx : Int), .int .u8 (hp : Int), .bool s.six, .int .u64 (s.high : Int), .int .u64 (s.low : Int), .bool d.six, .int .u64 (d.high : Int), .int .u64 (d.low : Int)]
def hd6Right (lb : Nat) (len : Int) (s d : Ad) : Prop := lb ≤ 1048575 ∧ 0 ≤ len ∧ len ≤ 65535 ∧ s.six = true ∧ d.six = true
instance (lb : Nat) (len : Int) (s d : Ad) : Decidable (hd6Right lb len s d) := by unfold hd6Right; exact inferInstance
theorem adN_six {a : Ad} (h : a.six = true) : adN a = 16 := by unfold adN; rw [h]; rfl
theorem be4 (n : Nat) : be n 4 = [n / 16777216 % 256, n / 65536 % 256, n / 256 % 256, n % 256] := by simp [be, List.range, List.range.loop]
theorem be2 (n : Nat) : be n 2 = [n / 256 % 256, n % 256] := by simp [be, List.range, List.range.loop]
end Go.Proofs.YtmekadkmmddocaaDoor
