
/- varint.Bits, varint.Expand, their references and power, by contracts. Conditions: the arguments fit their kinds. -/
import Derived.Test.YtgfmjgfeiokcdaaMath
import Derived.Test.YtgfmjgfeiokcdaaProg
namespace Go.Proofs.Ytgfmjgfeiokcdaa.Old
open Go.RowKit

def bitsN (n a : Int) : Int :=
  if 4611686018427387903 < n ∨ n ≤ a then 0 else if n - a ≤ 128 then 1 else if n - a ≤ 32768 then 2 else if n - a ≤ 8388608 then 3 else if n - a ≤ 2147483648 then 4 else 0

def bitsE (n a : Int) : Int := if bitsN n a = 0 then 1 else 0

/-- What Expand answers, of what may be: the window is 'w'. -/
def expandN (x t w : Int) : Int :=
  if (x - x % w + t) + w / 2 ≤ x ∧ x - x % w + t < 4611686018427387904 - w then x - x % w + t + w else if x + w / 2 < x - x % w + t ∧ w ≤ x - x % w + t then x - x % w + t - w else x - x % w + t

def expandBad (x t s : Int) : Prop := s < 1 ∨ 4 < s ∨ 4611686018427387903 < x ∨ (s = 1 ∧ 256 ≤ t) ∨ (s = 2 ∧ 65536 ≤ t) ∨ (s = 3 ∧ 16777216 ≤ t) ∨ (s = 4 ∧ 4294967296 ≤ t)

end Go.Proofs.Ytgfmjgfeiokcdaa.Old
