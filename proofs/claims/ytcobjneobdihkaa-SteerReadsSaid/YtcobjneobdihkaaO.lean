/- Reading a law's arguments: structs, slices, by cells. Any program. -/
import Derived.Test.YtcobjneobdihkaaKit
import Derived.Test.YtcobjneobdihkaaJ
namespace Go.Proofs.Ytcobjneobdihkaa
open Go.ChangeShapes Go.WideShapes Go.ChangeAt Go.RowKit

/-- A slice: where it lies, what it holds, its capacity. -/
structure Sl (α : Type) where
  a : Option Addr
  l : List α
  c : Nat
instance {α : Type} : Inhabited (Sl α) := ⟨⟨none, [], 0⟩⟩
def okB (w : World) (s : Sl Nat) : Prop := s.l.length ≤ s.c ∧ s.c ≤ maxLen ∧ Bytes s.l ∧ View w w.heap.size s.a (s.l.map u8v)
theorem okB.len {w : World} {s : Sl Nat} (h : okB w s) : s.l.length ≤ s.c := h.1
theorem okB.bytes {w : World} {s : Sl Nat} (h : okB w s) : Bytes s.l := h.2.2.1
theorem okB.view {w : World} {s : Sl Nat} (h : okB w s) : View w w.heap.size s.a (s.l.map u8v) := h.2.2.2

section
variable {H : Type} {enc : TypeId × Value → H} {P : Program} {w : World} {t e : TypeId} {fuel : Nat} {cs : List Value} {x : DataW H × List MemPlace}
end
end Go.Proofs.Ytcobjneobdihkaa
