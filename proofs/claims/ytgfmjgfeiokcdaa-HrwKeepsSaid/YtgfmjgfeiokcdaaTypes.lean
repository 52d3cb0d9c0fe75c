
/- Closed facts on the types of this translation, and what a new slice of bytes is. -/
import Derived.Test.YtgfmjgfeiokcdaaMem
import Derived.Test.YtgfmjgfeiokcdaaProg
import Derived.KernelRfl
namespace Go.Proofs.Ytgfmjgfeiokcdaa.Old
open Go.RowKit

theorem u8info : (Try.prog.info? 5).map (fun i => (i.zero, i.size, i.bytes)) = some (some (.int .u8 0), 1, 1) := by kernel_rfl
theorem u8size : (Try.prog.info? 5).map (·.size) = some 1 := by kernel_rfl

/-- A new slice of bytes l, of its whole block; nothing old has changed. -/
def Fresh (w : World) (l : List Nat) (e : Ending) (w' : World) : Prop :=
  ∃ g, e = .returned (.slice (some ⟨g, 0, none⟩) l.length l.length) ∧ w.heap.size ≤ g ∧ Hid (Arr w' g 5 (l.map u8v)) ∧ Below w.heap.size w w' ∧ Bytes l
end Go.Proofs.Ytgfmjgfeiokcdaa.Old
