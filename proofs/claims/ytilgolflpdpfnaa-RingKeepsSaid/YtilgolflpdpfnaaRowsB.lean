/- Slices of slices of bytes, as lists of rows. Any program. -/
import Derived.Test.YtilgolflpdpfnaaMem
namespace Go.Proofs.Ytilgolflpdpfnaa.Old
open Go.RowKit

/-! ### rows of bytes -/
def Rows_ (w : World) (B : Nat) (rows : List (Option Addr × List Nat × Nat)) : Prop := ∀ r ∈ rows, BView w B r.1 r.2.1 ∧ (r.1 = none → r.2.2 = 0)
def joined (rows : List (Option Addr × List Nat × Nat)) : List Nat := (rows.map (·.2.1)).flatten
theorem Rows_.bytes {w B rows} (h : Rows_ w B rows) (k : Nat) : Bytes (joined (rows.take k)) := by
  intro x hx
  unfold joined at hx
  obtain ⟨l, hl, hxl⟩ := List.mem_flatten.1 hx
  obtain ⟨r, hr, rfl⟩ := List.mem_map.1 hl
  exact (h r (List.mem_of_mem_take hr)).1.1 x hxl
theorem Rows_.below {w w' B rows} (h : Rows_ w B rows) (hb : Below B w w') : Rows_ w' B rows := fun r hr => ⟨(h r hr).1.below hb, (h r hr).2⟩

end Go.Proofs.Ytilgolflpdpfnaa.Old
