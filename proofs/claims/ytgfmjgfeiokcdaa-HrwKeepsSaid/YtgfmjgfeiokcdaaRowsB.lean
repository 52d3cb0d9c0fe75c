
/- Slices of slices of bytes, as lists of rows. Any program. -/
import Derived.Test.YtgfmjgfeiokcdaaMem
namespace Go.Proofs.Ytgfmjgfeiokcdaa.Old
open Go.RowKit

/-! ### rows of bytes -/
def rowV (r : Option Addr × List Nat × Nat) : Value := .slice r.1 r.2.1.length r.2.2
def Rows_ (w : World) (B : Nat) (rows : List (Option Addr × List Nat × Nat)) : Prop := ∀ r ∈ rows, BView w B r.1 r.2.1 ∧ (r.1 = none → r.2.2 = 0)
def joined (rows : List (Option Addr × List Nat × Nat)) : List Nat := (rows.map (·.2.1)).flatten
theorem joined_snoc (rows : List (Option Addr × List Nat × Nat)) (k : Nat) (r) (h : rows[k]? = some r) : joined (rows.take (k + 1)) = joined (rows.take k) ++ r.2.1 := by
  have hk : k < rows.length := by
    rcases Nat.lt_or_ge k rows.length with h1 | h1
    · exact h1
    · rw [List.getElem?_eq_none h1] at h; cases h
  rw [List.getElem?_eq_getElem hk] at h
  injection h with h
  rw [List.take_succ_eq_append_getElem hk, h]
  simp [joined]
theorem joined_take_le (rows : List (Option Addr × List Nat × Nat)) (k : Nat) : (joined (rows.take k)).length ≤ (joined rows).length := by
  have e : joined rows = joined (rows.take k) ++ joined (rows.drop k) := by
    unfold joined; rw [← List.flatten_append, ← List.map_append, List.take_append_drop]
  rw [e]; simp
theorem Rows_.bytes {w B rows} (h : Rows_ w B rows) (k : Nat) : Bytes (joined (rows.take k)) := by
  intro x hx
  unfold joined at hx
  obtain ⟨l, hl, hxl⟩ := List.mem_flatten.1 hx
  obtain ⟨r, hr, rfl⟩ := List.mem_map.1 hl
  exact (h r (List.mem_of_mem_take hr)).1.1 x hxl
theorem Rows_.below {w w' B rows} (h : Rows_ w B rows) (hb : Below B w w') : Rows_ w' B rows := fun r hr => ⟨(h r hr).1.below hb, (h r hr).2⟩

end Go.Proofs.Ytgfmjgfeiokcdaa.Old
