/- The reference's Bytes and Join, by contract. Conditions: none but bounds. -/
import Derived.Test.YtcobjneobdihkaaOct
namespace Go.Proofs.Ytcobjneobdihkaa
open Go.RowKit

def rowV (r : Option Addr × List Nat × Nat) : Value := .slice r.1 r.2.1.length r.2.2
def joined (rows : List (Option Addr × List Nat × Nat)) : List Nat := (rows.map fun r => r.2.1).flatten
instance : Inhabited (Option Addr × List Nat × Nat) := ⟨(none, [], 0)⟩
theorem joined_snoc (rows : List (Option Addr × List Nat × Nat)) (k : Nat) (h : k < rows.length) : joined (rows.take (k + 1)) = joined (rows.take k) ++ (rows.getD k default).2.1 := by
  unfold joined
  rw [List.take_succ_eq_append_getElem h, List.map_append, List.flatten_append, List.getD_eq_getElem?_getD, List.getElem?_eq_getElem h]
  simp
theorem joined_le (rows : List (Option Addr × List Nat × Nat)) (k : Nat) : (joined (rows.take k)).length ≤ (joined rows).length := by
  conv => rhs; rw [← List.take_append_drop k rows]
  unfold joined
  rw [List.map_append, List.flatten_append, List.length_append]
  omega
def SeenRows (w : World) (rows : List (Option Addr × List Nat × Nat)) : Prop := ∀ k, k < rows.length → View w w.heap.size (rows.getD k default).1 ((rows.getD k default).2.1.map u8v)
theorem SeenRows.kept {w w' : World} {rows : List (Option Addr × List Nat × Nat)} (h : SeenRows w rows) (hk : Kp [] w w') : SeenRows w' rows := fun k hlt => ((h k hlt).below hk.below).more hk.size
theorem seen_nil {w : World} : SeenRows w [] := fun k hk => by simp at hk
theorem seen_cons {w : World} {A : Option Addr} {l : List Nat} {c : Nat} {rows : List (Option Addr × List Nat × Nat)} (h : View w w.heap.size A (l.map u8v)) (hs : SeenRows w rows) : SeenRows w ((A, l, c) :: rows) := fun k hk => by
  cases k with
  | zero => exact h
  | succ k => exact hs k (by simpa using hk)
end Go.Proofs.Ytcobjneobdihkaa
