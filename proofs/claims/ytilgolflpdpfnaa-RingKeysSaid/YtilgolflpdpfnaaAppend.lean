/- append to a row that one owns, saying in which block the new row lies: the old one's, or a new one. Conditions: none but the bounds of a slice. -/
import Derived.Test.YtilgolflpdpfnaaMem
import Derived.Laws.AppendOwn
namespace Go.Proofs.Ytilgolflpdpfnaa
open Go.RowKit

/-- A row is as it was where another block, or none, has turned. -/
theorem own_keep {w w' : World} {base : Nat} {e : TypeId} {size n c : Nat} {A : Option Addr} {l : List Value} {row : Option Nat} (h : w.ownsRow base e size (.slice A n c) n l) (hg : w.grownBy w' row)
    (hne : ∀ g, A = some ⟨g, 0, none⟩ → some g ≠ row) : w'.ownsRow base e size (.slice A n c) n l := by
  refine ⟨h.1, ?_⟩
  rcases h.2 with h0 | ⟨g, cap, cur, e0, hb, hg', hr⟩
  · exact .inl h0
  · have e1 : A = some ⟨g, 0, none⟩ := by injection e0
    exact .inr ⟨g, cap, cur, e0, hb, (hg.block g (Array.getElem?_eq_some_iff.1 hg').1 (hne g e1)).trans hg', hr⟩

end Go.Proofs.Ytilgolflpdpfnaa
