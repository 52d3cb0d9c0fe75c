/- octet.Reader's methods by contracts: a Reader is a block that holds the bytes that are left, and whether something was missing. Conditions: none but bounds on lengths. -/
import Derived.Test.YtilgolflpdpfnaaMath
import Derived.Test.YtilgolflpdpfnaaMem
import Derived.Test.YtilgolflpdpfnaaTypes
import Derived.Test.YtilgolflpdpfnaaProg
import Derived.KernelRfl
namespace Go.Proofs.Ytilgolflpdpfnaa.Old
open Go.RowKit

/-- Only block g, and what is new, has turned. -/
def Mod (g : Nat) (w w' : World) : Prop := w.grownBy w' (some g)
theorem Mod.refl (g : Nat) (w : World) : Mod g w w := World.grownBy.refl w _
theorem Mod.trans {g : Nat} {a b c : World} (h : Mod g a b) (k : Mod g b c) : Mod g a c :=
  ⟨k.os.trans h.os, k.tape.trans h.tape, k.output.trans h.output, Nat.le_trans h.size k.size, fun i hi hne => (k.block i (Nat.lt_of_lt_of_le hi h.size) hne).trans (h.block i hi hne)⟩
theorem Mod.set {g : Nat} {a w : World} (h : Mod g a w) (i : Nat) (u : Value) : Mod g a (w.setCell ⟨g, i, none⟩ u) :=
  h.trans ⟨rfl, rfl, rfl, by simp [World.setCell], fun k _ hne => Below.heap_setCell _ _ _ _ (fun e => hne (by rw [e]))⟩
theorem Mod.below {g : Nat} {a w : World} (h : Mod g a w) (hg : g ≤ a.heap.size) : Below g a w := ⟨h.os, h.tape, h.output, h.size, fun k hk => h.block k (by omega) (by intro e; injection e with e; omega)⟩
theorem Mod.of_below {g : Nat} {a w : World} (h : Below a.heap.size a w) : Mod g a w := ⟨h.os, h.tape, h.output, h.size, fun k hk _ => h.block k hk⟩
theorem Below.mod {B g : Nat} {w0 a w : World} (h : Below B w0 a) (hm : Mod g a w) (hB : B ≤ g) (hs : B ≤ a.heap.size) : Below B w0 w :=
  h.trans ⟨hm.os, hm.tape, hm.output, hm.size, fun k hk => hm.block k (by omega) (by intro e; injection e with e; omega)⟩
/-- Another block is as it was. -/
theorem Mod.arr {g b : Nat} {t : TypeId} {l : List Value} {a w : World} (h : Mod g a w) (hA : Arr a b t l) (hne : b ≠ g) : Arr w b t l := (h.block b hA.lt (by intro e; injection e with e; exact hne e)).trans hA

/-- Reader g: the bytes that are left, and whether it is bad. -/
def RdrAt (w : World) (g : Nat) (l : List Nat) (bad : Bool) : Prop :=
  ∃ A c, l.length ≤ c ∧ Hid (Arr w g 221 [.slice A l.length c, .bool bad]) ∧ BView w g A l
theorem RdrAt.bytes {w g l bad} (h : RdrAt w g l bad) : Bytes l := by obtain ⟨_, _, _, _, h⟩ := h; exact h.bytes
theorem RdrAt.lt {w g l bad} (h : RdrAt w g l bad) : g < w.heap.size := by obtain ⟨_, _, _, h, _⟩ := h; exact h.out.lt
theorem RdrAt.mod {w w' g b l bad} (h : RdrAt w g l bad) (hm : Mod b w w') (hb : g < b) (hs : g ≤ w.heap.size) : RdrAt w' g l bad := by
  obtain ⟨A, c, h1, h2, h3⟩ := h
  exact ⟨A, c, h1, hm.arr h2.out (by omega), h3.below ⟨hm.os, hm.tape, hm.output, hm.size, fun k hk => hm.block k (by omega) (by intro e; injection e with e; omega)⟩⟩
theorem RdrAt.below {w w' g l bad} (h : RdrAt w g l bad) (hb : Below w.heap.size w w') : RdrAt w' g l bad := by
  obtain ⟨A, c, h1, h2, h3⟩ := h
  exact ⟨A, c, h1, h2.out.below hb h2.out.lt, h3.below (hb.mono (Nat.le_of_lt h2.out.lt))⟩

end Go.Proofs.Ytilgolflpdpfnaa.Old
