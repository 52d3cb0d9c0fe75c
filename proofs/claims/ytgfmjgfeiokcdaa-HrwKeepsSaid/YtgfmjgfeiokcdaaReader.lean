
/- octet.Reader's methods by contracts: a Reader is a block that holds the bytes that are left, and whether something was missing. Conditions: none but bounds on lengths. -/
import Derived.Test.YtgfmjgfeiokcdaaMath
import Derived.Test.YtgfmjgfeiokcdaaMem
import Derived.Test.YtgfmjgfeiokcdaaTypes
import Derived.Test.YtgfmjgfeiokcdaaProg
import Derived.KernelRfl
namespace Go.Proofs.Ytgfmjgfeiokcdaa.Old
open Go.RowKit

/-- Only block g, and what is new, has turned. -/
def Mod (g : Nat) (w w' : World) : Prop := w.grownBy w' (some g)
theorem Mod.refl (g : Nat) (w : World) : Mod g w w := World.grownBy.refl w _
theorem Mod.trans {g : Nat} {a b c : World} (h : Mod g a b) (k : Mod g b c) : Mod g a c :=
  ⟨k.os.trans h.os, k.tape.trans h.tape, k.output.trans h.output, Nat.le_trans h.size k.size, fun i hi hne => (k.block i (Nat.lt_of_lt_of_le hi h.size) hne).trans (h.block i hi hne)⟩
theorem Mod.set {g : Nat} {a w : World} (h : Mod g a w) (i : Nat) (u : Value) : Mod g a (w.setCell ⟨g, i, none⟩ u) :=
  h.trans ⟨rfl, rfl, rfl, by simp [World.setCell], fun k _ hne => Below.heap_setCell _ _ _ _ (fun e => hne (by rw [e]))⟩
theorem Mod.below {g : Nat} {a w : World} (h : Mod g a w) (hg : g ≤ a.heap.size) : Below g a w := ⟨h.os, h.tape, h.output, h.size, fun k hk => h.block k (by omega) (by intro e; injection e with e; omega)⟩
theorem Mod.of_below {g : Nat} {a w : World} (h : Below a.heap.size a w) : Mod g a w := ⟨h.os, h.tape, h.output, h.size, fun k hk _ => h.block k hk⟩
theorem Below.mod {B g : Nat} {w0 a w : World} (h : Below B w0 a) (hm : Mod g a w) (hB : B ≤ g) (hs : B ≤ a.heap.size) : Below B w0 w :=
  h.trans ⟨hm.os, hm.tape, hm.output, hm.size, fun k hk => hm.block k (by omega) (by intro e; injection e with e; omega)⟩
/-- Another block is as it was. -/
theorem Mod.arr {g b : Nat} {t : TypeId} {l : List Value} {a w : World} (h : Mod g a w) (hA : Arr a b t l) (hne : b ≠ g) : Arr w b t l := (h.block b hA.lt (by intro e; injection e with e; exact hne e)).trans hA

/-- The number of bytes, most significant first. -/
def numBE (l : List Nat) : Nat := l.foldl (fun a c => a * 256 + c) 0
theorem numBE_snoc (l : List Nat) (k : Nat) (h : k < l.length) : numBE (l.take (k + 1)) = numBE (l.take k) * 256 + nth l k := by
  have e : nth l k = l[k] := by unfold nth; rw [List.getD_eq_getElem?_getD, List.getElem?_eq_getElem h]; rfl
  rw [List.take_succ_eq_append_getElem h, e]
  unfold numBE
  rw [List.foldl_append]
  rfl
theorem numBE_lt {l : List Nat} (h : Bytes l) (k : Nat) (hk : k ≤ l.length) : numBE (l.take k) < 256 ^ k := by
  induction k with
  | zero => simp [numBE]
  | succ k ih =>
    rw [numBE_snoc l k (by omega), Nat.pow_succ]
    have := ih (by omega)
    have := nth_lt h k
    omega
theorem or_u64_8 (x y : Int) (h1 : 0 ≤ x ∧ x < 72057594037927936) (h2 : 0 ≤ y ∧ y < 256) : bits .or .u64 (x * 256) y = x * 256 + y := by
  rw [u64_or _ _ (by omega) (by omega) (by omega) (by omega), nat_join 8 _ _ (by simp; omega) (by simp; omega)]
  omega
theorem numBE_bd {l : List Nat} (h : Bytes l) (k : Nat) (hk : k < l.length) (h8 : k < 8) : (0 : Int) ≤ (numBE (l.take k) : Int) ∧ (numBE (l.take k) : Int) < 72057594037927936 := by
  have h1 := numBE_lt h k (by omega)
  have h2 : 256 ^ k ≤ 256 ^ 7 := Nat.pow_le_pow_right (by omega) (by omega)
  have h3 : numBE (l.take k) < 72057594037927936 := by
    have : (256 : Nat) ^ 7 = 72057594037927936 := by decide
    omega
  omega

end Go.Proofs.Ytgfmjgfeiokcdaa.Old
