/- Numbers in bytes, most significant byte first: mathematics only. -/
import Derived.Test.YtcobjneobdihkaaJ
namespace Go.Proofs.Ytcobjneobdihkaa
open Go.RowKit

def be (n s : Nat) : List Nat := (List.range s).map fun i => n / 256 ^ (s - 1 - i) % 256
theorem be_length (n s : Nat) : (be n s).length = s := by simp [be]
theorem be_bytes (n s : Nat) : Bytes (be n s) := by
  intro x hx
  obtain ⟨i, _, rfl⟩ := List.mem_map.1 hx
  exact Nat.mod_lt _ (by omega)
theorem be_nth (N s k : Nat) (h : k < s) : nth (be N s) k = N / 256 ^ (s - 1 - k) % 256 := by
  unfold nth be
  rw [List.getD_eq_getElem?_getD, List.getElem?_map, List.getElem?_range h]; rfl
theorem nth_eq {l : List Nat} {k : Nat} (h : k < l.length) : l[k] = nth l k := by
  unfold nth; rw [List.getD_eq_getElem?_getD, List.getElem?_eq_getElem h]; rfl
theorem pow256 (k : Nat) : 2 ^ (8 * k) = 256 ^ k := by rw [Nat.pow_mul]
/-- A block that is filled from place p on: k of the numbers b are in. -/
def filled (p b : List Nat) (k : Nat) : List Nat := p ++ (b.take k ++ List.replicate (b.length - k) 0)
theorem filled_zero (p b : List Nat) : filled p b 0 = p ++ List.replicate b.length 0 := by simp [filled]
theorem filled_all (p b : List Nat) : filled p b b.length = p ++ b := by simp [filled]
theorem filled_length (p b : List Nat) (k : Nat) (h : k ≤ b.length) : (filled p b k).length = p.length + b.length := by simp [filled]; omega
theorem filled_set (p b : List Nat) (k : Nat) (h : k < b.length) : (filled p b k).set (p.length + k) (nth b k) = filled p b (k + 1) := by
  unfold filled
  rw [List.set_append_right _ _ (by omega), show p.length + k - p.length = k from by omega]
  congr 1
  have h1 : (b.take k).length = k := by simp; omega
  rw [List.set_append_right _ _ (by omega), h1, show k - k = 0 from by omega]
  obtain ⟨m, hm⟩ : ∃ m, b.length - k = m + 1 := ⟨b.length - k - 1, by omega⟩
  rw [hm, List.replicate_succ, List.set_cons_zero, show b.length - (k + 1) = m from by omega]
  rw [List.take_succ_eq_append_getElem h, List.append_assoc]
  congr 1
  rw [nth_eq h]; rfl
theorem map_set_u8v (l : List Nat) (i n : Nat) : (l.map u8v).set i (u8v n) = (l.set i n).map u8v := by rw [List.map_set]
theorem splice_fill (l b : List Nat) (n : Nat) (h : n = b.length) : splice (List.replicate (l.length + n) (Value.int .u8 0)) 0 (l.map u8v) = (filled l b 0).map u8v := by
  subst h
  simp [splice, filled_zero, u8v]
theorem splice_map (l b : List Nat) (o : Nat) : splice (l.map u8v) o (b.map u8v) = (splice l o b).map u8v := by
  simp [splice]
def numBE (l : List Nat) : Nat := l.foldl (fun a c => a * 256 + c) 0
theorem numBE_snoc (l : List Nat) (k : Nat) (h : k < l.length) : numBE (l.take (k + 1)) = numBE (l.take k) * 256 + nth l k := by
  unfold numBE
  rw [List.take_succ_eq_append_getElem h, List.foldl_append]
  simp only [List.foldl_cons, List.foldl_nil]
  rw [nth_eq h]
theorem numBE_lt {l : List Nat} (h : Bytes l) (k : Nat) (hk : k ≤ l.length) : numBE (l.take k) < 256 ^ k := by
  induction k with
  | zero => simp [numBE]
  | succ k ih =>
    rw [numBE_snoc l k (by omega), Nat.pow_succ]
    have := ih (by omega)
    have := nth_lt h k
    omega
theorem numBE_lt' {l : List Nat} (h : Bytes l) : numBE l < 256 ^ l.length := by
  have := numBE_lt h l.length (Nat.le_refl _)
  rwa [List.take_length] at this
end Go.Proofs.Ytcobjneobdihkaa
