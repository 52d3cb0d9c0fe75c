
/- Numbers in bytes, most significant byte first: mathematics only. -/
import Derived.Test.YtocnmcndcdncmaaDoorJ
namespace Go.Proofs.YtocnmcndcdncmaaDoor
open Go.RowKit

def be (n s : Nat) : List Nat := (List.range s).map fun i => n / 256 ^ (s - 1 - i) % 256
theorem be_length (n s : Nat) : (be n s).length = s := by simp [be]
theorem be_bytes (n s : Nat) : Bytes (be n s) := by
  intro x hx
  obtain ⟨i, _, rfl⟩ := List.mem_map.1 hx
  exact Nat.mod_lt _ (by omega)
theorem be_nth (N s k : Nat) (h : k < s) : nth (be N s) k = N / 256 ^ (s - 1 - k) % 256 := by
  unfold nth be
  rw [List.getD_eq_getElem?_getD, List.getElem?_map, List.getElem?_range h]; rfl
theorem nth_eq {l : List Nat} {k : Nat} (h : k < l.length) : l[k] = nth l k := by
  unfold nth; rw [List.getD_eq_getElem?_getD, List.getElem?_eq_getElem h]; rfl
theorem pow256 (k : Nat) : 2 ^ (8 * k) = 256 ^ k := by rw [Nat.pow_mul]
/-- A block that is filled from place p on: k of the numbers b are in. -/
def filled (p b : List Nat) (k : Nat) : List Nat := p ++ (b.take k ++ List.replicate (b.length - k) 0)
theorem filled_zero (p b : List Nat) : filled p b 0 = p ++ List.replicate b.length 0 := by simp [filled]
theorem filled_all (p b : List Nat) : filled p b b.length = p ++ b := by simp [filled]
theorem filled_length (p b : List Nat) (k : Nat) (h : k ≤ b.length) : (filled p b k).length = p.length + b.length := by simp [filled]; omega
theorem filled_set (p b : List Nat) (k : Nat) (h : k < b.length) : (filled p b k).set (p.length + k) (nth b k) = filled p b (k + 1) := by
  unfold filled
  rw [List.set_append_right _ _ (by omega), show p.length + k - p.length = k from by omega]
  congr 1
  have h1 : (b.take k).length = k := by simp; omega
  rw [List.set_append_right _ _ (by omega), h1, show k - k = 0 from by omega]
  obtain ⟨m, hm⟩ : ∃ m, b.length - k = m + 1 := ⟨b.length - k - 1, by omega⟩
  rw [hm, List.replicate_succ, List.set_cons_zero, show b.length - (k + 1) = m from by omega]
  rw [List.take_succ_eq_append_getElem h, List.append_assoc]
  congr 1
  rw [nth_eq h]; rfl
theorem map_set_u8v (l : List Nat) (i n : Nat) : (l.map u8v).set i (u8v n) = (l.set i n).map u8v := by rw [List.map_set]
theorem splice_fill (l b : List Nat) (n : Nat) (h : n = b.length) : splice (List.replicate (l.length + n) (Value.int .u8 0)) 0 (l.map u8v) = (filled l b 0).map u8v := by
  subst h
  simp [splice, filled_zero, u8v]
theorem splice_map (l b : List Nat) (o : Nat) : splice (l.map u8v) o (b.map u8v) = (splice l o b).map u8v := by
  simp [splice]
/-- A block that is filled from the end: the numbers from k on are in. -/
def filledDown (b : List Nat) (k : Nat) : List Nat := List.replicate k 0 ++ b.drop k
theorem filledDown_zero (b : List Nat) : filledDown b 0 = b := by simp [filledDown]
theorem filledDown_all (b : List Nat) : filledDown b b.length = List.replicate b.length 0 := by simp [filledDown]
theorem filledDown_length (b : List Nat) (k : Nat) (h : k ≤ b.length) : (filledDown b k).length = b.length := by simp [filledDown]; omega
theorem filledDown_set (b : List Nat) (j : Nat) (h : j < b.length) : (filledDown b (j + 1)).set j (nth b j) = filledDown b j := by
  unfold filledDown
  rw [List.set_append_left _ _ (by simp), List.replicate_succ', List.set_append_right _ _ (by simp)]
  simp only [List.length_replicate, Nat.sub_self, List.set_cons_zero, List.append_assoc, List.singleton_append]
  rw [List.drop_eq_getElem_cons h]
  congr 1
  rw [nth_eq h]

def numBE (l : List Nat) : Nat := l.foldl (fun a c => a * 256 + c) 0
theorem numBE_snoc (l : List Nat) (k : Nat) (h : k < l.length) : numBE (l.take (k + 1)) = numBE (l.take k) * 256 + nth l k := by
  unfold numBE
  rw [List.take_succ_eq_append_getElem h, List.foldl_append]
  simp only [List.foldl_cons, List.foldl_nil]
  rw [nth_eq h]
theorem numBE_lt {l : List Nat} (h : Bytes l) (k : Nat) (hk : k ≤ l.length) : numBE (l.take k) < 256 ^ k := by
  induction k with
  | zero => simp [numBE]
  | succ k ih =>
    rw [numBE_snoc l k (by omega), Nat.pow_succ]
    have := ih (by omega)
    have := nth_lt h k
    omega
theorem numBE_lt' {l : List Nat} (h : Bytes l) : numBE l < 256 ^ l.length := by
  have := numBE_lt h l.length (Nat.le_refl _)
  rwa [List.take_length] at this
theorem numBE_append (l m : List Nat) : numBE (l ++ m) = numBE l * 256 ^ m.length + numBE m := by
  unfold numBE
  rw [List.foldl_append]
  have : ∀ (m : List Nat) (a : Nat), m.foldl (fun a c => a * 256 + c) a = a * 256 ^ m.length + m.foldl (fun a c => a * 256 + c) 0 := by
    intro m
    induction m with
    | nil => intro a; simp
    | cons x m ih =>
      intro a
      rw [List.foldl_cons, ih, List.foldl_cons, ih (0 * 256 + x), List.length_cons, Nat.pow_succ, Nat.add_mul, Nat.zero_mul, Nat.zero_add]
      have : a * 256 * 256 ^ m.length = a * (256 ^ m.length * 256) := by rw [Nat.mul_assoc, Nat.mul_comm 256]
      omega
  exact this m _
theorem be_succ (n s : Nat) : be n (s + 1) = be (n / 256) s ++ [n % 256] := by
  unfold be
  rw [List.range_succ, List.map_append, List.map_cons, List.map_nil]
  congr 1
  · apply List.map_congr_left
    intro i hi
    have hi : i < s := List.mem_range.1 hi
    rw [Nat.div_div_eq_div_mul, Nat.mul_comm 256, ← Nat.pow_succ, show s + 1 - 1 - i = s - 1 - i + 1 by omega]
  · simp
theorem numBE_be (s : Nat) : ∀ n, numBE (be n s) = n % 256 ^ s := by
  induction s with
  | zero => intro n; simp [be, numBE, Nat.mod_one]
  | succ s ih =>
    intro n
    rw [be_succ, numBE_append, ih]
    have h1 : numBE [n % 256] = n % 256 := by simp [numBE]
    have h2 := Nat.mod_mul (x := n) (a := 256) (b := 256 ^ s)
    rw [h1, List.length_singleton, Nat.pow_one, Nat.pow_succ, Nat.mul_comm (256 ^ s) 256, h2]
    omega
theorem be_numBE {l : List Nat} (h : Bytes l) : be (numBE l) l.length = l := by
  suffices ∀ k, k ≤ l.length → be (numBE (l.take k)) k = l.take k by
    have := this l.length (Nat.le_refl _)
    rwa [List.take_length] at this
  intro k
  induction k with
  | zero => intro _; simp [be]
  | succ k ih =>
    intro hk
    have hb := nth_lt h k
    rw [be_succ, numBE_snoc l k (by omega), show (numBE (l.take k) * 256 + nth l k) / 256 = numBE (l.take k) by omega, ih (by omega), show (numBE (l.take k) * 256 + nth l k) % 256 = nth l k by omega, List.take_succ_eq_append_getElem (by omega), nth_eq (by omega)]
theorem be_mod (n s : Nat) : be (n % 256 ^ s) s = be n s := by
  have := be_numBE (be_bytes n s)
  rwa [numBE_be, be_length] at this
theorem be_one (n : Nat) : be n 1 = [n % 256] := by simp [be]
theorem bytes_nth {l : List Nat} (h : Bytes l) (j : Nat) : nth l j ≤ 255 := by have := nth_lt h j; omega
theorem getB {l : List Nat} {j : Nat} (h : j < l.length) : (l.map u8v)[j]? = some (u8v (nth l j)) := by
  rw [List.getElem?_map, nth_get h]; rfl
theorem view_none {w : World} {B : Nat} {l : List Nat} (h : View w B none (l.map u8v)) : l = [] := by
  cases l with
  | nil => rfl
  | cons x l => obtain ⟨b, o, e, _⟩ := h (by simp); cases e
end Go.Proofs.YtocnmcndcdncmaaDoor
