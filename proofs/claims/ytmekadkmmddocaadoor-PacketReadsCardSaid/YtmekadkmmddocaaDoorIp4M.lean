/- ip4: what is written is read: mathematics. -/
import Derived.Test.YtmekadkmmddocaaDoorIp4P
namespace Go.Proofs.YtmekadkmmddocaaDoor
open Go.RowKit

theorem nth_app_r {p q : List Nat} {i : Nat} : nth (p ++ q) (p.length + i) = nth q i := by
  unfold nth
  rw [List.getD_eq_getElem?_getD, List.getD_eq_getElem?_getD, List.getElem?_append_right (by omega), Nat.add_sub_cancel_left]
theorem nth_app_l {p q : List Nat} {i : Nat} (h : i < p.length) : nth (p ++ q) i = nth p i := by
  unfold nth
  rw [List.getD_eq_getElem?_getD, List.getD_eq_getElem?_getD, List.getElem?_append_left h]
theorem psum_app_l {p q : List Nat} {k : Nat} (h : k ≤ p.length) : psum (p ++ q) k = psum p k := by
  induction k with
  | zero => rfl
  | succ k ih => simp only [psum]; rw [ih (by omega), nth_app_l (by omega)]
theorem psum_append {p q : List Nat} (he : p.length % 2 = 0) (k : Nat) : psum (p ++ q) (p.length + k) = psum p p.length + psum q k := by
  induction k with
  | zero => simp only [Nat.add_zero, psum]; exact psum_app_l (Nat.le_refl _)
  | succ k ih =>
    rw [← Nat.add_assoc]
    simp only [psum]
    rw [ih, nth_app_r]
    have : (p.length + k) % 2 = k % 2 := by omega
    rw [this]
    split <;> omega
structure Ip4Got (l : List Nat) (tos id fl ttl proto ck sl dl sz len : Nat) (o x : List Nat) : Prop where
  form : Ip4Form l l.length sz len
  sum : SumOk l sz
  g1 : getN l 1 1 = tos
  g4 : getN l 4 2 = id
  g6 : getN l 6 2 = fl
  g8 : getN l 8 1 = ttl
  g9 : getN l 9 1 = proto
  g10 : getN l 10 2 = ck
  g12 : getN l 12 4 = sl
  g16 : getN l 16 4 = dl
  opt : (l.drop 20).take (sz - 20) = o
  load : (l.drop sz).take (len - sz) = x
end Go.Proofs.YtmekadkmmddocaaDoor
