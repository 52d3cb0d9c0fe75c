
/- The reference's Of of siphash by a contract. Conditions: none. -/
import Derived.Test.YtgfmjgfeiokcdaaKeys
import Derived.Test.YtgfmjgfeiokcdaaVTake
namespace Go.Proofs.Ytgfmjgfeiokcdaa.Old
open Go.RowKit

theorem owp_append_any {P : Program} {w : World} {o : Oper} {a : Act} {K : Act → World → Prop} {Q : Exit → Act → World → Prop} (dst : Option Tmp) (hdst : o.dst = dst) (s x : Operand) (t : TypeId)
    (ho : o.op = .call { callee := .builtin .append, args := #[s, x], argTypes := #[t, t] })
    (base : Nat) (e : TypeId) (z : Value) (by_ : Nat) (hz1 : z.cells = #[z]) (ht : P.underlying t = some (.slice e)) (h2 : (P.info? e).map (fun i => (i.zero, i.size, i.bytes)) = some (some z, 1, by_))
    (A : Option Addr) (n c : Nat) (xs : List Value) (hs : a.eval s = .slice A n c) (hown : Own w base e A n c xs)
    (B : Nat) (ad : Addr) (m cx r : Nat) (ys : List Value) (hx : a.eval x = .slice (some ad) m cx) (hv : View w B (some ad) ys) (hm : ys.length = m) (h1 : ∀ u ∈ ys, u.oneCell' = true)
    (h63 : n + m ≤ maxLen) (hbytes : (n + m) * by_ ≤ 140737488355328) (hr : n + m = r) (hbase : base ≤ w.heap.size) (B0 : Nat) (w0 : World) (hb0 : Below B0 w0 w) (hB0 : B0 ≤ base) (hB1 : B0 ≤ w.heap.size)
    (h : ∀ A' c' w', Hid (Own w' base e A' r c' (xs ++ ys)) → Below B0 w0 w' → Below B0 w w' → K (a.put dst (.slice A' r c')) w') : o.wp P a w K Q := by
  subst hdst
  subst hr
  exact owp_append1 s x t ho base e z by_ hz1 ht h2 A n c xs hs hown B ad m cx ys hx hv hm h1 h63 hbytes hbase B0 w0 hb0 hB0 hB1 h

theorem own_arr {w : World} {g base : Nat} {l : List Nat} (n : Nat) (h : Arr w g 5 (l.map u8v)) (hn : l.length = n) (hb : base ≤ g) (hm : n ≤ maxLen) : Own w base 5 (some ⟨g, 0, none⟩) n n (l.map u8v) := by
  refine ⟨by simp [hn], .inr ⟨g, n, (l.map u8v).toArray, rfl, hb, h, Nat.le_refl _, hm, by simp [hn], ?_⟩⟩
  rw [List.toList_toArray]
  exact List.take_of_length_le (by simp [hn])

/-- A key that is filled: k bytes are in. -/
def fillK (l : List Nat) (k : Nat) : List Nat := l.take k ++ List.replicate (16 - k) 0
theorem fillK_length {l : List Nat} {k : Nat} (h : l.length = 16) (hk : k ≤ 16) : (fillK l k).length = 16 := by simp [fillK]; omega
theorem fillK_set {l : List Nat} {k : Nat} (h : l.length = 16) (hk : k < 16) : (fillK l k).set k (nth l k) = fillK l (k + 1) := by
  unfold fillK
  rw [List.set_append_right _ _ (by simp; omega)]
  rw [show k - (l.take k).length = 0 by simp; omega]
  rw [show 16 - k = (16 - (k + 1)) + 1 by omega, List.replicate_succ, List.set_cons_zero]
  rw [show l.take (k + 1) = l.take k ++ [nth l k] from by rw [List.take_add_one, nth_get (by omega)]; rfl]
  simp
theorem fillK_all {l : List Nat} (h : l.length = 16) : fillK l 16 = l := by
  unfold fillK
  rw [List.take_of_length_le (by omega)]
  simp

end Go.Proofs.Ytgfmjgfeiokcdaa.Old
