
/- How often a member holds a slot; how tables differ. Conditions: none but bounds. -/
import Derived.Test.YtofkhhklkcdggaaMagE
namespace Go.Proofs.Ytofkhhklkcdggaa
open Go.RowKit
theorem upd_ne {f : Nat → Value} {a b : Nat} {v x : Value} (e : Nat.beq b a = false) (h : f b = x) : upd f a v b = x := by
  unfold upd; rw [e]; exact h
def eqI (v : Int) : Int → Bool := fun x => decide (x = v)
def hits (q i : Nat) : Nat → Nat
  | 0 => 0
  | j + 1 => hits q i j + (if j % q = i then 1 else 0)
theorem hits_eq {q i : Nat} (hq : 0 < q) (hi : i < q) : ∀ j, hits q i j = j / q + (if i < j % q then 1 else 0) := by
  intro j
  induction j with
  | zero => simp [hits]
  | succ j ih =>
    rw [hits, ih]
    have h1 := Nat.div_add_mod j q
    have h2 := Nat.div_add_mod (j + 1) q
    have h3 := Nat.mod_lt j hq
    have h4 := Nat.mod_lt (j + 1) hq
    by_cases h : j % q + 1 = q
    · have e1 : (j + 1) / q = j / q + 1 := by
        have h5 : j + 1 = q * (j / q + 1) := by rw [Nat.mul_add, Nat.mul_one]; omega
        rw [h5, Nat.mul_div_cancel_left _ hq]
      have e2 : (j + 1) % q = 0 := by
        have h5 : j + 1 = q * (j / q + 1) := by rw [Nat.mul_add, Nat.mul_one]; omega
        rw [h5, Nat.mul_mod_right]
      rw [e1, e2]
      by_cases h6 : j % q = i
      · rw [if_pos h6, if_neg (by omega), if_neg (by omega)]
      · rw [if_neg h6, if_pos (by omega), if_neg (by omega)]
    · have e1 : (j + 1) / q = j / q ∧ (j + 1) % q = j % q + 1 := by
        have h5 : j + 1 = (j % q + 1) + q * (j / q) := by omega
        have e := Nat.add_mul_div_left (j % q + 1) (j / q) hq
        rw [Nat.div_eq_of_lt (show j % q + 1 < q by omega), Nat.zero_add, ← h5] at e
        have e' := Nat.add_mul_mod_self_left (j % q + 1) q (j / q)
        rw [Nat.mod_eq_of_lt (show j % q + 1 < q by omega), ← h5] at e'
        exact ⟨e, e'⟩
      rw [e1.1, e1.2]
      by_cases h6 : j % q = i
      · rw [if_pos h6, if_neg (by omega), if_pos (by omega)]
      · rw [if_neg h6]
        by_cases h7 : i < j % q
        · rw [if_pos h7, if_pos (by omega)]
        · rw [if_neg h7, if_neg (by omega)]
theorem hits_bd {q i n : Nat} (hq : 0 < q) (hi : i < q) : n / q ≤ hits q i n ∧ hits q i n ≤ (n + q - 1) / q := by
  rw [hits_eq hq hi]
  have h1 := Nat.div_add_mod n q
  have h2 := Nat.mod_lt n hq
  refine ⟨by omega, ?_⟩
  rw [Nat.le_div_iff_mul_le hq]
  split
  · rw [Nat.add_mul, Nat.mul_comm (n / q) q]; omega
  · rw [Nat.add_zero, Nat.mul_comm (n / q) q]; omega
theorem tab_hits {k : Nat → Nat} {l : List Int} {n i : Nat} (hn : isP n) (hok : okM l) (hl : 1 ≤ l.length) (hi : i < l.length) : ∀ j, j ≤ n → (tabN k l n j).countP (eqI (l.getD i 0)) = hits l.length i j := by
  have hi1 := okM_get hok hi
  intro j
  induction j with
  | zero =>
    intro _
    rw [tabN, List.countP_replicate, hits, if_neg]
    unfold eqI
    rw [decide_eq_true_iff]
    omega
  | succ j ih =>
    intro hj
    have h1 := ih (by omega)
    obtain ⟨x, hx⟩ := turned (k := k) hn hok hl (show j < n by omega)
    obtain ⟨hm, hm1, _⟩ := mem_ok hok hl j
    have hmod := Nat.mod_lt j (show l.length > 0 by omega)
    rw [hx.step, countP_set _ _ _ _ (by rw [tab_len]; exact atN_lt (by have := hn.1; omega)) (by rw [hx.free]; unfold eqI; exact decide_eq_false (by omega)), h1, hits, ← hm]
    congr 1
    by_cases he : j % l.length = i
    · rw [if_pos he, he, if_pos]
      unfold eqI
      exact decide_eq_true rfl
    · rw [if_neg he]
      have hne : l.getD (j % l.length) 0 ≠ l.getD i 0 := by
        rcases Nat.lt_or_gt_of_ne he with h | h
        · exact okM_ne hok h hi
        · exact fun h2 => okM_ne hok h hmod h2.symm
      rw [if_neg]
      unfold eqI
      rw [decide_eq_true_iff]
      exact hne
def mvd (t u : List Int) : Nat → Nat
  | 0 => 0
  | j + 1 => mvd t u j + (if t.getD j 0 = u.getD j 0 then 0 else 1)
theorem mvd_le (t u : List Int) : ∀ j, mvd t u j ≤ j
  | 0 => Nat.le_refl _
  | j + 1 => by have := mvd_le t u j; rw [mvd]; split <;> omega
theorem cnt_take (t : List Int) (v : Int) {p : Nat} (hp : p < t.length) : (t.take (p + 1)).countP (eqI v) = (t.take p).countP (eqI v) + (if t.getD p 0 = v then 1 else 0) := by
  rw [List.take_succ_eq_append_getElem hp, List.countP_append, List.countP_singleton]
  have : t.getD p 0 = t[p] := by rw [List.getD_eq_getElem?_getD, List.getElem?_eq_getElem hp]; rfl
  rw [this]
  simp [eqI]
def cntI (t : List Int) (v : Int) : Nat → Nat
  | 0 => 0
  | p + 1 => cntI t v p + (if t.getD p 0 = v then 1 else 0)
theorem cntI_0 (t : List Int) (v : Int) : cntI t v 0 = 0 := rfl
theorem cntI_s (t : List Int) (v : Int) (p : Nat) : cntI t v (p + 1) = cntI t v p + (if t.getD p 0 = v then 1 else 0) := rfl
theorem cntI_le (t : List Int) (v : Int) : ∀ p, cntI t v p ≤ p
  | 0 => Nat.le_refl _
  | p + 1 => by have := cntI_le t v p; rw [cntI_s]; split <;> omega
theorem cntI_eq (t : List Int) (v : Int) : ∀ p, p ≤ t.length → cntI t v p = (t.take p).countP (eqI v)
  | 0, _ => by rw [List.take_zero, List.countP_nil, cntI_0]
  | p + 1, h => by rw [cntI_s, cnt_take t v (by omega), cntI_eq t v p (by omega)]
end Go.Proofs.Ytofkhhklkcdggaa
