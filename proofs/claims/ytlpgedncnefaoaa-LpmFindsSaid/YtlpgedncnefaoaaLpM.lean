
/- lpm: shapes read as maps. Any program. -/
import Derived.Test.YtlpgedncnefaoaaLpL
namespace Go.Proofs.Ytlpgedncnefaoaa
open Go.RowKit
def Sh.get : Sh → Option Int
  | .nd _ _ true v => some v
  | _ => none
def getS (f : Nat → Nat) (n k : Nat) (t : Sh) : Option Int := (atS f n k t).get
theorem Sh.nil_kid (b : Nat) : Sh.kid .nil b = .nil := rfl
theorem getS_nil (f : Nat → Nat) (n : Nat) : ∀ k, getS f n k .nil = none := by
  induction n with
  | zero => intro k; rfl
  | succ n ih => intro k; exact ih (k + 1)
theorem getS_succ (f : Nat → Nat) (n k : Nat) (t : Sh) : getS f (n + 1) k t = getS f n (k + 1) (t.kid (f k)) := rfl
theorem getS_agree (f f' : Nat → Nat) (n : Nat) : ∀ (k : Nat) (t : Sh), (∀ i, i < n → f' (k + i) = f (k + i)) → getS f' n k t = getS f n k t := by
  induction n with
  | zero => intro k t h; rfl
  | succ n ih =>
    intro k t h
    rw [getS_succ, getS_succ, show f' k = f k from h 0 (by omega)]
    exact ih (k + 1) _ fun i hi => by have := h (i + 1) (by omega); rwa [show k + (i + 1) = k + 1 + i from by omega] at this
theorem setS_succ (f : Nat → Nat) (v : Int) (n k : Nat) (t : Sh) : ∃ l r s x, setS f v (n + 1) k t = .nd l r s x ∧ (if f k = 0 then l else r) = setS f v n (k + 1) (t.kid (f k)) ∧ (Sh.nd l r s x).get = t.get ∧ ∀ b, (b = 0 ↔ ¬ f k = 0) → Sh.kid (.nd l r s x) b = t.kid b := by
  cases t with
  | nil =>
    by_cases h : f k = 0
    · exact ⟨_, _, _, _, by rw [setS, if_pos h], by rw [if_pos h, Sh.nil_kid], rfl, fun b hb => if_neg (fun h0 => hb.1 h0 h)⟩
    · exact ⟨_, _, _, _, by rw [setS, if_neg h], by rw [if_neg h, Sh.nil_kid], rfl, fun b hb => if_pos (hb.2 h)⟩
  | nd l r s x =>
    by_cases h : f k = 0
    · refine ⟨_, _, _, _, by rw [setS, if_pos h], by rw [if_pos h, Sh.kid, if_pos h], by cases s <;> rfl, fun b hb => ?_⟩
      have : ¬ b = 0 := fun h0 => hb.1 h0 h
      rw [Sh.kid, if_neg this, Sh.kid, if_neg this]
    · refine ⟨_, _, _, _, by rw [setS, if_neg h], by rw [if_neg h, Sh.kid, if_neg h], by cases s <;> rfl, fun b hb => ?_⟩
      have : b = 0 := hb.2 h
      rw [Sh.kid, if_pos this, Sh.kid, if_pos this]
theorem kid_if (l r : Sh) (s : Bool) (x : Int) (b : Nat) : Sh.kid (.nd l r s x) b = if b = 0 then l else r := rfl
theorem get_set_same (f f' : Nat → Nat) (v : Int) (n : Nat) : ∀ (k : Nat) (t : Sh), (∀ i, i < n → f' (k + i) = f (k + i)) → getS f' n k (setS f v n k t) = some v := by
  induction n with
  | zero => intro k t h; cases t <;> rfl
  | succ n ih =>
    intro k t h
    obtain ⟨l, r, s, x, h1, h2, _, _⟩ := setS_succ f v n k t
    rw [h1, getS_succ, show f' k = f k from h 0 (by omega), kid_if, h2]
    exact ih (k + 1) _ fun i hi => by have := h (i + 1) (by omega); rwa [show k + (i + 1) = k + 1 + i from by omega] at this
theorem get_set_other (f f' : Nat → Nat) (v : Int) (hf : ∀ i, f i < 2) (hf' : ∀ i, f' i < 2) (n : Nat) : ∀ (n' k : Nat) (t : Sh), (n' = n → ∃ i, i < n ∧ f' (k + i) ≠ f (k + i)) → getS f' n' k (setS f v n k t) = getS f' n' k t := by
  induction n with
  | zero =>
    intro n' k t h
    cases n' with
    | zero => obtain ⟨i, hi, _⟩ := h rfl; omega
    | succ m =>
      rw [getS_succ, getS_succ]
      cases t with
      | nil =>
        have : Sh.kid (setS f v 0 k .nil) (f' k) = Sh.nil := by show Sh.kid (.nd .nil .nil true v) (f' k) = _; rw [kid_if]; split <;> rfl
        rw [this]
        rfl
      | nd l r s x => rfl
  | succ n ih =>
    intro n' k t h
    obtain ⟨l, r, s, x, h1, h2, h3, h4⟩ := setS_succ f v n k t
    rw [h1]
    cases n' with
    | zero => exact h3
    | succ m =>
      rw [getS_succ, getS_succ]
      by_cases hk : f' k = f k
      · rw [hk, kid_if, h2]
        refine ih m (k + 1) _ fun hm => ?_
        obtain ⟨i, hi, hne⟩ := h (by omega)
        cases i with
        | zero => exact absurd hk hne
        | succ i => exact ⟨i, by omega, by rwa [show k + 1 + i = k + (i + 1) from by omega]⟩
      · rw [h4 (f' k) (by have := hf k; have := hf' k; omega)]
/-- The tree without an empty leaf at its root. -/
def Sh.prune : Sh → Sh
  | .nd .nil .nil false _ => .nil
  | t => t
theorem get_prune (f : Nat → Nat) (n k : Nat) (t : Sh) : getS f n k t.prune = getS f n k t := by
  cases t with
  | nil => rfl
  | nd l r s v =>
    cases l with
    | nd _ _ _ _ => rfl
    | nil =>
      cases r with
      | nd _ _ _ _ => rfl
      | nil =>
        cases s with
        | true => rfl
        | false =>
          show getS f n k .nil = _
          cases n with
          | zero => rfl
          | succ n =>
            have : Sh.kid (.nd .nil .nil false v) (f k) = Sh.nil := by rw [kid_if]; split <;> rfl
            rw [getS_succ, getS_succ, this]
            rfl
def dropS (f : Nat → Nat) : Nat → Nat → Sh → Sh
  | _, _, .nil => .nil
  | 0, _, .nd l r _ v => Sh.prune (.nd l r false v)
  | m + 1, k, .nd l r s v => Sh.prune (if f k = 0 then .nd (dropS f m (k + 1) l) r s v else .nd l (dropS f m (k + 1) r) s v)
theorem get_drop_same (f f' : Nat → Nat) (n : Nat) : ∀ (k : Nat) (t : Sh), (∀ i, i < n → f' (k + i) = f (k + i)) → getS f' n k (dropS f n k t) = none := by
  induction n with
  | zero =>
    intro k t h
    cases t with
    | nil => rfl
    | nd l r s v =>
      rw [dropS, get_prune]
      rfl
  | succ n ih =>
    intro k t h
    cases t with
    | nil => exact getS_nil _ _ _
    | nd l r s v =>
      have h' : ∀ i, i < n → f' (k + 1 + i) = f (k + 1 + i) := fun i hi => by have := h (i + 1) (by omega); rwa [show k + (i + 1) = k + 1 + i from by omega] at this
      rw [dropS, get_prune, getS_succ, show f' k = f k from h 0 (by omega)]
      by_cases hk : f k = 0
      · rw [if_pos hk, kid_if, if_pos hk]; exact ih _ _ h'
      · rw [if_neg hk, kid_if, if_neg hk]; exact ih _ _ h'
theorem get_drop_other (f f' : Nat → Nat) (hf : ∀ i, f i < 2) (hf' : ∀ i, f' i < 2) (n : Nat) : ∀ (n' k : Nat) (t : Sh), (n' = n → ∃ i, i < n ∧ f' (k + i) ≠ f (k + i)) → getS f' n' k (dropS f n k t) = getS f' n' k t := by
  induction n with
  | zero =>
    intro n' k t h
    cases t with
    | nil => cases n' <;> rfl
    | nd l r s v =>
      rw [dropS, get_prune]
      cases n' with
      | zero => obtain ⟨i, hi, _⟩ := h rfl; omega
      | succ m => rfl
  | succ n ih =>
    intro n' k t h
    cases t with
    | nil => rfl
    | nd l r s v =>
      rw [dropS, get_prune]
      cases n' with
      | zero => cases s <;> (split <;> rfl)
      | succ m =>
        rw [getS_succ, getS_succ]
        have h' : f' k = f k → m = n → ∃ i, i < n ∧ f' (k + 1 + i) ≠ f (k + 1 + i) := fun hk hm => by
          obtain ⟨i, hi, hne⟩ := h (by omega)
          cases i with
          | zero => exact absurd hk hne
          | succ i => exact ⟨i, by omega, by rwa [show k + 1 + i = k + (i + 1) from by omega]⟩
        have q1 := hf k
        have q2 := hf' k
        by_cases hk : f k = 0
        · rw [if_pos hk, kid_if, kid_if]
          by_cases hk' : f' k = 0
          · rw [if_pos hk', if_pos hk']; exact ih _ _ _ (h' (by omega))
          · rw [if_neg hk', if_neg hk']
        · rw [if_neg hk, kid_if, kid_if]
          by_cases hk' : f' k = 0
          · rw [if_pos hk', if_pos hk']
          · rw [if_neg hk', if_neg hk']; exact ih _ _ _ (h' (by omega))
theorem findS_none (f : Nat → Nat) (m : Nat) : ∀ (k : Nat) (t : Sh) (b : Option (Nat × Int)), (∀ j, j ≤ m → getS f j k t = none) → findS f m k t b = b := by
  induction m with
  | zero =>
    intro k t b h
    cases t with
    | nil => rfl
    | nd l r s v =>
      cases s with
      | false => rfl
      | true => have := h 0 (by omega); cases this
  | succ m ih =>
    intro k t b h
    cases t with
    | nil => rfl
    | nd l r s v =>
      cases s with
      | true => have := h 0 (by omega); cases this
      | false => exact ih (k + 1) (if f k = 0 then l else r) b fun j hj => h (j + 1) (by omega)
theorem findS_some (f : Nat → Nat) (m : Nat) : ∀ (k : Nat) (t : Sh) (b : Option (Nat × Int)) (j : Nat) (v : Int), j ≤ m → getS f j k t = some v → (∀ i, j < i → i ≤ m → getS f i k t = none) → findS f m k t b = some (k + j, v) := by
  induction m with
  | zero =>
    intro k t b j v hj hg h
    obtain rfl : j = 0 := by omega
    cases t with
    | nil => cases hg
    | nd l r s w =>
      cases s with
      | false => cases hg
      | true => injection hg with hg; subst hg; rfl
  | succ m ih =>
    intro k t b j v hj hg h
    cases t with
    | nil => rw [getS_nil] at hg; cases hg
    | nd l r s w =>
      cases j with
      | zero =>
        cases s with
        | false => cases hg
        | true =>
          injection hg with hg
          subst hg
          exact findS_none f m (k + 1) (if f k = 0 then l else r) _ fun i hi => h (i + 1) (by omega) (by omega)
      | succ j =>
        have := ih (k + 1) (if f k = 0 then l else r) (if s then some (k, w) else b) j v (by omega) hg fun i hi hm => h (i + 1) (by omega) (by omega)
        rw [show k + (j + 1) = k + 1 + j from by omega]
        exact this
end Go.Proofs.Ytlpgedncnefaoaa
