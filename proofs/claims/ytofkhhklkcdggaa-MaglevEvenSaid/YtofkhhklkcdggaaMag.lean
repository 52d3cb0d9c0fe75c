
/- Lookup tables: primes, orders of slots, how members take them, as plain facts. Conditions: none. -/
import Derived.Test.YtofkhhklkcdggaaTy
namespace Go.Proofs.Ytofkhhklkcdggaa
def isP (n : Nat) : Prop := 2 ≤ n ∧ ∀ d, 2 ≤ d → d < n → n % d ≠ 0
theorem isP_of_half {n d : Nat} (hn : 2 ≤ n) (hd : 2 ≤ d) (h : ∀ e, 2 ≤ e → e < d → n % e ≠ 0) (hex : n / d < d) : isP n := by
  refine ⟨hn, fun e h2 he h0 => ?_⟩
  have hne : n = e * (n / e) := by
    have := Nat.div_add_mod n e
    omega
  obtain ⟨f, hf⟩ : ∃ f, n / e = f := ⟨_, rfl⟩
  rw [hf] at hne
  have hed : d ≤ e := by
    rcases Nat.lt_or_ge e d with h1 | h1
    · exact absurd h0 (h e h2 h1)
    · exact h1
  have hf2 : 2 ≤ f := by
    rcases Nat.lt_or_ge f 2 with h1 | h1
    · have : f = 0 ∨ f = 1 := by omega
      rcases this with rfl | rfl <;> omega
    · exact h1
  have hfd : f < d := by
    rcases Nat.lt_or_ge f d with h1 | h1
    · exact h1
    · exfalso
      have h3 : n < d * d := by
        have := Nat.div_lt_iff_lt_mul (k := d) (x := n) (y := d) (by omega)
        exact this.1 hex
      have h4 : d * d ≤ e * f := Nat.mul_le_mul hed h1
      omega
  have : n % f = 0 := by rw [hne]; exact Nat.mul_mod_left e f
  exact h f hf2 hfd this
theorem no_inj : ∀ (n : Nat) (f : Nat → Nat), (∀ i, i ≤ n → f i < n) → (∀ i j, i ≤ n → j ≤ n → f i = f j → i = j) → False := by
  intro n
  induction n with
  | zero => intro f h _; exact absurd (h 0 (Nat.le_refl _)) (by omega)
  | succ n ih =>
    intro f h hi
    refine ih (fun i => if f i = n then f (n + 1) else f i) (fun i hin => ?_) (fun i j hin hjn he => ?_)
    · have h1 := h i (by omega)
      have h2 := h (n + 1) (Nat.le_refl _)
      try simp only
      split
      · next he =>
        have : f (n + 1) ≠ n := fun h3 => by have := hi i (n + 1) (by omega) (Nat.le_refl _) (he.trans h3.symm); omega
        omega
      · omega
    · try simp only at he
      split at he <;> split at he
      · next h1 h2 => exact hi i j (by omega) (by omega) (h1.trans h2.symm)
      · next h1 h2 => have := hi (n + 1) j (Nat.le_refl _) (by omega) he; omega
      · next h1 h2 => have := hi i (n + 1) (by omega) (Nat.le_refl _) he; omega
      · exact hi i j (by omega) (by omega) he
theorem surj_of_inj {n : Nat} {f : Nat → Nat} (hf : ∀ i, i < n → f i < n) (hi : ∀ i j, i < n → j < n → f i = f j → i = j) : ∀ x, x < n → ∃ i, i < n ∧ f i = x := by
  intro x hx
  refine Classical.byContradiction fun hno => ?_
  obtain ⟨m, rfl⟩ : ∃ m, n = m + 1 := ⟨n - 1, by omega⟩
  refine no_inj m (fun i => if f i = m then x else f i) (fun i him => ?_) (fun i j him hjm he => ?_)
  · have h1 := hf i (by omega)
    have h2 : f i ≠ x := fun h => hno ⟨i, by omega, h⟩
    try simp only
    split <;> omega
  · have h2 : f i ≠ x := fun h => hno ⟨i, by omega, h⟩
    have h3 : f j ≠ x := fun h => hno ⟨j, by omega, h⟩
    try simp only at he
    split at he <;> split at he
    · next h4 h5 => exact hi i j (by omega) (by omega) (h4.trans h5.symm)
    · exact absurd he.symm h3
    · exact absurd he h2
    · exact hi i j (by omega) (by omega) he
theorem isP_coprime {n s : Nat} (h : isP n) (h1 : 1 ≤ s) (h2 : s < n) : Nat.Coprime n s := by
  have hd1 : Nat.gcd n s ∣ n := Nat.gcd_dvd_left _ _
  have hd2 : Nat.gcd n s ∣ s := Nat.gcd_dvd_right _ _
  have hle : Nat.gcd n s ≤ s := Nat.le_of_dvd (by omega) hd2
  have hpos : 0 < Nat.gcd n s := Nat.gcd_pos_of_pos_left _ (by have := h.1; omega)
  rcases Nat.lt_or_ge (Nat.gcd n s) 2 with h3 | h3
  · show Nat.gcd n s = 1
    omega
  · exact absurd (Nat.mod_eq_zero_of_dvd hd1) (h.2 _ h3 (by omega))
def atN (f s n i : Nat) : Nat := (f + i * s) % n
theorem atN_lt {f s n i : Nat} (h : 0 < n) : atN f s n i < n := Nat.mod_lt _ h
theorem atN_succ {f s n i : Nat} : (atN f s n i + s) % n = atN f s n (i + 1) := by
  unfold atN
  rw [Nat.mod_add_mod, Nat.succ_mul, Nat.add_assoc]
theorem atN_inj {f s n : Nat} (h : isP n) (h1 : 1 ≤ s) (h2 : s < n) : ∀ i j, i < n → j < n → atN f s n i = atN f s n j → i = j := by
  have key : ∀ i j, i ≤ j → j < n → atN f s n i = atN f s n j → i = j := by
    intro i j hij hj he
    unfold atN at he
    have hd : n ∣ (j - i) * s := by
      have h3 : (f + j * s) - (f + i * s) = (j - i) * s := by rw [Nat.sub_mul]; omega
      rw [← h3]
      have h4 : (f + j * s - (f + i * s)) % n = 0 := Nat.sub_mod_eq_zero_of_mod_eq he.symm
      exact Nat.dvd_of_mod_eq_zero h4
    have hd2 : n ∣ j - i := (isP_coprime h h1 h2).dvd_of_dvd_mul_right hd
    rcases Nat.eq_zero_or_pos (j - i) with h5 | h5
    · omega
    · have := Nat.le_of_dvd h5 hd2
      omega
  intro i j hi hj he
  rcases Nat.le_total i j with h3 | h3
  · exact key i j h3 hj he
  · exact (key j i h3 hi he.symm).symm
/-- The first free slot in a member's order, not before the i-th. -/
def ffF (t : List Int) (f s n : Nat) : Nat → Nat → Nat
  | 0, i => i
  | k + 1, i => if t.getD (atN f s n i) 0 = 0 then i else ffF t f s n k (i + 1)
def ff (t : List Int) (f s n : Nat) : Nat := ffF t f s n n 0
theorem ffF_spec (t : List Int) (f s n : Nat) : ∀ (k i x : Nat), i ≤ x → x < i + k → (∀ y, i ≤ y → y < x → t.getD (atN f s n y) 0 ≠ 0) → t.getD (atN f s n x) 0 = 0 → ffF t f s n k i = x := by
  intro k
  induction k with
  | zero => intro i x h1 h2; omega
  | succ k ih =>
    intro i x h1 h2 h3 h4
    unfold ffF
    rcases Nat.lt_or_ge i x with h5 | h5
    · rw [if_neg (h3 i (Nat.le_refl _) h5)]
      exact ih (i + 1) x h5 (by omega) (fun y hy => h3 y (by omega)) h4
    · obtain rfl : i = x := by omega
      rw [if_pos h4]
theorem ff_eq {t : List Int} {f s n x : Nat} (hx : x < n) (h : ∀ y, y < x → t.getD (atN f s n y) 0 ≠ 0) (h0 : t.getD (atN f s n x) 0 = 0) : ff t f s n = x :=
  ffF_spec t f s n n 0 x (Nat.zero_le _) (by omega) (fun y _ hy => h y hy) h0
def nz (v : Int) : Bool := decide (v ≠ 0)
theorem countP_set (p : Int → Bool) : ∀ (l : List Int) (i : Nat) (a : Int), i < l.length → p (l.getD i 0) = false → (l.set i a).countP p = l.countP p + (if p a then 1 else 0) := by
  intro l
  induction l with
  | nil => intro i a hi; simp at hi
  | cons x l ih =>
    intro i a hi hp
    cases i with
    | zero =>
      have hp' : p x = false := hp
      rw [List.set_cons_zero, List.countP_cons, List.countP_cons, hp']
      simp
    | succ i =>
      have hp' : p (l.getD i 0) = false := by simpa using hp
      rw [List.set_cons_succ, List.countP_cons, List.countP_cons, ih i a (by simpa using hi) hp']
      omega
/-- Among fewer than n taken slots every order comes to a free one. -/
theorem free_ex {t : List Int} {f s n : Nat} (h : isP n) (h1 : 1 ≤ s) (h2 : s < n) (hl : t.length = n) (hc : t.countP nz < n) : ∃ x, x < n ∧ t.getD (atN f s n x) 0 = 0 ∧ ∀ y, y < x → t.getD (atN f s n y) 0 ≠ 0 := by
  have hex : ∃ x, x < n ∧ t.getD (atN f s n x) 0 = 0 := by
    refine Classical.byContradiction fun hno => ?_
    have hall : ∀ v ∈ t, nz v = true := by
      intro v hv
      obtain ⟨i, hi, rfl⟩ := List.getElem_of_mem hv
      obtain ⟨x, hx, he⟩ := surj_of_inj (f := atN f s n) (fun i _ => atN_lt (by omega)) (atN_inj h h1 h2) i (by omega)
      have h3 : t.getD (atN f s n x) 0 ≠ 0 := fun h0 => hno ⟨x, hx, h0⟩
      rw [he, List.getD_eq_getElem?_getD, List.getElem?_eq_getElem hi] at h3
      simpa [nz] using h3
    rw [List.countP_eq_length.2 hall] at hc
    omega
  obtain ⟨x, hx, h0⟩ := hex
  have key : ∀ m x, x ≤ m → x < n → t.getD (atN f s n x) 0 = 0 → ∃ x, x < n ∧ t.getD (atN f s n x) 0 = 0 ∧ ∀ y, y < x → t.getD (atN f s n y) 0 ≠ 0 := by
    intro m
    induction m with
    | zero => intro x hxm hx h0; exact ⟨x, hx, h0, fun y hy => by omega⟩
    | succ m ih =>
      intro x hxm hx h0
      by_cases hy : ∃ y, y < x ∧ t.getD (atN f s n y) 0 = 0
      · obtain ⟨y, hyx, hy0⟩ := hy
        exact ih y (by omega) (by omega) hy0
      · exact ⟨x, hx, h0, fun y hyx h => hy ⟨y, hyx, h⟩⟩
  exact key x x (Nat.le_refl _) hx h0
end Go.Proofs.Ytofkhhklkcdggaa
