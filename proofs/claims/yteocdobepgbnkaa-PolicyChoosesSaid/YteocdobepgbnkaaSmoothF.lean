
/- smooth: the mathematics of picking: in any row of as many picks as the weights' sum, each is picked as often as it weighs. Conditions: none. -/
import Derived.Test.YteocdobepgbnkaaSmoothE
namespace Go.Proofs.Yteocdobepgbnkaa

def sumF (f : Nat → Int) : Nat → Int
  | 0 => 0
  | k + 1 => sumF f k + f k
theorem sumF_congr {f g : Nat → Int} (n : Nat) (h : ∀ i, i < n → f i = g i) : sumF f n = sumF g n := by
  induction n with
  | zero => rfl
  | succ n ih => simp only [sumF]; rw [ih (fun i hi => h i (by omega)), h n (by omega)]
theorem sumF_add (f g : Nat → Int) (n : Nat) : sumF (fun i => f i + g i) n = sumF f n + sumF g n := by
  induction n with
  | zero => rfl
  | succ n ih => simp only [sumF]; rw [ih]; omega
theorem sumF_le {f : Nat → Int} (n : Nat) (h : ∀ i, i < n → f i ≤ 0) : sumF f n ≤ 0 := by
  induction n with
  | zero => simp [sumF]
  | succ n ih => simp only [sumF]; have := ih (fun i hi => h i (by omega)); have := h n (by omega); omega
theorem sumF_one (b : Nat) (v : Int) (n : Nat) : sumF (fun i => if b = i then v else 0) n = if b < n then v else 0 := by
  induction n with
  | zero => simp [sumF]
  | succ n ih =>
    simp only [sumF]; rw [ih]
    by_cases h1 : b < n
    · rw [if_pos h1, if_neg (by omega), if_pos (by omega)]; omega
    · by_cases h2 : b = n
      · rw [if_neg h1, if_pos h2, if_pos (by omega)]; omega
      · rw [if_neg h1, if_neg h2, if_neg (by omega)]; omega
theorem sumF_eq {f g : Nat → Int} (n : Nat) (h : ∀ i, i < n → f i ≤ g i) (he : sumF f n = sumF g n) : ∀ i, i < n → f i = g i := by
  induction n with
  | zero => intro i hi; omega
  | succ n ih =>
    simp only [sumF] at he
    have hle : sumF (fun i => f i - g i) n ≤ 0 := sumF_le n fun i hi => by have := h i (by omega); omega
    have hs : sumF (fun i => f i - g i) n + sumF g n = sumF f n := by
      rw [← sumF_add]; exact sumF_congr n fun i _ => by omega
    have hn := h n (by omega)
    intro i hi
    by_cases hin : i = n
    · subst hin; omega
    · exact ih (fun i hi => h i (by omega)) (by omega) i (by omega)
theorem sumF_mul (c : Int) (f : Nat → Int) (n : Nat) : sumF (fun i => c * f i) n = c * sumF f n := by
  induction n with
  | zero => simp [sumF]
  | succ n ih => simp only [sumF]; rw [ih, Int.mul_add]

def run (wt : List Cn) : Nat → List Cr
  | 0 => wt.map fresh
  | t + 1 => payP (run wt t)
def best (wt : List Cn) (t : Nat) : Nat := besP (run wt t) wt.length
def wOf (wt : List Cn) (i : Nat) : Int := (wt.getD i default).weight
def cOf (wt : List Cn) (t i : Nat) : Int := ((run wt t).getD i default).owed
def sumW (wt : List Cn) : Int := sumF (wOf wt) wt.length
def cnt (wt : List Cn) (i : Nat) : Nat → Int
  | 0 => 0
  | t + 1 => cnt wt i t + if best wt t = i then 1 else 0

section
variable {wt : List Cn} (h0 : 0 < wt.length)
include h0
theorem run_same (t : Nat) : SameP wt (run wt t) := by
  induction t with
  | zero => exact same_fresh wt
  | succ t ih => exact same_pay ih h0
theorem run_len (t : Nat) : (run wt t).length = wt.length := (run_same h0 t).1.symm
theorem run_w (t i : Nat) (hi : i < wt.length) : ((run wt t).getD i default).weight = wOf wt i := ((run_same h0 t).2 i hi).2.symm
theorem best_lt (t : Nat) : best wt t < wt.length := besP_lt _ _ h0
theorem tot_run (t k : Nat) (hk : k ≤ wt.length) : totP (run wt t) k = sumF (wOf wt) k := by
  induction k with
  | zero => rfl
  | succ k ih => rw [totP_step _ _ (by rw [run_len h0]; omega), ih (by omega), run_w h0 t k (by omega)]; rfl
theorem c_step (t i : Nat) (hi : i < wt.length) : cOf wt (t + 1) i = cOf wt t i + wOf wt i - (if best wt t = i then sumW wt else 0) := by
  show ((payP (run wt t)).getD i default).owed = _
  rw [payP_getD _ (by rw [run_len h0]; exact h0) i (by rw [run_len h0]; exact hi), run_len h0, run_w h0 t i hi, tot_run h0 t _ (Nat.le_refl _)]
  rfl
theorem best_max (t : Nat) : ∀ i, i < wt.length → cOf wt t i + wOf wt i ≤ cOf wt t (best wt t) + wOf wt (best wt t) := by
  have key : ∀ k, k ≤ wt.length → ∀ i, i < k → cOf wt t i + wOf wt i ≤ cOf wt t (besP (run wt t) k) + wOf wt (besP (run wt t) k) := by
    intro k
    induction k with
    | zero => intro _ i hi; omega
    | succ k ih =>
      intro hk i hi
      have ha : ∀ j, j < k + 1 → ((addP (run wt t) (k + 1)).getD j default).owed = cOf wt t j + wOf wt j := by
        intro j hj
        rw [addP_getD _ _ (by rw [run_len h0]; exact hk) j, if_pos hj, ← run_w h0 t j (by omega)]; rfl
      have hb : besP (run wt t) k < k + 1 := by
        rcases Nat.eq_zero_or_pos k with rfl | h
        · simp [besP]
        · have := besP_lt (run wt t) k h; omega
      have hbk : i < k → cOf wt t i + wOf wt i ≤ cOf wt t (besP (run wt t) k) + wOf wt (besP (run wt t) k) := fun h => ih (by omega) i h
      simp only [besP]
      rw [ha k (by omega), ha _ hb]
      split
      · by_cases hik : i = k
        · subst hik; omega
        · have := hbk (by omega); omega
      · by_cases hik : i = k
        · subst hik; omega
        · exact hbk (by omega)
  exact key wt.length (Nat.le_refl _)
omit h0 in
theorem c_zero (i : Nat) : cOf wt 0 i = 0 := by
  show ((wt.map fresh).getD i default).owed = 0
  rw [List.getD_eq_getElem?_getD, List.getElem?_map]
  cases wt[i]? <;> rfl
theorem c_sum (t : Nat) : sumF (cOf wt t) wt.length = 0 := by
  induction t with
  | zero =>
    have h : sumF (cOf wt 0) wt.length = sumF (fun _ => 0 * 0) wt.length := sumF_congr _ fun i _ => by rw [c_zero]; rfl
    rw [h, sumF_mul 0 (fun _ => 0)]; simp
  | succ t ih =>
    have h : sumF (cOf wt (t + 1)) wt.length = sumF (fun i => (cOf wt t i + wOf wt i) + (if best wt t = i then - sumW wt else 0)) wt.length := sumF_congr _ fun i hi => by
      rw [c_step h0 t i hi]; split <;> omega
    rw [h, sumF_add (fun i => cOf wt t i + wOf wt i), sumF_add, ih, sumF_one, if_pos (best_lt h0 t)]
    show 0 + sumW wt + - sumW wt = 0
    omega
theorem c_low (hw : ∀ i, i < wt.length → 0 < wOf wt i) (t : Nat) : ∀ i, i < wt.length → - sumW wt < cOf wt t i := by
  have hT : 0 < sumW wt := by
    have h1 : ∀ k, k ≤ wt.length → (k : Int) ≤ sumF (wOf wt) k := by
      intro k
      induction k with
      | zero => intro _; simp [sumF]
      | succ k ih => intro hk; simp only [sumF]; have := ih (by omega); have := hw k (by omega); omega
    have := h1 wt.length (Nat.le_refl _)
    unfold sumW; omega
  induction t with
  | zero => intro i _; rw [c_zero]; omega
  | succ t ih =>
    intro i hi
    rw [c_step h0 t i hi]
    have h1 := ih i hi
    have h2 := hw i hi
    split
    · rename_i hb
      have hpos : 0 < cOf wt t (best wt t) + wOf wt (best wt t) := by
        refine Int.not_le.1 fun hle => ?_
        have hs : sumF (fun i => cOf wt t i + wOf wt i) wt.length ≤ 0 := sumF_le _ fun j hj => Int.le_trans (best_max h0 t j hj) hle
        rw [sumF_add, c_sum h0 t] at hs
        have : 0 + sumW wt ≤ 0 := hs
        omega
      rw [hb] at hpos; omega
    · omega
theorem c_cnt (t i : Nat) (hi : i < wt.length) : cOf wt t i = t * wOf wt i - cnt wt i t * sumW wt := by
  induction t with
  | zero => rw [c_zero]; simp [cnt]
  | succ t ih =>
    rw [c_step h0 t i hi, ih]
    simp only [cnt]
    rw [Int.natCast_succ, Int.add_mul, Int.add_mul, Int.one_mul]
    split
    · rw [Int.one_mul]; omega
    · rw [Int.zero_mul]; omega
theorem cnt_sum (t : Nat) : sumF (fun i => cnt wt i t) wt.length = t := by
  induction t with
  | zero =>
    have h : sumF (fun i => cnt wt i 0) wt.length = sumF (fun _ => 0 * 0) wt.length := sumF_congr _ fun i _ => rfl
    rw [h, sumF_mul 0 (fun _ => 0)]; simp
  | succ t ih =>
    simp only [cnt]
    rw [sumF_add (fun i => cnt wt i t), ih, sumF_one, if_pos (best_lt h0 t)]
    omega
/-- Behind as many picks as the sum of the weights all stands as at the start. -/
theorem run_T (hw : ∀ i, i < wt.length → 0 < wOf wt i) (T : Nat) (hT : (T : Int) = sumW wt) : run wt T = run wt 0 := by
  have hpos : 0 < sumW wt := by
    have := c_low h0 hw 0 0 h0
    rw [c_zero] at this; omega
  have hle : ∀ i, i < wt.length → cnt wt i T ≤ wOf wt i := by
    intro i hi
    have h1 := c_low h0 hw T i hi
    rw [c_cnt h0 T i hi, hT] at h1
    have h2 : 0 < sumW wt * (wOf wt i - cnt wt i T + 1) := by
      rw [Int.mul_add, Int.mul_sub, Int.mul_one, Int.mul_comm (sumW wt) (cnt wt i T)]; omega
    have h3 := Int.pos_of_mul_pos_right h2 hpos
    omega
  have heq := sumF_eq wt.length hle (by rw [cnt_sum h0 T, hT]; rfl)
  have hc : ∀ i, i < wt.length → cOf wt T i = 0 := by
    intro i hi
    rw [c_cnt h0 T i hi, heq i hi, hT, Int.mul_comm]; omega
  apply List.ext_getElem (by rw [run_len h0, run_len h0])
  intro i h1 h2
  rw [run_len h0] at h1
  have hg : ∀ t, (h : i < (run wt t).length) → (run wt t)[i] = (run wt t).getD i default := fun t h => by
    rw [List.getD_eq_getElem?_getD, List.getElem?_eq_getElem h]; rfl
  rw [hg, hg]
  have e1 := (run_same h0 T).2 i h1
  have e2 := (run_same h0 0).2 i h1
  have e3 : ((run wt T).getD i default).owed = ((run wt 0).getD i default).owed := (hc i h1).trans (c_zero i).symm
  generalize (run wt T).getD i default = x at *
  generalize (run wt 0).getD i default = y at *
  obtain ⟨x1, x2, x3⟩ := x; obtain ⟨y1, y2, y3⟩ := y
  simp only at e1 e2 e3
  simp only [Cr.mk.injEq]
  exact ⟨e1.1.symm.trans e2.1, e1.2.symm.trans e2.2, e3⟩
theorem run_shift (hw : ∀ i, i < wt.length → 0 < wOf wt i) (T : Nat) (hT : (T : Int) = sumW wt) (s : Nat) : run wt (s + T) = run wt s := by
  induction s with
  | zero => rw [Nat.zero_add]; exact run_T h0 hw T hT
  | succ s ih => rw [show s + 1 + T = s + T + 1 by omega]; show payP (run wt (s + T)) = payP (run wt s); rw [ih]
theorem window (hw : ∀ i, i < wt.length → 0 < wOf wt i) (T : Nat) (hT : (T : Int) = sumW wt) (s i : Nat) (hi : i < wt.length) : cnt wt i (s + T) - cnt wt i s = wOf wt i := by
  have hpos : 0 < sumW wt := by
    have := c_low h0 hw 0 0 h0
    rw [c_zero] at this; omega
  have h1 := c_cnt h0 (s + T) i hi
  have h2 := c_cnt h0 s i hi
  have h3 : cOf wt (s + T) i = cOf wt s i := by unfold cOf; rw [run_shift h0 hw T hT s]
  rw [h3, h2, Int.natCast_add, Int.add_mul, hT] at h1
  have h4 : sumW wt * (wOf wt i - (cnt wt i (s + T) - cnt wt i s)) = 0 := by
    rw [Int.mul_sub, Int.mul_sub, Int.mul_comm _ (cnt wt i (s + T)), Int.mul_comm _ (cnt wt i s)]; omega
  rcases Int.mul_eq_zero.1 h4 with h5 | h5 <;> omega
end
end Go.Proofs.Yteocdobepgbnkaa
