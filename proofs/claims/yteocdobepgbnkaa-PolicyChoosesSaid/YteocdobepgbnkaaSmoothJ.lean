
/- smooth: both Picks in one contract each, whether something weighs or not; what picks keep of the credits. Conditions: none but bounds. -/
import Derived.Test.YteocdobepgbnkaaSmoothI
import Derived.Test.YteocdobepgbnkaaJF
namespace Go.Proofs.Yteocdobepgbnkaa
open Go.RowKit

section
variable {F : List Nat} {w0 w w' : World} {M : List Ent}
/-- A row that is either new or one that is there already. -/
theorem St.orv (h : St F w0 M w) (i : Nat) {R A : Option Addr} {xs ys : List Value} (hM : M[i]? = some (.vw R xs)) (hk : Kp [] w w') (hn : NewV w w' A ys ∨ (A = R ∧ ys = xs)) : St F w0 (.vw A ys :: M) w' := by
  rcases hn with hn | ⟨rfl, rfl⟩
  · exact h.addn hk hn
  · have h1 := h.kept hk
    refine h1.addv (viewV h1.ok i hM) fun e' he' => ?_
    obtain ⟨j, hj⟩ := List.getElem?_of_mem he'
    by_cases hij : i = j
    · subst hij
      rw [hM] at hj
      injection hj with hj
      subst hj
      exact .inl rfl
    · exact h1.ap i j _ _ hij hM hj
end

noncomputable def nextK (wt : List Cn) (ks : List Cr) : List Cr := if 0 < wt.length then payP (startP wt ks) else ks
noncomputable def toldC (wt : List Cn) (ks : List Cr) : Cn := if 0 < wt.length then wt.getD (besP (startP wt ks) wt.length) default else default
theorem start_both (wt : List Cn) (ks : List Cr) : SameP wt (startP wt ks) := by
  unfold startP
  split
  · rename_i h; exact of_sameB h
  · exact same_fresh wt
theorem start_len (wt : List Cn) (ks : List Cr) : (startP wt ks).length = wt.length := (start_both wt ks).1.symm

theorem pick_j (gs : Nat) (Ka : Option Addr) (m ck : Nat) (ks : List Cr) (n : Nat) (A : Option Addr) (c : Nat) (l : List Cn) (F : List Nat) (w0 : World)
    (hS : St F w0 [.row (.slice Ka m ck) 66 3 m (flat crV ks), .blk gs 27 [.slice Ka m ck], .vw A (flat cnV l)] w0)
    (hl : l.length = n) (hm : ks.length = m) (hn4 : n ≤ 1000) (hmild : Mild (startP (wfT l n) ks)) :
    Calls Try.prog 8 #[.pointer (some ⟨gs, 0, none⟩), .slice A n c] w0 fun e w' => ∃ K' m' ck',
      e = .returned (.tuple #[.agg (cnV (toldC (wfT l n) ks)).toArray, .bool (decide (0 < (wfT l n).length))]) ∧ (nextK (wfT l n) ks).length = m' ∧
      St F w0 [.row (.slice K' m' ck') 66 3 m' (flat crV (nextK (wfT l n) ks)), .blk gs 27 [.slice K' m' ck'], .vw A (flat cnV l)] w' := by
  by_cases hq0 : 0 < (wfT l n).length
  · refine Calls.mono (pick_c gs Ka m ck ks n A c l F w0 hS hl hm hn4 hmild hq0) fun e w' h => ?_
    obtain ⟨K', ck', he, h2⟩ := h
    unfold toldC nextK
    rw [if_pos hq0, if_pos hq0, decide_eq_true hq0]
    exact ⟨K', _, ck', he, by rw [payP_len, start_len], h2⟩
  · refine Calls.mono (pick_none_c gs n A c l w0 (viewV hS.ok 2 rfl) hl hn4 (by omega)) fun e w' h => ?_
    obtain ⟨he, hk⟩ := h
    unfold toldC nextK
    rw [if_neg hq0, if_neg hq0, decide_eq_false hq0]
    exact ⟨Ka, m, ck, he, hm, hS.kept hk⟩

def Sh.cn (p : Sh) : Cn := ⟨p.slot, p.backend, p.weight, p.load⟩
theorem range_cn {w : World} {b o : Nat} {x : Sh} (h : w.rangeAt b o (shV x)) : w.rangeAt b o (cnV x.cn) := fun i v hv => h i v (by
  match i with
  | 0 => exact hv
  | 1 => exact hv
  | 2 => exact hv
  | 3 => exact hv
  | i + 4 => cases hv)
theorem mkSh_cn (c : Cn) (v : Int) : (mkSh c v).cn = c := rfl

theorem rpick_j (m : Nat) (R : Option Addr) (cr : Nat) (r : List Sh) (n : Nat) (A : Option Addr) (c : Nat) (l : List Cn) (w0 : World) (hr : View w0 w0.heap.size R (flat shV r)) (hv : View w0 w0.heap.size A (flat cnV l))
    (hm : r.length = m) (hl : l.length = n) (hn4 : n ≤ 1000) (hm4 : m ≤ 1000) (hmild : Mild (startP (wfT l n) (r.map Sh.cr))) (hw : ∀ i, i < n → (l.getD i default).weight ≤ 1000 ∧ 0 ≤ (l.getD i default).weight) (hsum : sumW (wfT l n) = sumF (wOf l) n) :
    Calls Try.prog 10 #[.slice R m cr, .slice A n c] w0 fun e w' => ∃ A' q' c' r' z, e = .returned (.tuple #[.slice A' q' c', .int .i64 z]) ∧
      r'.length = q' ∧ r'.map Sh.cr = nextK (wfT l n) (r.map Sh.cr) ∧
      (0 < (wfT l n).length → ∃ b : Nat, z = (b : Int) ∧ b < q' ∧ (r'.getD b default).cn = toldC (wfT l n) (r.map Sh.cr)) ∧ (¬ 0 < (wfT l n).length → z = -1) ∧
      (NewV w0 w' A' (flat shV r') ∨ (A' = R ∧ flat shV r' = flat shV r)) ∧ Kp [] w0 w' := by
  by_cases hq0 : 0 < (wfT l n).length
  · refine Calls.mono (rpick_c m R cr r n A c l w0 hr hv hm hl hn4 hm4 hq0 hmild hw hsum) fun e w' h => ?_
    obtain ⟨A', c', r', he, hr', hn, hk⟩ := h
    have hlr : r'.length = (wfT l n).length := by rw [hr', shF_len]
    have hb := besP_lt (startP (wfT l n) (r.map Sh.cr)) (wfT l n).length hq0
    refine ⟨A', _, c', r', _, he, hlr, ?_, fun _ => ⟨_, rfl, hb, ?_⟩, fun h => absurd hq0 h, .inl hn.view, hk⟩
    · unfold nextK
      rw [if_pos hq0, hr']
      exact shF_cr _ _ hq0 (start_len _ _) (start_both _ _).2
    · rw [hr', shF_getD _ _ _ hb, mkSh_cn]
      unfold toldC
      rw [if_pos hq0]
  · refine Calls.mono (rpick_none_c m R cr r n A c l w0 hr hv hm hl hn4 hm4 (by omega) hw) fun e w' h => ?_
    obtain ⟨he, hk⟩ := h
    refine ⟨R, m, cr, r, -1, he, hm, ?_, fun h => absurd h hq0, fun _ => rfl, .inr ⟨rfl, rfl⟩, hk⟩
    unfold nextK
    rw [if_neg hq0]

/-- What picks keep of the credits. -/
def FairK (ks : List Cr) (b : Int) : Prop := ∀ i, i < ks.length → 0 ≤ (ks.getD i default).weight ∧ (ks.getD i default).weight ≤ 100 ∧ -b ≤ (ks.getD i default).owed ∧ (ks.getD i default).owed ≤ b
def ApartK (ks : List Cr) : Prop := ∀ i j, i < ks.length → j < ks.length → (ks.getD i default).backend = (ks.getD j default).backend → i = j
def ApartW (wt : List Cn) : Prop := ∀ i j, i < wt.length → j < wt.length → (wt.getD i default).backend = (wt.getD j default).backend → i = j
theorem fresh_getD (wt : List Cn) (i : Nat) (hi : i < wt.length) : (wt.map fresh).getD i default = fresh (wt.getD i default) := by
  rw [List.getD_eq_getElem?_getD, List.getD_eq_getElem?_getD, List.getElem?_map, List.getElem?_eq_getElem hi]; rfl
theorem fair_start {wt : List Cn} {ks : List Cr} {b : Int} (hb : 0 ≤ b) (hw : ∀ i, i < wt.length → 0 ≤ (wt.getD i default).weight ∧ (wt.getD i default).weight ≤ 100) (h : FairK ks b) : FairK (startP wt ks) b := by
  unfold startP
  split
  · exact h
  · intro i hi
    rw [List.length_map] at hi
    rw [fresh_getD wt i hi]
    have := hw i hi
    refine ⟨this.1, this.2, ?_, ?_⟩
    · show -b ≤ 0; omega
    · exact hb
theorem apart_start {wt : List Cn} {ks : List Cr} (hw : ApartW wt) : ApartK (startP wt ks) := by
  intro i j hi hj he
  rw [start_len] at hi hj
  have h := (start_both wt ks).2
  rw [← (h i hi).1, ← (h j hj).1] at he
  exact hw i j hi hj he
theorem tot_fair {ks : List Cr} {b : Int} (h : FairK ks b) (k : Nat) (hk : k ≤ ks.length) : 0 ≤ totP ks k ∧ totP ks k ≤ 100 * k := by
  induction k with
  | zero => simp [totP]
  | succ k ih =>
    rw [totP_step ks k (by omega)]
    have := ih (by omega); have := h k (by omega); omega
theorem fair_pay {ks : List Cr} {b : Int} (h : FairK ks b) (h0 : 0 < ks.length) (h30 : ks.length ≤ 30) : FairK (payP ks) (b + 4000) := by
  intro i hi
  rw [payP_len] at hi
  rw [payP_getD ks h0 i hi]
  have h1 := h i hi
  have h2 := tot_fair h ks.length (Nat.le_refl _)
  refine ⟨h1.1, h1.2.1, ?_, ?_⟩
  · show -(b + 4000) ≤ _ + _ - ite _ _ _
    split <;> omega
  · show _ + _ - ite _ _ _ ≤ b + 4000
    split <;> omega
theorem apart_pay {ks : List Cr} (h : ApartK ks) (h0 : 0 < ks.length) : ApartK (payP ks) := by
  intro i j hi hj he
  rw [payP_len] at hi hj
  rw [payP_getD ks h0 i hi, payP_getD ks h0 j hj] at he
  exact h i j hi hj he
theorem fair_next {wt : List Cn} {ks : List Cr} {b : Int} (hb : 0 ≤ b) (hw : ∀ i, i < wt.length → 0 ≤ (wt.getD i default).weight ∧ (wt.getD i default).weight ≤ 100) (h30 : wt.length ≤ 30) (h : FairK ks b) : FairK (nextK wt ks) (b + 4000) := by
  unfold nextK
  split
  · exact fair_pay (fair_start hb hw h) (by rw [start_len]; assumption) (by rw [start_len]; exact h30)
  · intro i hi
    have := h i hi
    exact ⟨this.1, this.2.1, by omega, by omega⟩
theorem apart_next {wt : List Cn} {ks : List Cr} (hw : ApartW wt) (h : ApartK ks) : ApartK (nextK wt ks) := by
  unfold nextK
  split
  · exact apart_pay (apart_start hw) (by rw [start_len]; assumption)
  · exact h
theorem next_len {wt : List Cn} {ks : List Cr} (h1 : wt.length ≤ 30) (h2 : ks.length ≤ 30) : (nextK wt ks).length ≤ 30 := by
  unfold nextK
  split
  · rw [payP_len, start_len]; exact h1
  · exact h2
theorem mild_fair {ks : List Cr} {b : Int} (h : FairK ks b) (hb : b ≤ 1000000000000) : Mild ks := by
  intro i
  by_cases hi : i < ks.length
  · have := h i hi
    refine ⟨this.1, ?_, ?_, ?_⟩ <;> omega
  · rw [List.getD_eq_getElem?_getD, List.getElem?_eq_none (by omega)]
    exact ⟨by decide, by decide, by decide, by decide⟩
theorem wf_apartB {l : List Cn} {n : Nat} (h : RightT l n) (ha : Apart l n) : ApartW (wfT l n) := by
  intro i j hi hj he
  obtain ⟨x, hx, ex, _⟩ := wf_mem l n i hi
  obtain ⟨y, hy, ey, _⟩ := wf_mem l n j hj
  rw [ex, ey] at he
  have hxy : x = y := by
    rcases Nat.lt_trichotomy x y with h1 | h1 | h1
    · exact absurd he (ha x y h1 hy)
    · exact h1
    · exact absurd he.symm (ha y x h1 hx)
  subst hxy
  exact wf_apart h i j hi hj (by rw [ex, ey])
theorem wf_weight {l : List Cn} {n : Nat} (h : RightT l n) : ∀ i, i < (wfT l n).length → 0 ≤ ((wfT l n).getD i default).weight ∧ ((wfT l n).getD i default).weight ≤ 100 := by
  intro i hi
  obtain ⟨x, hx, ex, _⟩ := wf_mem l n i hi
  rw [ex]
  have := right_all h x hx
  exact ⟨this.2.2.1, this.2.2.2.1⟩

/-- What the law wants for a backend, of the first m shares. -/
def wantF (sh : List Sh) (b : Int) : Nat → Int
  | 0 => 0
  | m + 1 => if (sh.getD m default).backend = b then (sh.getD m default).owed else wantF sh b m
theorem want_none (sh : List Sh) (b : Int) (m : Nat) (h : ∀ i, i < m → (sh.getD i default).backend ≠ b) : wantF sh b m = 0 := by
  induction m with
  | zero => rfl
  | succ m ih =>
    simp only [wantF]
    rw [if_neg (h m (by omega))]
    exact ih fun i hi => h i (by omega)
theorem want_at (sh : List Sh) (b : Int) (i : Nat) (hb : (sh.getD i default).backend = b) (m : Nat) (hi : i < m) (h : ∀ j, j < m → (sh.getD j default).backend = b → j = i) : wantF sh b m = (sh.getD i default).owed := by
  induction m with
  | zero => omega
  | succ m ih =>
    simp only [wantF]
    by_cases hm : (sh.getD m default).backend = b
    · rw [if_pos hm, h m (by omega) hm]
    · rw [if_neg hm]
      by_cases him : i = m
      · subst him; exact absurd hb hm
      · exact ih (by omega) fun j hj => h j (by omega)
theorem owed_want {sh : List Sh} {b v : Int} (ha : ApartK (sh.map Sh.cr)) (h : OwedIs (sh.map Sh.cr) b v) : v = wantF sh b sh.length := by
  rcases h with ⟨i, hi, hb, _, rfl⟩ | ⟨hn, rfl⟩
  · rw [List.length_map] at hi
    rw [cr_getD] at hb ⊢
    refine (want_at sh b i hb sh.length hi fun j hj hjb => ?_).symm
    refine ha j i (by rw [List.length_map]; exact hj) (by rw [List.length_map]; exact hi) ?_
    rw [cr_getD, cr_getD]
    exact hjb.trans hb.symm
  · refine (want_none sh b _ fun i hi => ?_).symm
    have := hn i (by rw [List.length_map]; exact hi)
    rw [cr_getD] at this
    exact this
theorem owed_at {sh : List Sh} {m : Nat} {v : Int} (ha : ApartK (sh.map Sh.cr)) (hm : m < sh.length) (h : OwedIs (sh.map Sh.cr) (sh.getD m default).backend v) : v = (sh.getD m default).owed := by
  rw [owed_want ha h]
  refine want_at sh _ m rfl sh.length hm fun j hj hjb => ?_
  refine ha j m (by rw [List.length_map]; exact hj) (by rw [List.length_map]; exact hm) ?_
  rw [cr_getD, cr_getD]
  exact hjb
end Go.Proofs.Yteocdobepgbnkaa
