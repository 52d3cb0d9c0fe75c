
/- The engine's fifth part: calls that write, and stores into the elements of a row. Any program. -/
import Derived.Test.YtocnmcndcdncmaaDoorH
namespace Go.Proofs.YtocnmcndcdncmaaDoor
open Go.RowKit

theorem flat_set {α : Type} [Inhabited α] {enc : α → List Value} {l : List α} {sz j o : Nat} {v : Value} (x : α) (he : ∀ x, (enc x).length = sz) (ho : o < sz) (hj : j < l.length) (hx : (enc (l.getD j default)).set o v = enc x) : (flat enc l).set (j * sz + o) v = flat enc (l.set j x) := by
  unfold flat
  induction l generalizing j with
  | nil => simp at hj
  | cons a l ih =>
    rw [List.map_cons, List.flatten_cons]
    cases j with
    | zero =>
      rw [Nat.zero_mul, Nat.zero_add, List.set_append_left _ _ (by rw [he]; exact ho), List.set_cons_zero, List.map_cons, List.flatten_cons]
      rw [← hx]; rfl
    | succ j =>
      have h1 : (j + 1) * sz + o = sz + (j * sz + o) := by rw [Nat.add_mul, Nat.one_mul]; omega
      rw [List.set_append_right _ _ (by rw [he]; omega), he, h1, Nat.add_sub_cancel_left, List.set_cons_succ, List.map_cons, List.flatten_cons]
      congr 1
      exact ih (by simpa using hj) (by simpa using hx)

def Ent.view : Ent → Ent
  | .blk g _ l => .vw (some ⟨g, 0, none⟩) l
  | .row (.slice A _ _) _ _ _ xs => .vw A xs
  | .vw A xs => .vw A xs
  | _ => .vw none []
theorem Ent.view_ok {w : World} {e : Ent} (h : e.ok w) : e.view.ok w := by
  cases e with
  | blk g t l => exact Arr.view h (Arr.lt h)
  | row v e sz n xs =>
    cases v with
    | slice A m c =>
      have h' : w.ownsRow 0 e sz (.slice A m c) n xs := h
      have hm : m = n ∨ xs = [] := by
        rcases h'.2 with ⟨e0, h0⟩ | ⟨g, cap, cur, e0, _⟩
        · right; have := h'.1; rw [h0, Nat.zero_mul] at this; exact List.eq_nil_of_length_eq_zero this
        · injection e0 with _ e1; exact .inl e1
      rcases hm with rfl | rfl
      · exact rowView h'
      · exact View.nil_
    | _ => exact View.nil_
  | vw A xs => exact h
  | obj g o => exact View.nil_
theorem Ent.view_blk {e : Ent} {g : Nat} (h : e.view.blk? = some g) : e.blk? = some g := by
  cases e with
  | blk b t l =>
    cases l with
    | nil => cases h
    | cons x l => exact h
  | row v e sz n xs =>
    cases v with
    | slice A m c =>
      cases xs with
      | nil => cases h
      | cons x xs =>
        cases A with
        | none => cases h
        | some ad => exact h
    | _ => cases h
  | vw A xs => exact h
  | obj g o => cases h
theorem Ent.view_ro (e : Ent) : e.view.ro = true := by
  cases e with
  | row v _ _ _ _ => cases v <;> rfl
  | _ => rfl
def blks (M : List Ent) : List Nat := M.filterMap (·.blk?)

section
variable {F : List Nat} {w0 w w' : World} {M M' : List Ent}
/-- What a call gets: the entries 'is' to write, the entries 'vs' to read. -/
theorem St.enter (h : St F w0 M w) (is vs : List Nat) (hl : (is ++ vs).all (fun i => Nat.blt i M.length) = true) (hn : nodupB (is ++ vs) = true) :
    St (blks (picks M is)) w (picks M is ++ (picks M vs).map Ent.view) w := by
  have hp := h.pick (is ++ vs) hl hn
  have hpa : ∀ (a b : List Nat), picks M (a ++ b) = picks M a ++ picks M b := by
    intro a b; induction a with
    | nil => rfl
    | cons x a ih => simp [picks, ih]
  rw [hpa] at hp
  have hget : ∀ (i : Nat) (e : Ent), (picks M is ++ (picks M vs).map Ent.view)[i]? = some e → ∃ e', (picks M is ++ picks M vs)[i]? = some e' ∧ (e = e' ∨ e = e'.view) := by
    intro i e hi
    by_cases hlt : i < (picks M is).length
    · rw [List.getElem?_append_left hlt] at hi ⊢
      exact ⟨e, hi, .inl rfl⟩
    · rw [List.getElem?_append_right (by omega)] at hi ⊢
      rw [List.getElem?_map] at hi
      cases hx : (picks M vs)[i - (picks M is).length]? with
      | none => rw [hx] at hi; cases hi
      | some e' => rw [hx] at hi; injection hi with hi; exact ⟨e', rfl, .inr hi.symm⟩
  refine ⟨Kp.refl _ _, fun e he => ?_, fun i j a b hij ha hb => ?_, fun e he hro g hg => ?_⟩
  · rcases List.mem_append.1 he with h1 | h1
    · exact hp.ok e (List.mem_append_left _ h1)
    · obtain ⟨e', he', rfl⟩ := List.mem_map.1 h1
      exact Ent.view_ok (hp.ok e' (List.mem_append_right _ he'))
  · obtain ⟨a', ha', ra⟩ := hget i a ha
    obtain ⟨b', hb', rb⟩ := hget j b hb
    have hap := hp.ap i j a' b' hij ha' hb'
    have hblk : ∀ (x y : Ent), (x = y ∨ x = y.view) → ∀ g, x.blk? = some g → y.blk? = some g := by
      rintro x y (rfl | rfl) g hg
      · exact hg
      · exact Ent.view_blk hg
    have hro : ∀ (x y : Ent), (x = y ∨ x = y.view) → y.ro = true → x.ro = true := by
      rintro x y (rfl | rfl) hg
      · exact hg
      · exact Ent.view_ro y
    rcases hap with h1 | h1 | h1 | h1
    · simp only [Bool.and_eq_true] at h1
      exact .inl (by rw [hro a a' ra h1.1, hro b b' rb h1.2]; rfl)
    · cases hx : a.blk? with
      | none => exact .inr (.inl hx)
      | some g => rw [hblk a a' ra g hx] at h1; cases h1
    · cases hx : b.blk? with
      | none => exact .inr (.inr (.inl hx))
      | some g => rw [hblk b b' rb g hx] at h1; cases h1
    · cases hx : a.blk? with
      | none => exact .inr (.inl hx)
      | some g =>
        cases hy : b.blk? with
        | none => exact .inr (.inr (.inl hy))
        | some g' =>
          rw [hblk a a' ra g hx, hblk b b' rb g' hy] at h1
          exact .inr (.inr (.inr (by rw [hx, hy]; exact h1)))
  · rcases List.mem_append.1 he with h1 | h1
    · exact .inl (List.mem_filterMap.2 ⟨e, h1, hg⟩)
    · obtain ⟨e', _, rfl⟩ := List.mem_map.1 h1
      rw [Ent.view_ro] at hro; cases hro
/-- What it leaves: its own entries M', and those that it did not get to write. -/
theorem St.leave (h : St F w0 M w) (is js : List Nat) (hl : (is ++ js).all (fun i => Nat.blt i M.length) = true) (hn : nodupB (is ++ js) = true) (hw : (picks M is).all (fun e => !e.ro) = true)
    (hpost : St (blks (picks M is)) w M' w') (hro : M'.all (fun e => !e.ro) = true) : St F w0 (M' ++ picks M js) w' := by
  have hp := h.pick (is ++ js) hl hn
  have hpa : ∀ (a b : List Nat), picks M (a ++ b) = picks M a ++ picks M b := by
    intro a b; induction a with
    | nil => rfl
    | cons x a ih => simp [picks, ih]
  rw [hpa] at hp
  have hG : ∀ g ∈ blks (picks M is), g ∈ F ∨ w0.heap.size ≤ g := by
    intro g hg
    obtain ⟨e, he, hb⟩ := List.mem_filterMap.1 hg
    have := List.all_eq_true.1 hw e he
    exact hp.own e (List.mem_append_left _ he) (by simpa using this) g hb
  have hfar : ∀ e ∈ picks M js, ∀ g, e.blk? = some g → g ∉ blks (picks M is) := by
    intro e he g hg hin
    obtain ⟨x, hx, hb⟩ := List.mem_filterMap.1 hin
    obtain ⟨i, hi⟩ := List.getElem?_of_mem hx
    obtain ⟨j, hj⟩ := List.getElem?_of_mem he
    have hilt : i < (picks M is).length := by
      rcases Nat.lt_or_ge i (picks M is).length with h1 | h1
      · exact h1
      · rw [List.getElem?_eq_none h1] at hi; cases hi
    have hap := hp.ap i ((picks M is).length + j) x e (by omega) (by rw [List.getElem?_append_left hilt]; exact hi) (by rw [List.getElem?_append_right (by omega), Nat.add_sub_cancel_left]; exact hj)
    have hxw := List.all_eq_true.1 hw x hx
    rcases hap with h1 | h1 | h1 | h1
    · simp only [Bool.and_eq_true] at h1
      rw [h1.1] at hxw; cases hxw
    · rw [h1] at hb; cases hb
    · rw [h1] at hg; cases hg
    · exact h1 (by rw [hb, hg])
  have hold : ∀ e ∈ picks M js, ∀ g, e.blk? = some g → g < w.heap.size := fun e he g hg => Ent.ok_lt (hp.ok e (List.mem_append_right _ he)) hg
  have hokj : ∀ e ∈ picks M js, e.ok w' := fun e he =>
    Ent.ok_keep (hp.ok e (List.mem_append_right _ he)) hpost.kp.size fun g hg => hpost.kp.block g (hold e he g hg) (hfar e he g hg)
  have hmix : ∀ a ∈ M', ∀ b ∈ picks M js, a.apart b := by
    intro a ha b hb
    have har := List.all_eq_true.1 hro a ha
    cases hx : a.blk? with
    | none => exact .inr (.inl hx)
    | some g =>
      cases hy : b.blk? with
      | none => exact .inr (.inr (.inl hy))
      | some g' =>
        refine .inr (.inr (.inr ?_))
        rw [hx, hy]
        intro he; injection he with he; subst he
        rcases hpost.own a ha (by simpa using har) g hx with h1 | h1
        · exact hfar b hb g hy h1
        · have := hold b hb g hy; omega
  refine ⟨h.kp.step hpost.kp hG, fun e he => ?_, fun i j a b hij ha hb => ?_, fun e he hro' g hg => ?_⟩
  · rcases List.mem_append.1 he with h1 | h1
    · exact hpost.ok e h1
    · exact hokj e h1
  · by_cases hi : i < M'.length
    · rw [List.getElem?_append_left hi] at ha
      by_cases hj : j < M'.length
      · rw [List.getElem?_append_left hj] at hb
        exact hpost.ap i j a b hij ha hb
      · rw [List.getElem?_append_right (by omega)] at hb
        exact hmix a (mem_of_get ha) b (mem_of_get hb)
    · rw [List.getElem?_append_right (by omega)] at ha
      by_cases hj : j < M'.length
      · rw [List.getElem?_append_left hj] at hb
        exact Ent.apart_symm (hmix b (mem_of_get hb) a (mem_of_get ha))
      · rw [List.getElem?_append_right (by omega)] at hb
        exact hp.ap ((picks M is).length + (i - M'.length)) ((picks M is).length + (j - M'.length)) a b (by omega) (by rw [List.getElem?_append_right (by omega), Nat.add_sub_cancel_left]; exact ha) (by rw [List.getElem?_append_right (by omega), Nat.add_sub_cancel_left]; exact hb)
  · rcases List.mem_append.1 he with h1 | h1
    · rcases hpost.own e h1 hro' g hg with h2 | h2
      · exact hG g h2
      · exact .inr (Nat.le_trans h.kp.size h2)
    · exact hp.own e (List.mem_append_right _ h1) hro' g hg
variable {P : Program} {x y : Operand} {t t' ty : TypeId} {pos : String} {aft : Array Edge} {gd : Option (Nat × Bool)} {v : Value} {n : Nat} {f : Nat → Value} {K : Act → World → Prop} {Q : Exit → Act → World → Prop}
theorem ow_storeRs (h : St F w0 M w) (i : Nat) {g j s o m c sz : Nat} {t : TypeId} {xs : List Value} {ty' : TypeId} (hM : M[i]? = some (.row (.slice (some ⟨g, 0, none⟩) m c) t sz m xs)) (hz : (P.info? ty').map (·.size) = some 1) (hx : (act n f).eval x = .pointer (some ⟨g, 0 + j * s + o, none⟩)) (hy : (act n f).eval y = v) (h1 : v.oneCell' = true) (ho : j * s + o < xs.length)
    (hK : ∀ w', St F w0 (M.set i (.row (.slice (some ⟨g, 0, none⟩) m c) t sz m (xs.set (j * s + o) v))) w' → K (act n f) w') : OW P ⟨none, .store ty' x y, ty, pos, aft, gd⟩ (act n f) w K Q := by
  rw [Nat.add_assoc] at hx
  exact ow_storeR h i hM hz hx hy h1 ho hK
end
end Go.Proofs.YtocnmcndcdncmaaDoor
