
/- Rows of slices whose views lie apart from what is written. Conditions: none. -/
import Derived.Test.YtoaodcbfehfdoaaJoin
namespace Go.Proofs.Ytoaodcbfehfdoaa
open Go.ChangeShapes Go.WideShapes Go.ChangeAt Go.RowKit
theorem upd_ne {f : Nat → Value} {a b : Nat} {v x : Value} (e : Nat.beq b a = false) (h : f b = x) : upd f a v b = x := by
  unfold upd; rw [e]; exact h
abbrev Row3 := Option Addr × List Nat × Nat
section
variable {F : List Nat} {w0 w w' : World} {M M' : List Ent}
theorem mem_blks {M : List Ent} {b : Nat} (h : b ∈ blks M) : ∃ e ∈ M, e.blk? = some b := by
  unfold blks at h
  obtain ⟨e, he, hb⟩ := List.mem_filterMap.1 h
  exact ⟨e, he, hb⟩
def Rws (w : World) (lo : Nat) (gs : List Nat) (rows : List Row3) : Prop := ∀ r ∈ rows, View w w.heap.size r.1 (r.2.1.map u8v) ∧ ∀ b, (Ent.vw r.1 (r.2.1.map u8v)).blk? = some b → b ∉ gs ∧ lo ≤ b
theorem Rws.nil {lo : Nat} {gs : List Nat} : Rws w lo gs [] := fun r hr => by cases hr
theorem Rws.step {lo : Nat} {gs : List Nat} {rows : List Row3} (h : Rws w lo gs rows) (hS : St gs w M' w') (hro : M'.all (fun e => !e.ro) = true) : Rws w' lo (blks M') rows := fun r hr => by
  obtain ⟨hv, hb⟩ := h r hr
  have hok : (Ent.vw r.1 (r.2.1.map u8v)).ok w := hv
  refine ⟨Ent.ok_keep hok hS.kp.size fun g hg => hS.kp.block g (Ent.ok_lt hok hg) (hb g hg).1, fun b hbb => ⟨fun hm => ?_, (hb b hbb).2⟩⟩
  obtain ⟨e, he, heb⟩ := mem_blks hm
  have hre : e.ro = false := by simpa using List.all_eq_true.1 hro e he
  rcases hS.own e he hre b heb with h1 | h1
  · exact (hb b hbb).1 h1
  · have := Ent.ok_lt hok hbb
    omega
theorem Rws.kept {lo : Nat} {gs : List Nat} {rows : List Row3} (h : Rws w lo gs rows) (hk : Kp [] w w') : Rws w' lo gs rows := fun r hr => by
  obtain ⟨hv, hb⟩ := h r hr
  have hok : (Ent.vw r.1 (r.2.1.map u8v)).ok w := hv
  exact ⟨Ent.ok_keep hok hk.size fun g hg => hk.block g (Ent.ok_lt hok hg) (by simp), hb⟩
theorem Rws.snoc {lo : Nat} {rows : List Row3} {A : Option Addr} {l : List Nat} (c : Nat) (h : Rws w lo (blks M') rows) (hS : St F w0 (.vw A (l.map u8v) :: M') w) (hro : M'.all (fun e => !e.ro) = true) (hlo : ∀ b, (Ent.vw A (l.map u8v)).blk? = some b → lo ≤ b) : Rws w lo (blks M') (rows ++ [(A, l, c)]) := fun r hr => by
  rcases List.mem_append.1 hr with hr | hr
  · exact h r hr
  · obtain rfl := List.mem_singleton.1 hr
    refine ⟨hS.ok _ (List.mem_cons_self ..), fun b hb => ⟨fun hm => ?_, hlo b hb⟩⟩
    obtain ⟨e, he, heb⟩ := mem_blks hm
    have hre : e.ro = false := by simpa using List.all_eq_true.1 hro e he
    obtain ⟨i, hi⟩ := List.getElem?_of_mem he
    rcases hS.ap 0 (i + 1) _ _ (by omega) rfl (by rw [List.getElem?_cons_succ]; exact hi) with h1 | h1 | h1 | h1
    · rw [hre] at h1; simp at h1
    · rw [show (Ent.vw A (l.map u8v)).blk? = some b from hb] at h1; cases h1
    · rw [heb] at h1; cases h1
    · rw [heb, show (Ent.vw A (l.map u8v)).blk? = some b from hb] at h1; exact h1 rfl
theorem Rws.newv {gs : List Nat} {rows : List Row3} (h : Rws w w0.heap.size gs rows) : ∀ r ∈ rows, NewV w0 w r.1 (r.2.1.map u8v) := fun r hr => ⟨(h r hr).1, fun b hb => ((h r hr).2 b hb).2⟩
end
def Vws (w : World) (rows : List Row3) : Prop := ∀ r ∈ rows, View w w.heap.size r.1 (r.2.1.map u8v)
theorem Vws.kept {w w' : World} {rows : List Row3} (h : Vws w rows) (hk : Kp [] w w') : Vws w' rows := fun r hr => by
  have hok : (Ent.vw r.1 (r.2.1.map u8v)).ok w := h r hr
  exact Ent.ok_keep hok hk.size fun g hg => hk.block g (Ent.ok_lt hok hg) (by simp)
theorem rows_get {r1 r2 : List Row3} (h : r1.map (·.2.1) = r2.map (·.2.1)) {k : Nat} (hk : k < r1.length) : (r1.getD k default).2.1 = (r2.getD k default).2.1 := by
  have hl : r1.length = r2.length := by simpa using congrArg List.length h
  have := congrArg (fun l => l[k]?) h
  simp only [List.getElem?_map] at this
  rw [List.getElem?_eq_getElem hk, List.getElem?_eq_getElem (by omega)] at this
  rw [List.getD_eq_getElem?_getD, List.getD_eq_getElem?_getD, List.getElem?_eq_getElem hk, List.getElem?_eq_getElem (by omega)]
  simpa using this
/-- An entry of one's own becomes a view. -/
theorem St.asv {F : List Nat} {w0 w : World} {M : List Ent} {e : Ent} (h : St F w0 M w) (i : Nat) {A : Option Addr} {xs : List Value} (hM : M[i]? = some e) (hok : View w w.heap.size A xs) (hb : ∀ g, (Ent.vw A xs).blk? = some g → e.blk? = some g) (hro : e.ro = false) : St F w0 (M.set i (.vw A xs)) w := by
  have hget : ∀ (j : Nat) (b : Ent), (M.set i (.vw A xs))[j]? = some b → (j = i ∧ b = .vw A xs) ∨ (j ≠ i ∧ M[j]? = some b) := by
    intro j b hj
    rw [List.getElem?_set] at hj
    split at hj
    · next hij => split at hj
                  · injection hj with hj; exact .inl ⟨hij.symm, hj.symm⟩
                  · cases hj
    · next hij => exact .inr ⟨fun e => hij e.symm, hj⟩
  have hap : ∀ (j : Nat) (b : Ent), j ≠ i → M[j]? = some b → (Ent.vw A xs).apart b := by
    intro j b hj hbj
    cases hx : (Ent.vw A xs).blk? with
    | none => exact .inr (.inl hx)
    | some g =>
      cases hy : b.blk? with
      | none => exact .inr (.inr (.inl hy))
      | some g' =>
        refine .inr (.inr (.inr ?_))
        rw [hx, hy]
        intro he; injection he with he; subst he
        have h0 := hb g hx
        rcases h.ap i j e b (fun x => hj x.symm) hM hbj with h1 | h1 | h1 | h1
        · rw [hro] at h1; simp at h1
        · rw [h1] at h0; cases h0
        · rw [h1] at hy; cases hy
        · rw [h0, hy] at h1; exact h1 rfl
  refine ⟨h.kp, fun x hx => ?_, fun p q a b hpq ha hb' => ?_, fun x hx => ?_⟩
  · obtain ⟨j, hj⟩ := List.getElem?_of_mem hx
    rcases hget j x hj with ⟨_, rfl⟩ | ⟨_, h2⟩
    · exact hok
    · exact h.ok _ (mem_of_get h2)
  · rcases hget p a ha with ⟨hp, rfl⟩ | ⟨hp, hp'⟩
    · rcases hget q b hb' with ⟨hq, rfl⟩ | ⟨hq, hq'⟩
      · omega
      · exact hap q b hq hq'
    · rcases hget q b hb' with ⟨hq, rfl⟩ | ⟨hq, hq'⟩
      · exact Ent.apart_symm (hap p a hp hp')
      · exact h.ap p q a b hpq hp' hq'
  · obtain ⟨j, hj⟩ := List.getElem?_of_mem hx
    rcases hget j x hj with ⟨_, rfl⟩ | ⟨_, h2⟩
    · intro h0; cases h0
    · exact h.own x (mem_of_get h2)
end Go.Proofs.Ytoaodcbfehfdoaa
