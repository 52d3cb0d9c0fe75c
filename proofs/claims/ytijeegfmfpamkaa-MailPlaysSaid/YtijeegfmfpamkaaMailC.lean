
/- Letters that lie in memory apart from what is written. Conditions: none. -/
import Derived.Test.YtijeegfmfpamkaaMailB
namespace Go.Proofs.Ytijeegfmfpamkaa
open Go.ChangeShapes Go.WideShapes Go.ChangeAt Go.RowKit
section
variable {F : List Nat} {w0 w w' : World} {M M' : List Ent}
theorem St.pre {N : List Ent} (h : St F w0 (M' ++ N) w) : St F w0 M' w := by
  have hg : ∀ (i : Nat) (a : Ent), M'[i]? = some a → (M' ++ N)[i]? = some a := fun i a ha => by
    rw [List.getElem?_append_left (List.getElem?_eq_some_iff.1 ha).1]; exact ha
  exact ⟨h.kp, fun e he => h.ok e (List.mem_append_left _ he), fun i j a b hij ha hb => h.ap i j a b hij (hg i a ha) (hg j b hb), fun e he => h.own e (List.mem_append_left _ he)⟩
theorem St.leavev (h : St F w0 M w) (is js : List Nat) (hl : (is ++ js).all (fun i => Nat.blt i M.length) = true) (hn : nodupB (is ++ js) = true) (hw : (picks M is).all (fun e => !e.ro) = true) {A : Option Addr} {xs : List Value}
    (hpost : St (blks (picks M is)) w (M' ++ [.vw A xs]) w') (hro : M'.all (fun e => !e.ro) = true) (hnv : NewV w w' A xs) : St F w0 (.vw A xs :: (M' ++ picks M js)) w' := by
  have h1 := h.leave is js hl hn hw hpost.pre hro
  refine h1.addv hnv.1 fun e he => ?_
  rcases List.mem_append.1 he with he | he
  · obtain ⟨i, hi⟩ := List.getElem?_of_mem he
    have hlt := (List.getElem?_eq_some_iff.1 hi).1
    exact hpost.ap M'.length i _ _ (by omega) (by simp) (by rw [List.getElem?_append_left hlt]; exact hi)
  · have hp := h.pick (is ++ js) hl hn
    have hm : e ∈ picks M (is ++ js) := by
      rw [picks_map] at he ⊢
      rw [List.map_append]
      exact List.mem_append_right _ he
    cases hb : (Ent.vw A xs).blk? with
    | none => exact .inr (.inl hb)
    | some b =>
      refine .inr (.inr (.inr ?_))
      rw [hb]
      intro he2
      have h3 := hnv.2 b hb
      have h4 := Ent.ok_lt (hp.ok e hm) he2.symm
      omega
def Aws (w : World) (gs : List Nat) (ls : List GLt) : Prop := ∀ r ∈ ls, View w w.heap.size r.b.a (r.b.l.map u8v) ∧ ∀ b, (Ent.vw r.b.a (r.b.l.map u8v)).blk? = some b → b ∉ gs
theorem Aws.nil {gs : List Nat} : Aws w gs [] := fun r hr => by cases hr
theorem Aws.sub {gs : List Nat} {ls ks : List GLt} (h : Aws w gs ls) (hs : ∀ r ∈ ks, r ∈ ls) : Aws w gs ks := fun r hr => h r (hs r hr)
theorem Aws.few {gs hs : List Nat} {ls : List GLt} (h : Aws w gs ls) (hsub : ∀ b ∈ hs, b ∈ gs) : Aws w hs ls := fun r hr => ⟨(h r hr).1, fun b hb hm => (h r hr).2 b hb (hsub b hm)⟩
theorem mem_blks {M : List Ent} {b : Nat} (h : b ∈ blks M) : ∃ e ∈ M, e.blk? = some b := by
  unfold blks at h
  obtain ⟨e, he, hb⟩ := List.mem_filterMap.1 h
  exact ⟨e, he, hb⟩
theorem Aws.step {gs : List Nat} {ls : List GLt} (h : Aws w gs ls) (hS : St gs w M' w') (hro : M'.all (fun e => !e.ro) = true) : Aws w' (blks M') ls := fun r hr => by
  obtain ⟨hv, hb⟩ := h r hr
  have hok : (Ent.vw r.b.a (r.b.l.map u8v)).ok w := hv
  refine ⟨Ent.ok_keep hok hS.kp.size fun g hg => hS.kp.block g (Ent.ok_lt hok hg) (hb g hg), fun b hbb hm => ?_⟩
  obtain ⟨e, he, heb⟩ := mem_blks hm
  have hre : e.ro = false := by simpa using List.all_eq_true.1 hro e he
  rcases hS.own e he hre b heb with h1 | h1
  · exact hb b hbb h1
  · have := Ent.ok_lt hok hbb
    omega
theorem Aws.kept {gs : List Nat} {ls : List GLt} (h : Aws w gs ls) (hk : Kp [] w w') : Aws w' gs ls := fun r hr => by
  obtain ⟨hv, hb⟩ := h r hr
  have hok : (Ent.vw r.b.a (r.b.l.map u8v)).ok w := hv
  exact ⟨Ent.ok_keep hok hk.size fun g hg => hk.block g (Ent.ok_lt hok hg) (by simp), hb⟩
theorem Aws.snoc {ls : List GLt} {A : Option Addr} {l : List Nat} (node : Int) (back : Bool) (c : Nat) (h : Aws w (blks M') ls) (hS : St F w0 (.vw A (l.map u8v) :: M') w) (hro : M'.all (fun e => !e.ro) = true) : Aws w (blks M') (ls ++ [lt node back A l c]) := fun r hr => by
  rcases List.mem_append.1 hr with hr | hr
  · exact h r hr
  · obtain rfl := List.mem_singleton.1 hr
    refine ⟨hS.ok _ (List.mem_cons_self ..), fun b hb hm => ?_⟩
    obtain ⟨e, he, heb⟩ := mem_blks hm
    have hre : e.ro = false := by simpa using List.all_eq_true.1 hro e he
    obtain ⟨i, hi⟩ := List.getElem?_of_mem he
    rcases hS.ap 0 (i + 1) _ _ (by omega) rfl (by rw [List.getElem?_cons_succ]; exact hi) with h1 | h1 | h1 | h1
    · rw [hre] at h1; simp at h1
    · rw [show (Ent.vw A (l.map u8v)).blk? = some b from hb] at h1; cases h1
    · rw [heb] at h1; cases h1
    · rw [heb, show (Ent.vw A (l.map u8v)).blk? = some b from hb] at h1; exact h1 rfl
/-- A view that the argument holds lies in nothing of one's own. -/
theorem St.argv (h : St [] w0 M w) {A : Option Addr} {xs : List Value} (hv : View w0 w0.heap.size A xs) : St [] w0 (.vw A xs :: M) w := by
  have hok : (Ent.vw A xs).ok w0 := hv
  refine h.addv (Ent.ok_keep hok h.kp.size fun g hg => h.kp.block g (Ent.ok_lt hok hg) (by simp)) fun e he => ?_
  cases hr : e.ro with
  | true => exact .inl (by rw [hr]; rfl)
  | false =>
    cases hb : e.blk? with
    | none => exact .inr (.inr (.inl hb))
    | some b =>
      cases hb2 : (Ent.vw A xs).blk? with
      | none => exact .inr (.inl hb2)
      | some b2 =>
        refine .inr (.inr (.inr ?_))
        rw [hb, hb2]
        intro he2
        injection he2 with he2
        subst he2
        rcases h.own e he hr b2 hb with h1 | h1
        · cases h1
        · have := Ent.ok_lt hok hb2
          omega
/-- What a part of the entries makes of the old world. -/
theorem St.kpc {is : List Nat} {w1 : World} (h : St F w0 M w1) (hl : is.all (fun i => Nat.blt i M.length) = true) (hw : (picks M is).all (fun e => !e.ro) = true) (hS : St (blks (picks M is)) w1 M' w') : Kp F w0 w' := by
  refine h.kp.step hS.kp fun b hb => ?_
  obtain ⟨e, he, heb⟩ := mem_blks hb
  have hre : e.ro = false := by simpa using List.all_eq_true.1 hw e he
  obtain ⟨p, hp⟩ := List.getElem?_of_mem he
  obtain ⟨i, _, hi⟩ := picks_get M is hl p e hp
  exact h.own e (mem_of_get hi) hre b heb
end
def strip (r : GLt) : Int × Bool × List Nat := (r.node, r.back, r.b.l)
theorem keepL_strip (node : Int) {ls rs : List GLt} (h : ls.map strip = rs.map strip) : (keepL node ls).map strip = (keepL node rs).map strip := by
  have key : ∀ l : List GLt, (keepL node l).map strip = (l.map strip).filter fun r => decide (r.1 ≠ node) := fun l => by
    unfold keepL
    rw [List.filter_map]
    rfl
  rw [key, key, h]
theorem strip_get {ls rs : List GLt} (h : ls.map strip = rs.map strip) {k : Nat} (hk : k < ls.length) : strip (ls.getD k default) = strip (rs.getD k default) := by
  have hl : ls.length = rs.length := by simpa using congrArg List.length h
  have := congrArg (fun l => l[k]?) h
  simp only [List.getElem?_map] at this
  rw [List.getElem?_eq_getElem hk, List.getElem?_eq_getElem (by omega)] at this
  rw [List.getD_eq_getElem?_getD, List.getD_eq_getElem?_getD, List.getElem?_eq_getElem hk, List.getElem?_eq_getElem (by omega)]
  simpa using this
end Go.Proofs.Ytijeegfmfpamkaa
