
/- lpm: the list of entries and the two shapes are the same map. Any program. -/
import Derived.Test.YtlpgedncnefaoaaLpQ
namespace Go.Proofs.Ytlpgedncnefaoaa
open Go.RowKit
def En.key (e : En) : Ad × Int := (e.a, e.len)
theorem key_iff {e : En} {a : Ad} {z : Int} : keyP e a z ↔ e.key = (a, z) := by
  unfold keyP En.key
  rw [Prod.mk.injEq]
structure LT (l : List En) (s : Bool → Sh) : Prop where
  rt : ∀ e ∈ l, ∃ n : Nat, e.len = (n : Int) ∧ pfR e.a n
  nd : (l.map En.key).Nodup
  mp : ∀ a n, pfR a n → ∀ v, getS (pbit a) n 0 (s a.six) = some v ↔ (⟨a, (n : Int), v⟩ : En) ∈ l
theorem LT.nil_ : LT [] fun _ => .nil := ⟨by simp, by simp, fun a n _ v => by rw [getS_nil]; simp⟩
theorem getD_get {l : List En} {k : Nat} (h : k < l.length) : l[k]? = some (l.getD k default) := by
  rw [List.getD_eq_getElem?_getD, List.getElem?_eq_getElem h]; rfl
/-- Two entries of one key are one. -/
theorem nd_inj {l : List En} (h : (l.map En.key).Nodup) {i j : Nat} {x y : En} (hi : l[i]? = some x) (hj : l[j]? = some y) (hk : x.key = y.key) : i = j := by
  obtain ⟨h1, rfl⟩ := List.getElem?_eq_some_iff.1 hi
  obtain ⟨h2, rfl⟩ := List.getElem?_eq_some_iff.1 hj
  have hp := List.pairwise_iff_getElem.1 h
  rcases Nat.lt_trichotomy i j with hlt | heq | hgt
  · exact absurd (by rw [List.getElem_map, List.getElem_map]; exact hk) (hp i j (by simpa using h1) (by simpa using h2) hlt)
  · exact heq
  · exact absurd (by rw [List.getElem_map, List.getElem_map]; exact hk.symm) (hp j i (by simpa using h2) (by simpa using h1) hgt)
theorem nd_key {l : List En} (h : (l.map En.key).Nodup) {x y : En} (hx : x ∈ l) (hy : y ∈ l) (hk : x.key = y.key) : x = y := by
  obtain ⟨i, hi⟩ := List.mem_iff_getElem?.1 hx
  obtain ⟨j, hj⟩ := List.mem_iff_getElem?.1 hy
  obtain rfl := nd_inj h hi hj hk
  rw [hi] at hj
  injection hj
def upS (s : Bool → Sh) (b : Bool) (t : Sh) : Bool → Sh := fun c => if c = b then t else s c
/-- Another prefix differs in its length or a bit. -/
theorem pf_ne {a b : Ad} {n m : Nat} (ha : pfR a n) (hb : pfR b m) (hs : a.six = b.six) (hne : ¬ (a = b ∧ n = m)) : n = m → ∃ i, i < m ∧ pbit a (0 + i) ≠ pbit b (0 + i) := by
  rintro rfl
  refine Classical.byContradiction fun hno => hne ⟨pf_ext ha hb hs fun i hi => ?_, rfl⟩
  refine Classical.byContradiction fun h => hno ⟨i, hi, ?_⟩
  rwa [Nat.zero_add]
theorem LT.set_ {l l' : List En} {s : Bool → Sh} (h : LT l s) (a : Ad) (n : Nat) (v : Int) (ha : pfR a n) (hm : ∀ e, e ∈ l' ↔ e = ⟨a, (n : Int), v⟩ ∨ (e ∈ l ∧ ¬ keyP e a (n : Int))) (hnd : (l'.map En.key).Nodup) :
    LT l' (upS s a.six (setS (pbit a) v n 0 (s a.six))) := by
  refine ⟨fun e he => ?_, hnd, fun b m hb u => ?_⟩
  · rcases (hm e).1 he with rfl | ⟨he', _⟩
    · exact ⟨n, rfl, ha⟩
    · exact h.rt e he'
  · rw [hm]
    unfold upS
    by_cases hs : b.six = a.six
    · rw [if_pos hs]
      by_cases hk : b = a ∧ m = n
      · obtain ⟨rfl, rfl⟩ := hk
        rw [get_set_same _ _ _ _ _ _ fun i _ => rfl]
        constructor
        · intro e; injection e with e; subst e; exact .inl rfl
        · rintro (e | ⟨_, e⟩)
          · injection e with _ _ e; rw [e]
          · exact absurd ⟨rfl, rfl⟩ e
      · rw [get_set_other _ _ _ (pbit_lt a) (pbit_lt b) _ _ _ _ (pf_ne hb ha hs hk), ← hs, h.mp b m hb u]
        constructor
        · intro e
          exact .inr ⟨e, fun hh => hk ⟨hh.1, by have : (m : Int) = (n : Int) := hh.2; omega⟩⟩
        · rintro (e | ⟨e, _⟩)
          · injection e with e1 e2 _
            exact absurd ⟨e1, by omega⟩ hk
          · exact e
    · rw [if_neg hs, h.mp b m hb u]
      constructor
      · intro e
        exact .inr ⟨e, fun hh => hs (by rw [show b = a from hh.1])⟩
      · rintro (e | ⟨e, _⟩)
        · injection e with e1 _ _
          exact absurd (by rw [e1]) hs
        · exact e
theorem LT.drop_ {l l' : List En} {s : Bool → Sh} (h : LT l s) (a : Ad) (n : Nat) (ha : pfR a n) (hm : ∀ e, e ∈ l' ↔ e ∈ l ∧ ¬ keyP e a (n : Int)) (hnd : (l'.map En.key).Nodup) :
    LT l' (upS s a.six (dropS (pbit a) n 0 (s a.six))) := by
  refine ⟨fun e he => h.rt e ((hm e).1 he).1, hnd, fun b m hb u => ?_⟩
  rw [hm]
  unfold upS
  by_cases hs : b.six = a.six
  · rw [if_pos hs]
    by_cases hk : b = a ∧ m = n
    · obtain ⟨rfl, rfl⟩ := hk
      rw [get_drop_same _ _ _ _ _ fun i _ => rfl]
      constructor
      · intro e; cases e
      · rintro ⟨_, e⟩; exact absurd ⟨rfl, rfl⟩ e
    · rw [get_drop_other _ _ (pbit_lt a) (pbit_lt b) _ _ _ _ (pf_ne hb ha hs hk), ← hs, h.mp b m hb u]
      constructor
      · intro e
        exact ⟨e, fun hh => hk ⟨hh.1, by have : (m : Int) = (n : Int) := hh.2; omega⟩⟩
      · exact fun e => e.1
  · rw [if_neg hs, h.mp b m hb u]
    constructor
    · intro e
      exact ⟨e, fun hh => hs (by rw [show b = a from hh.1])⟩
    · exact fun e => e.1
theorem mem_get {l : List En} {k : Nat} (h : k < l.length) : l.getD k default ∈ l := List.mem_iff_getElem?.2 ⟨k, getD_get h⟩
theorem key_map_set {l : List En} {k : Nat} {x : En} (hk : k < l.length) (h : (l.getD k default).key = x.key) : (l.set k x).map En.key = l.map En.key := by
  apply List.ext_getElem?
  intro i
  rw [List.getElem?_map, List.getElem?_map, List.getElem?_set]
  split
  · subst i
    rw [getD_get hk]
    exact congrArg some h.symm
  · rfl
theorem mem_set' {l : List En} {k : Nat} {x : En} (hnd : (l.map En.key).Nodup) (hk : k < l.length) (h : (l.getD k default).key = x.key) (e : En) : e ∈ l.set k x ↔ e = x ∨ (e ∈ l ∧ ¬ e.key = x.key) := by
  constructor
  · intro he
    obtain ⟨i, hi⟩ := List.mem_iff_getElem?.1 he
    rw [List.getElem?_set] at hi
    split at hi
    · injection hi with hi
      exact .inl hi.symm
    · rename_i hne
      exact .inr ⟨List.mem_iff_getElem?.2 ⟨i, hi⟩, fun hh => hne (nd_inj hnd (getD_get hk) hi (h.trans hh.symm))⟩
  · rintro (rfl | ⟨he, hne⟩)
    · exact List.mem_iff_getElem?.2 ⟨k, by rw [List.getElem?_set, if_pos rfl, if_pos hk]⟩
    · obtain ⟨i, hi⟩ := List.mem_iff_getElem?.1 he
      refine List.mem_iff_getElem?.2 ⟨i, ?_⟩
      rw [List.getElem?_set, if_neg]
      · exact hi
      · rintro rfl
        rw [getD_get hk] at hi
        injection hi with hi
        exact hne (by rw [← hi]; exact h)
theorem erase_sub (l : List En) (k : Nat) : (l.take k ++ l.drop (k + 1)).Sublist l := by
  have : l.take k ++ l.drop (k + 1) = l.eraseIdx k := by rw [List.eraseIdx_eq_take_drop_succ]
  rw [this]
  exact List.eraseIdx_sublist _ _
theorem mem_erase' {l : List En} {k : Nat} (hnd : (l.map En.key).Nodup) (hk : k < l.length) (e : En) : e ∈ l.take k ++ l.drop (k + 1) ↔ e ∈ l ∧ ¬ e.key = (l.getD k default).key := by
  have hsp : l = l.take k ++ l.getD k default :: l.drop (k + 1) := by
    have : l.drop k = l.getD k default :: l.drop (k + 1) := by
      rw [List.drop_eq_getElem_cons hk]
      congr 1
      have := getD_get hk
      rw [List.getElem?_eq_getElem hk] at this
      injection this
    rw [← this, List.take_append_drop]
  have hn : ((l.take k ++ l.getD k default :: l.drop (k + 1)).map En.key).Nodup := by rw [← hsp]; exact hnd
  rw [List.map_append, List.map_cons, List.nodup_append, List.nodup_cons] at hn
  obtain ⟨_, ⟨h1, _⟩, h3⟩ := hn
  have hmem : e ∈ l ↔ e ∈ l.take k ∨ e = l.getD k default ∨ e ∈ l.drop (k + 1) := by
    conv => lhs; rw [hsp]
    rw [List.mem_append, List.mem_cons]
  rw [hmem, List.mem_append]
  constructor
  · rintro (h | h)
    · exact ⟨.inl h, h3 _ (List.mem_map_of_mem h) _ (List.mem_cons_self ..)⟩
    · exact ⟨.inr (.inr h), fun hh => h1 (by rw [← hh]; exact List.mem_map_of_mem h)⟩
  · rintro ⟨h | rfl | h, hne⟩
    · exact .inl h
    · exact absurd rfl hne
    · exact .inr h
/-- What a table says of a key is what the list says. -/
theorem LT.look {l : List En} {s : Bool → Sh} (h : LT l s) (a : Ad) (z : Int) (m : Nat) (hl : adLim a) (hz : min (max z 0) (adBits a : Int) = (m : Int)) (v : Int) : lookS a z m (s a.six) = some v ↔ (⟨a, z, v⟩ : En) ∈ l := by
  unfold lookS
  by_cases hr : rgtB a z m = true
  · rw [if_pos hr]
    obtain ⟨hp, rfl⟩ := (rgtB_iff a z m hl hz).1 hr
    exact h.mp a m hp v
  · rw [if_neg hr]
    constructor
    · intro e; cases e
    · intro e
      obtain ⟨n, h1, h2⟩ := h.rt _ e
      have h1' : z = (n : Int) := h1
      have h2' : pfR a n := h2
      subst h1'
      obtain rfl : n = m := by have := h2'.2.2.1; omega
      exact absurd ((rgtB_iff a _ n hl hz).2 ⟨h2', rfl⟩) hr
/-- Set, on both sides. -/
theorem LT.setR {l l' : List En} {s : Bool → Sh} {x : En} {m : Nat} {f : Int} (h : LT l s) (hs : SetR l x m l' f) (hl : adLim x.a) (hz : min (max x.len 0) (adBits x.a : Int) = (m : Int)) :
    (rgtB x.a x.len m = false ∧ l' = l ∧ f = 1) ∨ (rgtB x.a x.len m = true ∧ x.len = (m : Int) ∧ m ≤ adBits x.a ∧ f = 0 ∧ LT l' (upS s x.a.six (setS (pbit x.a) x.val m 0 (s x.a.six))) ∧ (l'.length : Int) = (l.length : Int) + if (atS (pbit x.a) m 0 (s x.a.six)).isS then 0 else 1) := by
  rcases hs with hs | ⟨hr, hf, hs⟩
  · exact .inl hs
  · obtain ⟨hp, hxm⟩ := (rgtB_iff x.a x.len m hl hz).1 hr
    have hx : x = ⟨x.a, (m : Int), x.val⟩ := by rw [← hxm]
    have hkx : x.key = (x.a, (m : Int)) := by rw [← hxm]; rfl
    have hget : ∀ v, getS (pbit x.a) m 0 (s x.a.six) = some v ↔ (⟨x.a, (m : Int), v⟩ : En) ∈ l := h.mp x.a m hp
    have hisS : (atS (pbit x.a) m 0 (s x.a.six)).isS = (getS (pbit x.a) m 0 (s x.a.six)).isSome := by
      unfold getS
      cases atS (pbit x.a) m 0 (s x.a.six) with
      | nil => rfl
      | nd a b c d => cases c <;> rfl
    rw [hisS]
    refine .inr ⟨hr, hxm, hp.2.2.1, hf, ?_⟩
    rcases hs with ⟨rfl, hno⟩ | ⟨k, rfl, hk, hkey⟩
    · have hnm : ∀ e ∈ l, ¬ e.key = x.key := fun e he hh => by
        obtain ⟨i, hi⟩ := List.mem_iff_getElem?.1 he
        obtain ⟨hil, hi'⟩ := List.getElem?_eq_some_iff.1 hi
        refine hno i hil (key_iff.2 ?_)
        have := getD_get hil
        rw [hi] at this
        injection this with this
        rw [← this]
        exact hh
      refine ⟨h.set_ x.a m x.val hp (fun e => ?_) ?_, ?_⟩
      · rw [List.mem_append, List.mem_singleton, ← hx, key_iff, ← hkx]
        constructor
        · rintro (he | he)
          · exact .inr ⟨he, hnm e he⟩
          · exact .inl he
        · rintro (he | ⟨he, _⟩)
          · exact .inr he
          · exact .inl he
      · rw [List.map_append, List.nodup_append]
        refine ⟨h.nd, by simp, fun a ha b hb => ?_⟩
        obtain ⟨e, he, rfl⟩ := List.mem_map.1 ha
        have hb' : b = x.key := by simpa using hb
        rw [hb']
        exact hnm e he
      · have : getS (pbit x.a) m 0 (s x.a.six) = none := by
          cases hg : getS (pbit x.a) m 0 (s x.a.six) with
          | none => rfl
          | some v => exact absurd hkx.symm (hnm _ ((hget v).1 hg))
        rw [this, List.length_append]
        simp
    · have hkk : (l.getD k default).key = x.key := key_iff.1 hkey
      refine ⟨h.set_ x.a m x.val hp (fun e => ?_) ?_, ?_⟩
      · rw [mem_set' h.nd hk hkk, ← hx, key_iff, ← hkx]
      · rw [key_map_set hk hkk]; exact h.nd
      · have : getS (pbit x.a) m 0 (s x.a.six) = some (l.getD k default).val := (hget _).2 (by
          have h1 := mem_get hk
          have h2 : (⟨x.a, (m : Int), (l.getD k default).val⟩ : En) = l.getD k default := by
            rw [← hxm, ← hkey.1, ← hkey.2]
          rw [h2]
          exact h1)
        rw [this, List.length_set]
        simp
/-- Drop, on both sides. -/
theorem LT.dropR {l l' : List En} {s : Bool → Sh} {x : En} {m : Nat} {f : Int} (h : LT l s) (hs : DropR l x l' f) (hl : adLim x.a) (hz : min (max x.len 0) (adBits x.a : Int) = (m : Int)) :
    (lookS x.a x.len m (s x.a.six) = none ∧ l' = l ∧ f = 6) ∨ (∃ v, rgtB x.a x.len m = true ∧ x.len = (m : Int) ∧ getS (pbit x.a) m 0 (s x.a.six) = some v ∧ f = 0 ∧ LT l' (upS s x.a.six (dropS (pbit x.a) m 0 (s x.a.six))) ∧ (l'.length : Int) = (l.length : Int) - 1) := by
  rcases hs with ⟨hno, rfl, rfl⟩ | ⟨k, rfl, hk, hkey, rfl⟩
  · refine .inl ⟨?_, rfl, rfl⟩
    cases hg : lookS x.a x.len m (s x.a.six) with
    | none => rfl
    | some v =>
      have := (h.look x.a x.len m hl hz v).1 hg
      obtain ⟨i, hi⟩ := List.mem_iff_getElem?.1 this
      obtain ⟨hil, _⟩ := List.getElem?_eq_some_iff.1 hi
      have h2 := getD_get hil
      rw [hi] at h2
      injection h2 with h2
      exact absurd (by rw [← h2]; exact ⟨rfl, rfl⟩) (hno i hil)
  · have hin := mem_get hk
    obtain ⟨n, h1, h2⟩ := h.rt _ hin
    rw [hkey.1] at h2
    rw [hkey.2] at h1
    obtain rfl : n = m := by have := h2.2.2.1; omega
    have hr : rgtB x.a x.len n = true := (rgtB_iff x.a x.len n hl hz).2 ⟨h2, h1⟩
    refine .inr ⟨(l.getD k default).val, hr, h1, (h.mp x.a n h2 _).2 ?_, rfl, h.drop_ x.a n h2 (fun e => ?_) ((erase_sub l k).map _ |>.nodup h.nd), ?_⟩
    · have h3 : (⟨x.a, (n : Int), (l.getD k default).val⟩ : En) = l.getD k default := by
        rw [← h1, ← hkey.1, ← hkey.2]
      rw [h3]
      exact hin
    · rw [mem_erase' h.nd hk, key_iff, key_iff.1 hkey, h1]
    · rw [List.length_append, List.length_take, List.length_drop]; omega
end Go.Proofs.Ytlpgedncnefaoaa
