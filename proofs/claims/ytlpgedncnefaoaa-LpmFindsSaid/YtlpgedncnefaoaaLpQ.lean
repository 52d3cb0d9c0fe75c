
/- lpm: the reference's Index, Set, Drop by contract. Conditions: none but bounds. -/
import Derived.Test.YtlpgedncnefaoaaLpP
import Derived.Test.YtlpgedncnefaoaaRws
namespace Go.Proofs.Ytlpgedncnefaoaa
open Go.RowKit
theorem range_sub {w : World} {b q : Nat} {xs cs : List Value} (h : w.rangeAt b q xs) (o : Nat) (hv : (xs.drop o).take cs.length = cs) : w.rangeAt b (q + o) cs := by
  intro j v hj
  have hl : j < cs.length := by
    rcases Nat.lt_or_ge j cs.length with h1 | h1
    · exact h1
    · rw [List.getElem?_eq_none h1] at hj; cases hj
  rw [← hv, List.getElem?_take, if_pos hl, List.getElem?_drop] at hj
  rw [Nat.add_assoc]
  exact h (o + j) v hj
theorem fl_splice {α : Type} [Inhabited α] {enc : α → List Value} {sz : Nat} (he : ∀ x, (enc x).length = sz) (l : List α) (j : Nat) (hj : j < l.length) (x : α) : splice (flat enc l) (j * sz) (enc x) = flat enc (l.set j x) := by
  have e : l = l.take j ++ l[j] :: l.drop (j + 1) := by rw [← List.drop_eq_getElem_cons hj, List.take_append_drop]
  have hjl : (l.take j).length = j := by rw [List.length_take]; omega
  generalize l.take j = a at *
  generalize l[j] = y at *
  generalize l.drop (j + 1) = b at *
  subst e
  have h1 : flat enc (a ++ y :: b) = flat enc a ++ (enc y ++ flat enc b) := by simp [flat]
  have h2 : (a ++ y :: b).set j x = a ++ x :: b := by
    rw [List.set_append_right _ _ (by omega), hjl, Nat.sub_self, List.set_cons_zero]
  have h3 : flat enc (a ++ x :: b) = flat enc a ++ (enc x ++ flat enc b) := by simp [flat]
  have hl : (flat enc a).length = j * sz := by rw [flat_length he, hjl]
  rw [h1, h2, h3]
  unfold splice
  rw [List.take_left' hl]
  have h4 : (flat enc a ++ (enc y ++ flat enc b)).drop (j * sz + (enc x).length) = flat enc b := by
    have h5 : (flat enc a ++ enc y).length = j * sz + (enc x).length := by rw [List.length_append, hl, he, he]
    rw [show flat enc a ++ (enc y ++ flat enc b) = (flat enc a ++ enc y) ++ flat enc b by simp, List.drop_left' h5]
  rw [h4]
abbrev Sc := Int × Nat
theorem fl_app {α : Type} (enc : α → List Value) (a b : List α) : flat enc (a ++ b) = flat enc a ++ flat enc b := by unfold flat; rw [List.map_append, List.flatten_append]
theorem fl_drop {α : Type} {enc : α → List Value} {sz : Nat} (he : ∀ x, (enc x).length = sz) (l : List α) (i : Nat) : (flat enc l).drop (i * sz) = flat enc (l.drop i) := by
  have hl : (flat enc (l.take i)).length = min i l.length * sz := by rw [flat_length he, List.length_take]
  by_cases h : i ≤ l.length
  · conv => lhs; rw [← List.take_append_drop i l]
    rw [fl_app, List.drop_left' (by rw [hl, Nat.min_eq_left h])]
  · rw [List.drop_of_length_le (by rw [flat_length he]; exact Nat.mul_le_mul_right _ (by omega)), List.drop_of_length_le (by omega)]; rfl
theorem fl_take {α : Type} {enc : α → List Value} {sz : Nat} (he : ∀ x, (enc x).length = sz) (l : List α) (i : Nat) : (flat enc l).take (i * sz) = flat enc (l.take i) := by
  have hl : (flat enc (l.take i)).length = min i l.length * sz := by rw [flat_length he, List.length_take]
  by_cases h : i ≤ l.length
  · conv => lhs; rw [← List.take_append_drop i l]
    rw [fl_app, List.take_left' (by rw [hl, Nat.min_eq_left h])]
  · rw [List.take_of_length_le (by rw [flat_length he]; exact Nat.mul_le_mul_right _ (by omega)), List.take_of_length_le (by omega)]
theorem fl_vdrop {α : Type} {enc : α → List Value} {sz : Nat} (he : ∀ x, (enc x).length = sz) (hz : 0 < sz) {w : World} {bd : Nat} {A : Option Addr} {l : List α} {c : Nat} (h : View w bd A (flat enc l)) (hc : l.length ≤ c) (i : Nat) : View w bd (cutA A i c sz) (flat enc (l.drop i)) := by
  have h1 := h.cut (k := i * sz) (c := c * sz) (by rw [flat_length he]; exact Nat.mul_le_mul_right _ hc)
  rw [fl_drop he] at h1
  unfold cutA
  by_cases heq : c = i
  · rw [if_pos heq]; rw [if_pos (by rw [heq])] at h1; exact h1
  · rw [if_neg heq]; rw [if_neg (fun h => heq (Nat.eq_of_mul_eq_mul_right hz h))] at h1; exact h1
theorem fl_vtake {α : Type} {enc : α → List Value} {sz : Nat} (he : ∀ x, (enc x).length = sz) (hz : 0 < sz) {w : World} {bd : Nat} {A : Option Addr} {l : List α} {c : Nat} (h : View w bd A (flat enc l)) (hc : l.length ≤ c) (i : Nat) : View w bd (cutA A 0 c sz) (flat enc (l.take i)) := by
  have h1 := (fl_vdrop he hz h hc 0).take (i * sz)
  rw [List.drop_zero, fl_take he] at h1
  exact h1
theorem fl_one {α : Type} {enc : α → List Value} (he : ∀ x, ∀ u ∈ enc x, u.oneCell' = true) (l : List α) : ∀ u ∈ flat enc l, u.oneCell' = true := by
  intro u hu
  unfold flat at hu
  obtain ⟨cs, hcs, huc⟩ := List.mem_flatten.1 hu
  obtain ⟨p, _, rfl⟩ := List.mem_map.1 hcs
  exact he p u huc
theorem en_one (l : List En) : ∀ u ∈ flat enV l, u.oneCell' = true := fl_one (fun x u hu => by
  simp only [enV, List.mem_cons, List.not_mem_nil, or_false] at hu
  rcases hu with rfl | rfl | rfl | rfl | rfl <;> rfl) l
def keyP (e : En) (a : Ad) (z : Int) : Prop := e.a = a ∧ e.len = z
def IndexP (l : List En) (a : Ad) (z : Int) (r : Int) : Prop :=
  (r = -1 ∧ ∀ j, j < l.length → ¬ keyP (l.getD j default) a z) ∨ ∃ k : Nat, r = (k : Int) ∧ k < l.length ∧ keyP (l.getD k default) a z
set_option maxRecDepth 100000 in
set_option maxHeartbeats 8000000 in
theorem rindex_c (L : Option Addr) (n c : Nat) (l : List En) (a : Ad) (z : Int) (w0 : World) (hv : View w0 w0.heap.size L (flat enV l)) (hl : l.length = n) (hn : n ≤ 1000) :
    Calls Try.prog 28 #[.slice L n c, .agg a.V.toArray, .int .i64 z] w0 fun e w' => ∃ r : Int, e = .returned (.int .i64 r) ∧ IndexP l a z r ∧ Kp [] w0 w' := by
  have hS := (St.sv w0).vcons rfl hv
  have hfl := flat_length (enc := enV) (l := l) enV_len
  refine ent (n := 31) Try.func28 rfl rfl ?_
  refine wp_seq_k ?_; intro K1 hK1
  refine wlit ?_
  refine wl_e rfl ?_; intro K hK
  refine ow_box hS (tmA rfl rfl) rfl ?_
  clear hS; intro g0_0 w hg0_0 hS
  refine hK _ _ ?_; clear hK K
  refine wl_v (x_assign (ev_cN 0)) ?_
  refine wl_nil ?_
  refine then_n (hK1 _ _ ?_); clear hK1 K1
  refine wp_seq_k ?_; intro K2 hK2
  refine wp_seq_k ?_; intro K3 hK3
  refine wlit ?_
  refine wl_v (x_assign (ev_cN 0)) ?_
  refine wl_nil ?_
  refine then_n (hK3 _ _ ?_); clear hK3 K3
  refine wp_block ?_
  refine lp [6, 7, 8, 9, 10, 11, 12, 13, 14, 15, 16, 17, 18, 19, 20, 21, 22, 23, 24, 25, 26, 27, 28, 29, 30] (fun mz g w => ∃ (k : Nat), mz = n - k ∧ g 7 = .int .i64 (k : Int) ∧ St [] w0 [.blk g0_0 25 a.V, .vw L (flat enV l)] w ∧ (k ≤ n) ∧ (∀ j, j < k → ¬ keyP (l.getD j default) a z)) ?_ ?_
  · exact ⟨_, 0, rfl, (by first | rfl | go_num | exact congrArg (Value.int _) (by first | omega | (simp; done) | (simp; omega))), hS, (by omega), (by first | exact hno2 | exact (fun j hj => absurd hj (Nat.not_lt_zero j)))⟩
  · clear hS; intro mz g w hI
    obtain ⟨k, rfl, hs7, hS, hk, hno⟩ := hI
    refine fr_know (d := 7) hs7 ?_; clear hs7
    refine wp_seq_k ?_; intro K4 hK4
    refine wp_seq_k ?_; intro K5 hK5
    refine wlit ?_
    refine wl_v (x_move (tmI rfl rfl)) ?_
    refine wl_v (x_move (tmS rfl rfl)) ?_
    refine wl_v (x_len Try.underlying28 (tmS rfl rfl)) ?_
    refine wl_v (x_lss (tmI rfl rfl) (tmI rfl rfl)) ?_
    refine wl_nil ?_
    refine then_n (hK5 _ _ ?_); clear hK5 K5
    refine cnd (tm rfl) (fun hc0 => ?_) (fun hc0 => ?_)
    · try (exfalso; first | with_reducible exact absurd hc0 Bool.false_ne_true | with_reducible exact absurd hc0.symm Bool.false_ne_true | (simp only [nrm] at hc0; omega) | (simp at hc0; done))
      all_goals
       try simp only [nrm] at hc0
       refine wp_skip ?_
       refine then_n (hK4 _ _ ?_); clear hK4 K4
       refine wp_seq_k ?_; intro K6 hK6
       refine wp_block ?_
       refine wp_seq_k ?_; intro K7 hK7
       obtain ⟨b4, o4, rfl⟩ := view_some (viewV hS.ok 1 rfl) (by rw [hfl]; omega)
       refine rg_startk 0 hS mixed_ ?_
       clear hS; intro w hS
       refine rg_take 0 rfl rfl (by kernel_rfl) (by kernel_rfl) (by kernel_rfl) (want_0) (fun w hok => x_move (tmS rfl rfl)) ?_
       refine rg_take 1 rfl rfl (by kernel_rfl) (by kernel_rfl) (by kernel_rfl) (want_0) (fun w hok => x_move (tmI rfl rfl)) ?_
       refine rg_take 2 rfl rfl (by kernel_rfl) (by kernel_rfl) (by kernel_rfl) (want_0) (fun w hok => x_ixs Try.underlying28 ts_37 (tmS rfl rfl) (tmI rfl rfl) (by omega)) ?_
       refine rg_take 3 rfl rfl (by kernel_rfl) (by kernel_rfl) (by kernel_rfl) (want_0) (fun w hok => x_fa 0 Try.underlying37 rfl rfl ts_25 (tmP rfl rfl)) ?_
       refine rg_take 4 rfl rfl (by kernel_rfl) (by kernel_rfl) (by kernel_rfl) (want_0) (fun w hok => x_loadA (cs := (l.getD k default).a.V) Try.underlying25 rfl (by exact ts_25) (tmP rfl rfl) (range_sub (rangeVs hok 1 rfl enV_len (by omega)) 0 rfl)) ?_
       refine rg_take 5 rfl rfl (by kernel_rfl) (by kernel_rfl) (by kernel_rfl) (want_0) (fun w hok => x_loadA (cs := [_, _, _]) Try.underlying25 rfl ts_25 (tmP rfl rfl) (rangeB hok 0 rfl rfl)) ?_
       refine rg_take 6 rfl rfl (by kernel_rfl) (by kernel_rfl) (by kernel_rfl) (want_0) (fun w hok => x_Aeql (by kernel_rfl) (tmA rfl rfl) (tmA rfl rfl) (eqv_A Try.underlying25 (by kernel_rfl) (fe_cons rfl (pt_1 Try.underlying4 rfl rfl) (pt_1 Try.underlying4 rfl rfl) (eqv_b Try.underlying4) <| fe_cons rfl (pt_1 Try.underlying23 rfl rfl) (pt_1 Try.underlying23 rfl rfl) (eqv_i Try.underlying23) <| fe_cons rfl (pt_1 Try.underlying23 rfl rfl) (pt_1 Try.underlying23 rfl rfl) (eqv_i Try.underlying23) <| fe_nil))) ?_
       refine rg_take 7 rfl rfl (by kernel_rfl) (by kernel_rfl) (by kernel_rfl) (want_0) (fun w hok => x_move (tmB rfl rfl)) ?_
       refine gs_rg (tm (t := 21) rfl) (fun hg4_7 => ?_) (fun hg4_7 => ?_)
       · have hg4_7' := hg4_7; (try simp only [nrm] at hg4_7'); try (exfalso; first | with_reducible exact absurd hg4_7 Bool.false_ne_true | with_reducible exact absurd hg4_7.symm Bool.false_ne_true | omega | (simp at hg4_7; done))
         all_goals
          refine rg_take 8 rfl rfl (by kernel_rfl) (by kernel_rfl) (by kernel_rfl) (want_y rfl rfl rfl rfl (by rw [hg4_7]; rfl)) (fun w hok => x_move (tmS rfl rfl)) ?_
          refine rg_take 9 rfl rfl (by kernel_rfl) (by kernel_rfl) (by kernel_rfl) (want_y rfl rfl rfl rfl (by rw [hg4_7]; rfl)) (fun w hok => x_move (tmI rfl rfl)) ?_
          refine rg_take 10 rfl rfl (by kernel_rfl) (by kernel_rfl) (by kernel_rfl) (want_y rfl rfl rfl rfl (by rw [hg4_7]; rfl)) (fun w hok => x_ixs Try.underlying28 ts_37 (tmS rfl rfl) (tmI rfl rfl) (by omega)) ?_
          refine rg_take 11 rfl rfl (by kernel_rfl) (by kernel_rfl) (by kernel_rfl) (want_y rfl rfl rfl rfl (by rw [hg4_7]; rfl)) (fun w hok => x_fa 3 Try.underlying37 rfl rfl ts_3 (tmP rfl rfl)) ?_
          first
           | refine rg_take 12 rfl rfl (by kernel_rfl) (by kernel_rfl) (by kernel_rfl) (want_y rfl rfl rfl rfl (by rw [hg4_7]; rfl)) (fun w hok => x_load Try.underlying3 rfl (tmP rfl rfl) (cellV hok 1 rfl rfl)) ?_
           | refine rg_take 12 rfl rfl (by kernel_rfl) (by kernel_rfl) (by kernel_rfl) (want_y rfl rfl rfl rfl (by rw [hg4_7]; rfl)) (fun w hok => x_load Try.underlying3 rfl (tmP rfl rfl) (cellV hok 1 rfl (getm (by omega)))) ?_
           | refine rg_take 12 rfl rfl (by kernel_rfl) (by kernel_rfl) (by kernel_rfl) (want_y rfl rfl rfl rfl (by rw [hg4_7]; rfl)) (fun w hok => x_load Try.underlying3 rfl (tmP rfl rfl) (cellVs hok 1 rfl (fun _ => rfl) rfl (by omega) rfl)) ?_
          refine rg_take 13 rfl rfl (by kernel_rfl) (by kernel_rfl) (by kernel_rfl) (want_y rfl rfl rfl rfl (by rw [hg4_7]; rfl)) (fun w hok => x_move (tmI rfl rfl)) ?_
          refine rg_take 14 rfl rfl (by kernel_rfl) (by kernel_rfl) (by kernel_rfl) (want_y rfl rfl rfl rfl (by rw [hg4_7]; rfl)) (fun w hok => x_eql (tmI rfl rfl) (tmI rfl rfl)) ?_
          refine rg_take 15 rfl rfl (by kernel_rfl) (by kernel_rfl) (by kernel_rfl) (want_0) (fun w hok => x_pickT (tmB rfl rfl) hg4_7 (tmB rfl rfl)) ?_
          refine rg_done (oks_drop hS 0 rfl) (by kernel_rfl) ?_
          refine then_n (hK7 _ _ ?_); clear hK7 K7
          refine cnd (tm rfl) (fun hc1 => ?_) (fun hc1 => ?_)
          · try (exfalso; first | with_reducible exact absurd hc1 Bool.false_ne_true | with_reducible exact absurd hc1.symm Bool.false_ne_true | (simp only [nrm] at hc1; omega) | (simp at hc1; done))
            all_goals
             try simp only [nrm] at hc1
             refine wp_seq_k ?_; intro K8 hK8
             refine wlit ?_
             refine wl_v (x_move (tmI rfl rfl)) ?_
             refine wl_v (x_assign (tmI rfl rfl)) ?_
             refine wl_nil ?_
             refine then_n (hK8 _ _ ?_); clear hK8 K8
             refine wp_ret ?_
             refine inb_r ?_
             refine then_r ?_
             refine then_r ?_
             refine inb_r ?_
             refine then_r ?_
             refine ret1 rfl (.tmp rfl (show _ = Value.int _ _ from rfl)) ?_
             first
               | exact ⟨_, rfl, .inr ⟨k, rfl, by omega, (eqA_iff _ _).1 hg4_7, hc1⟩, hS.kp⟩
               | exact ⟨_, rfl, .inl ⟨rfl, fun j hj => hno j (by omega)⟩, hS.kp⟩
          try (exfalso; first | with_reducible exact absurd hc1 Bool.false_ne_true | with_reducible exact absurd hc1.symm Bool.false_ne_true | (simp only [nrm] at hc1; omega) | (simp at hc1; done))
          all_goals
           try simp only [nrm] at hc1
           refine wp_skip ?_
           refine inb_n ?_
           refine then_n (hK6 _ _ ?_); clear hK6 K6
           refine wlit ?_
           refine wl_v (x_move (tmI rfl rfl)) ?_
           first
            | refine wl_v (x_addN (tmI rfl rfl) (ev_cN 1) (fit_i64 (by omega))) ?_
            | refine wl_v (x_addI (tmI rfl rfl) (ev_cN 1) (IntWalk.i64_in _ (by omega))) ?_
            | refine wl_v (x_add (tmI rfl rfl) (ev_cN 1)) ?_
           refine wl_v (x_assign (tmI rfl rfl)) ?_
           refine wl_nil ?_
           have hnk : ¬ keyP (l.getD k default) a z := by rintro ⟨h1, h2⟩; first | exact hc1 h2 | exact absurd (hg4_7.symm.trans ((eqA_iff _ _).2 h1)) Bool.false_ne_true
           have hno2 : ∀ j, j < k + 1 → ¬ keyP (l.getD j default) a z := fun j hj hkey => by rcases (by omega : j < k ∨ j = k) with h | rfl; exact hno j h hkey; exact hnk hkey
           exact then_n ⟨_, _, rfl, (by show _ < _; omega), (by repeat (first | exact agree_self | exact agree_refl | refine agree_upd rfl ?_ | refine agree_mix rfl ?_)), k + 1, rfl, (by first | rfl | go_num | exact congrArg (Value.int _) (by first | omega | (simp; done) | (simp; omega))), hS, (by omega), (by first | exact hno2 | exact (fun j hj => absurd hj (Nat.not_lt_zero j)))⟩
       have hg4_7' := hg4_7; (try simp only [nrm] at hg4_7'); try (exfalso; first | with_reducible exact absurd hg4_7 Bool.false_ne_true | with_reducible exact absurd hg4_7.symm Bool.false_ne_true | omega | (simp at hg4_7; done))
       all_goals
        refine rg_skip 8 rfl rfl (by kernel_rfl) (by kernel_rfl) (by kernel_rfl) (want_n rfl rfl rfl rfl (by rw [hg4_7]; rfl)) ?_
        refine rg_skip 9 rfl rfl (by kernel_rfl) (by kernel_rfl) (by kernel_rfl) (want_n rfl rfl rfl rfl (by rw [hg4_7]; rfl)) ?_
        refine rg_skip 10 rfl rfl (by kernel_rfl) (by kernel_rfl) (by kernel_rfl) (want_n rfl rfl rfl rfl (by rw [hg4_7]; rfl)) ?_
        refine rg_skip 11 rfl rfl (by kernel_rfl) (by kernel_rfl) (by kernel_rfl) (want_n rfl rfl rfl rfl (by rw [hg4_7]; rfl)) ?_
        refine rg_skip 12 rfl rfl (by kernel_rfl) (by kernel_rfl) (by kernel_rfl) (want_n rfl rfl rfl rfl (by rw [hg4_7]; rfl)) ?_
        refine rg_skip 13 rfl rfl (by kernel_rfl) (by kernel_rfl) (by kernel_rfl) (want_n rfl rfl rfl rfl (by rw [hg4_7]; rfl)) ?_
        refine rg_skip 14 rfl rfl (by kernel_rfl) (by kernel_rfl) (by kernel_rfl) (want_n rfl rfl rfl rfl (by rw [hg4_7]; rfl)) ?_
        refine rg_take 15 rfl rfl (by kernel_rfl) (by kernel_rfl) (by kernel_rfl) (want_0) (fun w hok => x_pickF (tmB rfl rfl) hg4_7 ev_c) ?_
        refine rg_done (oks_drop hS 0 rfl) (by kernel_rfl) ?_
        refine then_n (hK7 _ _ ?_); clear hK7 K7
        refine cnd_f (tmB rfl rfl) rfl ?_
        refine wp_skip ?_
        refine inb_n ?_
        refine then_n (hK6 _ _ ?_); clear hK6 K6
        refine wlit ?_
        refine wl_v (x_move (tmI rfl rfl)) ?_
        first
         | refine wl_v (x_addN (tmI rfl rfl) (ev_cN 1) (fit_i64 (by omega))) ?_
         | refine wl_v (x_addI (tmI rfl rfl) (ev_cN 1) (IntWalk.i64_in _ (by omega))) ?_
         | refine wl_v (x_add (tmI rfl rfl) (ev_cN 1)) ?_
        refine wl_v (x_assign (tmI rfl rfl)) ?_
        refine wl_nil ?_
        have hnk : ¬ keyP (l.getD k default) a z := by rintro ⟨h1, h2⟩; first | exact hc1 h2 | exact absurd (hg4_7.symm.trans ((eqA_iff _ _).2 h1)) Bool.false_ne_true
        have hno2 : ∀ j, j < k + 1 → ¬ keyP (l.getD j default) a z := fun j hj hkey => by rcases (by omega : j < k ∨ j = k) with h | rfl; exact hno j h hkey; exact hnk hkey
        exact then_n ⟨_, _, rfl, (by show _ < _; omega), (by repeat (first | exact agree_self | exact agree_refl | refine agree_upd rfl ?_ | refine agree_mix rfl ?_)), k + 1, rfl, (by first | rfl | go_num | exact congrArg (Value.int _) (by first | omega | (simp; done) | (simp; omega))), hS, (by omega), (by first | exact hno2 | exact (fun j hj => absurd hj (Nat.not_lt_zero j)))⟩
    try (exfalso; first | with_reducible exact absurd hc0 Bool.false_ne_true | with_reducible exact absurd hc0.symm Bool.false_ne_true | (simp only [nrm] at hc0; omega) | (simp at hc0; done))
    all_goals
     try simp only [nrm] at hc0
     refine wp_exit ?_
     refine then_x ?_; clear hK4 K4
     refine then_x ?_
     refine inb_x ?_
     refine then_n (hK2 _ _ ?_); clear hK2 K2
     refine wp_seq_k ?_; intro K9 hK9
     refine wlit ?_
     refine wl_v (x_assign ev_c) ?_
     refine wl_nil ?_
     refine then_n (hK9 _ _ ?_); clear hK9 K9
     refine wp_ret ?_
     refine ret1 rfl (.tmp rfl (show _ = Value.int _ _ from rfl)) ?_
     first
       | exact ⟨_, rfl, .inr ⟨k, rfl, by omega, (eqA_iff _ _).1 hg4_7, hc1⟩, hS.kp⟩
       | exact ⟨_, rfl, .inl ⟨rfl, fun j hj => hno j (by omega)⟩, hS.kp⟩
/-- What Set makes of the list. -/
def SetR (l : List En) (x : En) (m : Nat) (l' : List En) (f : Int) : Prop :=
  (rgtB x.a x.len m = false ∧ l' = l ∧ f = 1) ∨ (rgtB x.a x.len m = true ∧ f = 0 ∧ ((l' = l ++ [x] ∧ ∀ j, j < l.length → ¬ keyP (l.getD j default) x.a x.len) ∨ ∃ k : Nat, l' = l.set k x ∧ k < l.length ∧ keyP (l.getD k default) x.a x.len))
set_option maxRecDepth 100000 in
set_option maxHeartbeats 8000000 in
theorem lrset_c (L : Option Addr) (n c : Nat) (l : List En) (x : En) (m : Nat) (w0 : World) (hv : View w0 w0.heap.size L (flat enV l)) (hl : l.length = n) (hn : n ≤ 1000) (hnc : n ≤ c) (hla : adLim x.a) (hz : min (max x.len 0) (adBits x.a : Int) = (m : Int)) :
    Calls Try.prog 16 #[.slice L n c, .agg (enV x).toArray] w0 fun e w' => ∃ A' n' c' l' f, e = .returned (.tuple #[.slice A' n' c', .int .i64 f]) ∧ SetR l x m l' f ∧ l'.length = n' ∧ n' ≤ c' ∧ (NewV w0 w' A' (flat enV l') ∨ A' = L ∧ l' = l) ∧ Kp [] w0 w' := by
  have hS := (St.sv w0).vcons rfl hv
  have hfl := flat_length (enc := enV) (l := l) enV_len
  refine ent (n := 36) Try.func16 rfl rfl ?_
  refine wp_seq_k ?_; intro K1 hK1
  refine wlit ?_
  refine wl_e rfl ?_; intro K hK
  refine ow_box hS (tmA rfl rfl) rfl ?_
  clear hS; intro g0_0 w hg0_0 hS
  refine hK _ _ ?_; clear hK K
  refine wl_v (x_assign ev_c) ?_
  refine wl_v (x_assign (ev_cN 0)) ?_
  refine wl_nil ?_
  refine then_n (hK1 _ _ ?_); clear hK1 K1
  refine wp_seq_k ?_; intro K2 hK2
  refine wp_seq_k ?_; intro K3 hK3
  refine wlit ?_
  refine wl_v (x_fa 0 Try.underlying37 rfl rfl ts_25 (tmP rfl rfl)) ?_
  refine wl_v (x_loadA (cs := [_, _, _]) Try.underlying25 rfl ts_25 (tmP rfl rfl) (rangeB hS.ok 0 rfl rfl)) ?_
  refine wl_v (x_fa 3 Try.underlying37 rfl rfl ts_3 (tmP rfl rfl)) ?_
  first
   | refine wl_v (x_load Try.underlying3 rfl (tmP rfl rfl) (cellB hS.ok 0 rfl rfl)) ?_
   | refine wl_v (x_load Try.underlying3 rfl (tmP rfl rfl) (cellB hS.ok 0 rfl (getm (by omega)))) ?_
  refine wl_e rfl ?_; intro K hK
  refine ow_call Try.func29 rfl rfl (evs_cons (tmA rfl rfl) <| evs_cons (tmI rfl rfl) <| evs_nil) (rlright_c x.a x.len m _ hla hz) ?_
  rintro e w ⟨rfl, hk⟩
  refine ⟨_, rfl, ?_⟩
  replace hS := hS.kept hk
  clear hk
  refine hK _ _ ?_; clear hK K
  refine wl_v (x_not (tmB rfl rfl)) ?_
  refine wl_nil ?_
  refine then_n (hK3 _ _ ?_); clear hK3 K3
  refine cnd (tm rfl) (fun hc0 => ?_) (fun hc0 => ?_)
  · try (exfalso; first | with_reducible exact absurd hc0 Bool.false_ne_true | with_reducible exact absurd hc0.symm Bool.false_ne_true | (simp only [nrm] at hc0; omega) | (simp at hc0; done))
    all_goals
     try simp only [nrm] at hc0
     refine wp_seq_k ?_; intro K4 hK4
     refine wlit ?_
     refine wl_v (x_move (tmS rfl rfl)) ?_
     refine wl_v (x_assign (tmS rfl rfl)) ?_
     refine wl_v (x_assign (ev_cN 1)) ?_
     refine wl_nil ?_
     refine then_n (hK4 _ _ ?_); clear hK4 K4
     refine wp_ret ?_
     refine then_r ?_
     refine ret2 rfl (.tmp rfl (show _ = Value.slice _ _ _ from rfl)) (.tmp rfl (show _ = Value.int _ _ from rfl)) ?_
     first
       | exact ⟨L, n, c, l, 1, rfl, .inl ⟨by simpa using hc0, rfl, rfl⟩, hl, hnc, .inr ⟨rfl, rfl⟩, hS.kp⟩
       | exact ⟨_, _, _, l.set k x, 0, rfl, .inr ⟨by simpa using hc0, rfl, .inr ⟨k, rfl, hkl, hkey⟩⟩, by rw [List.length_set]; omega, row_cap (hS.rowOk 0 rfl) (Nat.zero_lt_succ 4), .inl (hS.newv 0 rfl), hS.kp⟩
       | (rw [List.nil_append, show [Value.bool x.a.six, .int .u64 (x.a.high : Int), .int .u64 (x.a.low : Int), .int .i64 x.len, .int .i64 x.val] ++ [] = flat enV [x] from rfl, ← fl_app] at hS
          have hnk : ∀ j, j < l.length → ¬ keyP (l.getD j default) x.a x.len := by
            rcases hr with ⟨_, h⟩ | ⟨k, h, _⟩
            · exact h
            · exfalso; omega
          first
            | exact ⟨_, _, _, l ++ [x], 0, rfl, .inr ⟨by simpa using hc0, rfl, .inl ⟨rfl, hnk⟩⟩, by rw [List.length_append, hl]; simp, row_cap (hS.rowOk 0 rfl) (Nat.zero_lt_succ 4), .inl (hS.newv 0 rfl), hS.kp⟩
            | exact ⟨_, _, _, l ++ [x], 0, rfl, .inr ⟨by simpa using hc0, rfl, .inl ⟨rfl, hnk⟩⟩, by rw [List.length_append, hl]; simp, row_cap (hS.rowOk 1 rfl) (Nat.zero_lt_succ 4), .inl (hS.newv 1 rfl), hS.kp⟩)
  try (exfalso; first | with_reducible exact absurd hc0 Bool.false_ne_true | with_reducible exact absurd hc0.symm Bool.false_ne_true | (simp only [nrm] at hc0; omega) | (simp at hc0; done))
  all_goals
   try simp only [nrm] at hc0
   refine wp_skip ?_
   refine then_n (hK2 _ _ ?_); clear hK2 K2
   refine wp_seq_k ?_; intro K5 hK5
   refine wlit ?_
   refine wl_v (x_move (tmS rfl rfl)) ?_
   refine wl_v (x_fa 0 Try.underlying37 rfl rfl ts_25 (tmP rfl rfl)) ?_
   refine wl_v (x_loadA (cs := [_, _, _]) Try.underlying25 rfl ts_25 (tmP rfl rfl) (rangeB hS.ok 0 rfl rfl)) ?_
   refine wl_v (x_fa 3 Try.underlying37 rfl rfl ts_3 (tmP rfl rfl)) ?_
   first
    | refine wl_v (x_load Try.underlying3 rfl (tmP rfl rfl) (cellB hS.ok 0 rfl rfl)) ?_
    | refine wl_v (x_load Try.underlying3 rfl (tmP rfl rfl) (cellB hS.ok 0 rfl (getm (by omega)))) ?_
   refine wl_e rfl ?_; intro K hK
   refine ow_call Try.func28 rfl rfl (evs_cons (tmS rfl rfl) <| evs_cons (tmA rfl rfl) <| evs_cons (tmI rfl rfl) <| evs_nil) (rindex_c L n c l x.a x.len _ (viewV hS.ok 1 rfl) hl hn) ?_
   rintro e w ⟨r, rfl, hr, hk⟩
   refine ⟨_, rfl, ?_⟩
   replace hS := hS.kept hk
   clear hk
   refine hK _ _ ?_; clear hK K
   refine wl_v (x_assign (tmI rfl rfl)) ?_
   refine wl_nil ?_
   refine then_n (hK5 _ _ ?_); clear hK5 K5
   refine wp_seq_k ?_; intro K6 hK6
   refine wp_seq_k ?_; intro K7 hK7
   refine wlit ?_
   refine wl_v (x_move (tmI rfl rfl)) ?_
   refine wl_v (x_lss (tmI rfl rfl) (ev_cN 0)) ?_
   refine wl_nil ?_
   refine then_n (hK7 _ _ ?_); clear hK7 K7
   refine cnd (tm rfl) (fun hc1 => ?_) (fun hc1 => ?_)
   · try (exfalso; first | with_reducible exact absurd hc1 Bool.false_ne_true | with_reducible exact absurd hc1.symm Bool.false_ne_true | (simp only [nrm] at hc1; omega) | (simp at hc1; done))
     all_goals
      try simp only [nrm] at hc1
      refine wp_seq_k ?_; intro K8 hK8
      refine rg_startk 0 hS mixed_ ?_
      clear hS; intro w hS
      refine rg_take 1 rfl rfl (by kernel_rfl) (by kernel_rfl) (by kernel_rfl) (want_0) (fun w hok => x_move (tmS rfl rfl)) ?_
      refine rg_take 3 rfl rfl (by kernel_rfl) (by kernel_rfl) (by kernel_rfl) (want_0) (fun w hok => x_loadA (cs := [_, _, _, _, _]) Try.underlying37 rfl ts_37 (tmP rfl rfl) (rangeB hok 0 rfl rfl)) ?_
      refine rg_step2 0 4 rfl rfl (by kernel_rfl) (want_0) (want_0) (oks_drop hS 0 rfl) ?_ ?_
      · intro K hK
        refine ow_build0 hS Try.underlying28 tz_37 rfl rfl ?_
        clear hS; intro g5_0 w hg5_0 hS
        refine hK _ _ ?_; clear hK K
        refine rg_step2 2 4 rfl rfl (by kernel_rfl) (want_0) (want_0) (oks_drop hS 1 rfl) ?_ ?_
        · intro K hK
          refine ow_appendV hS 0 rfl (viewV hS.ok 2 rfl) Try.underlying28 tz_37 rfl (tmS rfl rfl) (tmS rfl rfl) (en_one _) ⟨by decide, by rw [hfl, hl]⟩ (by simp only [maxLen]; omega) (by omega) ?_
          clear hS; intro g5_2 cg5_2 w hA2 hC2 hS
          refine hK _ _ ?_; clear hK K
          refine rg_step 4 rfl (by kernel_rfl) (want_0) (oks_drop hS 1 rfl) ?_; intro K hK
          refine ow_build hS Try.underlying28 tz_37 (bc_takeL (tmA rfl rfl) <| bc_nil) rfl rfl (by kernel_rfl) ?_
          clear hS; intro g5_4 w hg5_4 hS
          refine hK _ _ ?_; clear hK K
          refine rg_step 5 rfl (by kernel_rfl) (want_0) (oks_drop hS 2 rfl) ?_; intro K hK
          refine ow_appendV hS 1 rfl (viewB hS.ok 0 rfl) Try.underlying28 tz_37 rfl (tmS rfl rfl) (tmS rfl rfl) (by intro u hu; exact en_one [x] u (by show u ∈ enV x ++ []; rw [List.append_nil]; exact hu)) ⟨by decide, by rfl⟩ (by simp only [maxLen]; omega) (by omega) ?_
          clear hS; intro g5_5 cg5_5 w hA5 hC5 hS
          refine hK _ _ ?_; clear hK K
          refine rg_take 6 rfl rfl (by kernel_rfl) (by kernel_rfl) (by kernel_rfl) (want_0) (fun w hok => x_assign (tmS rfl rfl)) ?_
          refine rg_take 7 rfl rfl (by kernel_rfl) (by kernel_rfl) (by kernel_rfl) (want_0) (fun w hok => x_assign (ev_cN 0)) ?_
          refine rg_done (oks_drop hS 2 rfl) (by kernel_rfl) ?_
          refine then_n (hK8 _ _ ?_); clear hK8 K8
          refine wp_ret ?_
          refine then_r ?_
          refine ret2 rfl (.tmp rfl (show _ = Value.slice _ _ _ from rfl)) (.tmp rfl (show _ = Value.int _ _ from rfl)) ?_
          first
            | exact ⟨L, n, c, l, 1, rfl, .inl ⟨by simpa using hc0, rfl, rfl⟩, hl, hnc, .inr ⟨rfl, rfl⟩, hS.kp⟩
            | exact ⟨_, _, _, l.set k x, 0, rfl, .inr ⟨by simpa using hc0, rfl, .inr ⟨k, rfl, hkl, hkey⟩⟩, by rw [List.length_set]; omega, row_cap (hS.rowOk 0 rfl) (Nat.zero_lt_succ 4), .inl (hS.newv 0 rfl), hS.kp⟩
            | (rw [List.nil_append, show [Value.bool x.a.six, .int .u64 (x.a.high : Int), .int .u64 (x.a.low : Int), .int .i64 x.len, .int .i64 x.val] ++ [] = flat enV [x] from rfl, ← fl_app] at hS
               have hnk : ∀ j, j < l.length → ¬ keyP (l.getD j default) x.a x.len := by
                 rcases hr with ⟨_, h⟩ | ⟨k, h, _⟩
                 · exact h
                 · exfalso; omega
               first
                 | exact ⟨_, _, _, l ++ [x], 0, rfl, .inr ⟨by simpa using hc0, rfl, .inl ⟨rfl, hnk⟩⟩, by rw [List.length_append, hl]; simp, row_cap (hS.rowOk 0 rfl) (Nat.zero_lt_succ 4), .inl (hS.newv 0 rfl), hS.kp⟩
                 | exact ⟨_, _, _, l ++ [x], 0, rfl, .inr ⟨by simpa using hc0, rfl, .inl ⟨rfl, hnk⟩⟩, by rw [List.length_append, hl]; simp, row_cap (hS.rowOk 1 rfl) (Nat.zero_lt_succ 4), .inl (hS.newv 1 rfl), hS.kp⟩)
        · intro K hK
          refine ow_build hS Try.underlying28 tz_37 (bc_takeL (tmA rfl rfl) <| bc_nil) rfl rfl (by kernel_rfl) ?_
          clear hS; intro g5_4 w hg5_4 hS
          refine hK _ _ ?_; clear hK K
          refine rg_step 2 rfl (by kernel_rfl) (want_0) (oks_drop hS 2 rfl) ?_; intro K hK
          refine ow_appendV hS 1 rfl (viewV hS.ok 3 rfl) Try.underlying28 tz_37 rfl (tmS rfl rfl) (tmS rfl rfl) (en_one _) ⟨by decide, by rw [hfl, hl]⟩ (by simp only [maxLen]; omega) (by omega) ?_
          clear hS; intro g5_2 cg5_2 w hA2 hC2 hS
          refine hK _ _ ?_; clear hK K
          refine rg_step 5 rfl (by kernel_rfl) (want_0) (oks_drop hS 2 rfl) ?_; intro K hK
          refine ow_appendV hS 1 rfl (viewB hS.ok 0 rfl) Try.underlying28 tz_37 rfl (tmS rfl rfl) (tmS rfl rfl) (by intro u hu; exact en_one [x] u (by show u ∈ enV x ++ []; rw [List.append_nil]; exact hu)) ⟨by decide, by rfl⟩ (by simp only [maxLen]; omega) (by omega) ?_
          clear hS; intro g5_5 cg5_5 w hA5 hC5 hS
          refine hK _ _ ?_; clear hK K
          refine rg_take 6 rfl rfl (by kernel_rfl) (by kernel_rfl) (by kernel_rfl) (want_0) (fun w hok => x_assign (tmS rfl rfl)) ?_
          refine rg_take 7 rfl rfl (by kernel_rfl) (by kernel_rfl) (by kernel_rfl) (want_0) (fun w hok => x_assign (ev_cN 0)) ?_
          refine rg_done (oks_drop hS 2 rfl) (by kernel_rfl) ?_
          refine then_n (hK8 _ _ ?_); clear hK8 K8
          refine wp_ret ?_
          refine then_r ?_
          refine ret2 rfl (.tmp rfl (show _ = Value.slice _ _ _ from rfl)) (.tmp rfl (show _ = Value.int _ _ from rfl)) ?_
          first
            | exact ⟨L, n, c, l, 1, rfl, .inl ⟨by simpa using hc0, rfl, rfl⟩, hl, hnc, .inr ⟨rfl, rfl⟩, hS.kp⟩
            | exact ⟨_, _, _, l.set k x, 0, rfl, .inr ⟨by simpa using hc0, rfl, .inr ⟨k, rfl, hkl, hkey⟩⟩, by rw [List.length_set]; omega, row_cap (hS.rowOk 0 rfl) (Nat.zero_lt_succ 4), .inl (hS.newv 0 rfl), hS.kp⟩
            | (rw [List.nil_append, show [Value.bool x.a.six, .int .u64 (x.a.high : Int), .int .u64 (x.a.low : Int), .int .i64 x.len, .int .i64 x.val] ++ [] = flat enV [x] from rfl, ← fl_app] at hS
               have hnk : ∀ j, j < l.length → ¬ keyP (l.getD j default) x.a x.len := by
                 rcases hr with ⟨_, h⟩ | ⟨k, h, _⟩
                 · exact h
                 · exfalso; omega
               first
                 | exact ⟨_, _, _, l ++ [x], 0, rfl, .inr ⟨by simpa using hc0, rfl, .inl ⟨rfl, hnk⟩⟩, by rw [List.length_append, hl]; simp, row_cap (hS.rowOk 0 rfl) (Nat.zero_lt_succ 4), .inl (hS.newv 0 rfl), hS.kp⟩
                 | exact ⟨_, _, _, l ++ [x], 0, rfl, .inr ⟨by simpa using hc0, rfl, .inl ⟨rfl, hnk⟩⟩, by rw [List.length_append, hl]; simp, row_cap (hS.rowOk 1 rfl) (Nat.zero_lt_succ 4), .inl (hS.newv 1 rfl), hS.kp⟩)
      · intro K hK
        refine ow_build hS Try.underlying28 tz_37 (bc_takeL (tmA rfl rfl) <| bc_nil) rfl rfl (by kernel_rfl) ?_
        clear hS; intro g5_4 w hg5_4 hS
        refine hK _ _ ?_; clear hK K
        refine rg_step 0 rfl (by kernel_rfl) (want_0) (oks_drop hS 1 rfl) ?_; intro K hK
        refine ow_build0 hS Try.underlying28 tz_37 rfl rfl ?_
        clear hS; intro g5_0 w hg5_0 hS
        refine hK _ _ ?_; clear hK K
        refine rg_step 2 rfl (by kernel_rfl) (want_0) (oks_drop hS 2 rfl) ?_; intro K hK
        refine ow_appendV hS 0 rfl (viewV hS.ok 3 rfl) Try.underlying28 tz_37 rfl (tmS rfl rfl) (tmS rfl rfl) (en_one _) ⟨by decide, by rw [hfl, hl]⟩ (by simp only [maxLen]; omega) (by omega) ?_
        clear hS; intro g5_2 cg5_2 w hA2 hC2 hS
        refine hK _ _ ?_; clear hK K
        refine rg_step 5 rfl (by kernel_rfl) (want_0) (oks_drop hS 2 rfl) ?_; intro K hK
        refine ow_appendV hS 0 rfl (viewB hS.ok 1 rfl) Try.underlying28 tz_37 rfl (tmS rfl rfl) (tmS rfl rfl) (by intro u hu; exact en_one [x] u (by show u ∈ enV x ++ []; rw [List.append_nil]; exact hu)) ⟨by decide, by rfl⟩ (by simp only [maxLen]; omega) (by omega) ?_
        clear hS; intro g5_5 cg5_5 w hA5 hC5 hS
        refine hK _ _ ?_; clear hK K
        refine rg_take 6 rfl rfl (by kernel_rfl) (by kernel_rfl) (by kernel_rfl) (want_0) (fun w hok => x_assign (tmS rfl rfl)) ?_
        refine rg_take 7 rfl rfl (by kernel_rfl) (by kernel_rfl) (by kernel_rfl) (want_0) (fun w hok => x_assign (ev_cN 0)) ?_
        refine rg_done (oks_drop hS 2 rfl) (by kernel_rfl) ?_
        refine then_n (hK8 _ _ ?_); clear hK8 K8
        refine wp_ret ?_
        refine then_r ?_
        refine ret2 rfl (.tmp rfl (show _ = Value.slice _ _ _ from rfl)) (.tmp rfl (show _ = Value.int _ _ from rfl)) ?_
        first
          | exact ⟨L, n, c, l, 1, rfl, .inl ⟨by simpa using hc0, rfl, rfl⟩, hl, hnc, .inr ⟨rfl, rfl⟩, hS.kp⟩
          | exact ⟨_, _, _, l.set k x, 0, rfl, .inr ⟨by simpa using hc0, rfl, .inr ⟨k, rfl, hkl, hkey⟩⟩, by rw [List.length_set]; omega, row_cap (hS.rowOk 0 rfl) (Nat.zero_lt_succ 4), .inl (hS.newv 0 rfl), hS.kp⟩
          | (rw [List.nil_append, show [Value.bool x.a.six, .int .u64 (x.a.high : Int), .int .u64 (x.a.low : Int), .int .i64 x.len, .int .i64 x.val] ++ [] = flat enV [x] from rfl, ← fl_app] at hS
             have hnk : ∀ j, j < l.length → ¬ keyP (l.getD j default) x.a x.len := by
               rcases hr with ⟨_, h⟩ | ⟨k, h, _⟩
               · exact h
               · exfalso; omega
             first
               | exact ⟨_, _, _, l ++ [x], 0, rfl, .inr ⟨by simpa using hc0, rfl, .inl ⟨rfl, hnk⟩⟩, by rw [List.length_append, hl]; simp, row_cap (hS.rowOk 0 rfl) (Nat.zero_lt_succ 4), .inl (hS.newv 0 rfl), hS.kp⟩
               | exact ⟨_, _, _, l ++ [x], 0, rfl, .inr ⟨by simpa using hc0, rfl, .inl ⟨rfl, hnk⟩⟩, by rw [List.length_append, hl]; simp, row_cap (hS.rowOk 1 rfl) (Nat.zero_lt_succ 4), .inl (hS.newv 1 rfl), hS.kp⟩)
   try (exfalso; first | with_reducible exact absurd hc1 Bool.false_ne_true | with_reducible exact absurd hc1.symm Bool.false_ne_true | (simp only [nrm] at hc1; omega) | (simp at hc1; done))
   all_goals
    try simp only [nrm] at hc1
    refine wp_skip ?_
    refine then_n (hK6 _ _ ?_); clear hK6 K6
    refine wp_seq_k ?_; intro K9 hK9
    refine wlit ?_
    refine wl_e rfl ?_; intro K hK
    refine ow_build0 hS Try.underlying28 tz_37 rfl rfl ?_
    clear hS; intro g6_0 w hg6_0 hS
    refine hK _ _ ?_; clear hK K
    refine wl_v (x_move (tmS rfl rfl)) ?_
    refine wl_e rfl ?_; intro K hK
    refine ow_appendV hS 0 rfl (viewV hS.ok 2 rfl) Try.underlying28 tz_37 rfl (tmS rfl rfl) (tmS rfl rfl) (en_one _) ⟨by decide, by rw [hfl, hl]⟩ (by simp only [maxLen]; omega) (by omega) ?_
    clear hS; intro g6_2 cg6_2 w hA2 hC2 hS
    rw [List.nil_append] at hS
    refine hK _ _ ?_; clear hK K
    refine wl_v (x_assign (tmS rfl rfl)) ?_
    refine wl_nil ?_
    refine then_n (hK9 _ _ ?_); clear hK9 K9
    refine wp_seq_k ?_; intro K10 hK10
    obtain ⟨k, rfl, hkl, hkey⟩ : ∃ k : Nat, r = (k : Int) ∧ k < l.length ∧ keyP (l.getD k default) x.a x.len := by
      rcases hr with ⟨h, _⟩ | h
      · omega
      · exact h
    obtain ⟨g62, rfl⟩ := row_some (hS.rowOk 0 rfl) (by omega)
    refine wlit ?_
    refine wl_v (x_move (tmS rfl rfl)) ?_
    refine wl_v (x_move (tmI rfl rfl)) ?_
    refine wl_v (x_loadA (cs := [_, _, _, _, _]) Try.underlying37 rfl ts_37 (tmP rfl rfl) (rangeB hS.ok 1 rfl rfl)) ?_
    refine wl_v (x_ixs Try.underlying28 ts_37 (tmS rfl rfl) (tmI rfl rfl) (by omega)) ?_
    refine wl_e rfl ?_; intro K hK
    refine ow_storeAR (o := k * 5) (cs := enV x) hS 0 rfl ts_37 (tmP rfl rfl) (tmA rfl rfl) rfl rfl (by rw [hfl]; omega) ?_
    clear hS; intro w hS
    rw [fl_splice enV_len _ _ (by omega)] at hS
    refine hK _ _ ?_; clear hK K
    refine wl_nil ?_
    refine then_n (hK10 _ _ ?_); clear hK10 K10
    refine wp_seq_k ?_; intro K11 hK11
    refine wlit ?_
    refine wl_v (x_move (tmS rfl rfl)) ?_
    refine wl_v (x_assign (tmS rfl rfl)) ?_
    refine wl_v (x_assign (ev_cN 0)) ?_
    refine wl_nil ?_
    refine then_n (hK11 _ _ ?_); clear hK11 K11
    refine wp_ret ?_
    refine ret2 rfl (.tmp rfl (show _ = Value.slice _ _ _ from rfl)) (.tmp rfl (show _ = Value.int _ _ from rfl)) ?_
    first
      | exact ⟨L, n, c, l, 1, rfl, .inl ⟨by simpa using hc0, rfl, rfl⟩, hl, hnc, .inr ⟨rfl, rfl⟩, hS.kp⟩
      | exact ⟨_, _, _, l.set k x, 0, rfl, .inr ⟨by simpa using hc0, rfl, .inr ⟨k, rfl, hkl, hkey⟩⟩, by rw [List.length_set]; omega, row_cap (hS.rowOk 0 rfl) (Nat.zero_lt_succ 4), .inl (hS.newv 0 rfl), hS.kp⟩
      | (rw [List.nil_append, show [Value.bool x.a.six, .int .u64 (x.a.high : Int), .int .u64 (x.a.low : Int), .int .i64 x.len, .int .i64 x.val] ++ [] = flat enV [x] from rfl, ← fl_app] at hS
         have hnk : ∀ j, j < l.length → ¬ keyP (l.getD j default) x.a x.len := by
           rcases hr with ⟨_, h⟩ | ⟨k, h, _⟩
           · exact h
           · exfalso; omega
         first
           | exact ⟨_, _, _, l ++ [x], 0, rfl, .inr ⟨by simpa using hc0, rfl, .inl ⟨rfl, hnk⟩⟩, by rw [List.length_append, hl]; simp, row_cap (hS.rowOk 0 rfl) (Nat.zero_lt_succ 4), .inl (hS.newv 0 rfl), hS.kp⟩
           | exact ⟨_, _, _, l ++ [x], 0, rfl, .inr ⟨by simpa using hc0, rfl, .inl ⟨rfl, hnk⟩⟩, by rw [List.length_append, hl]; simp, row_cap (hS.rowOk 1 rfl) (Nat.zero_lt_succ 4), .inl (hS.newv 1 rfl), hS.kp⟩)
def DropR (l : List En) (x : En) (l' : List En) (f : Int) : Prop :=
  ((∀ j, j < l.length → ¬ keyP (l.getD j default) x.a x.len) ∧ l' = l ∧ f = 6) ∨ ∃ k : Nat, l' = l.take k ++ l.drop (k + 1) ∧ k < l.length ∧ keyP (l.getD k default) x.a x.len ∧ f = 0
set_option maxRecDepth 100000 in
set_option maxHeartbeats 8000000 in
theorem lrdrop_c (L : Option Addr) (n c : Nat) (l : List En) (x : En) (w0 : World) (hv : View w0 w0.heap.size L (flat enV l)) (hl : l.length = n) (hn : n ≤ 1000) (hnc : n ≤ c) :
    Calls Try.prog 15 #[.slice L n c, .agg (enV x).toArray] w0 fun e w' => ∃ A' n' c' l' f, e = .returned (.tuple #[.slice A' n' c', .int .i64 f]) ∧ DropR l x l' f ∧ l'.length = n' ∧ n' ≤ c' ∧ (NewV w0 w' A' (flat enV l') ∨ A' = L ∧ l' = l) ∧ Kp [] w0 w' := by
  have hS := (St.sv w0).vcons rfl hv
  have hfl := flat_length (enc := enV) (l := l) enV_len
  refine ent (n := 26) Try.func15 rfl rfl ?_
  refine wp_seq_k ?_; intro K1 hK1
  refine wlit ?_
  refine wl_e rfl ?_; intro K hK
  refine ow_box hS (tmA rfl rfl) rfl ?_
  clear hS; intro g0_0 w hg0_0 hS
  refine hK _ _ ?_; clear hK K
  refine wl_v (x_assign ev_c) ?_
  refine wl_v (x_assign (ev_cN 0)) ?_
  refine wl_nil ?_
  refine then_n (hK1 _ _ ?_); clear hK1 K1
  refine wp_seq_k ?_; intro K2 hK2
  refine wlit ?_
  refine wl_v (x_move (tmS rfl rfl)) ?_
  refine wl_v (x_fa 0 Try.underlying37 rfl rfl ts_25 (tmP rfl rfl)) ?_
  refine wl_v (x_loadA (cs := [_, _, _]) Try.underlying25 rfl ts_25 (tmP rfl rfl) (rangeB hS.ok 0 rfl rfl)) ?_
  refine wl_v (x_fa 3 Try.underlying37 rfl rfl ts_3 (tmP rfl rfl)) ?_
  first
   | refine wl_v (x_load Try.underlying3 rfl (tmP rfl rfl) (cellB hS.ok 0 rfl rfl)) ?_
   | refine wl_v (x_load Try.underlying3 rfl (tmP rfl rfl) (cellB hS.ok 0 rfl (getm (by omega)))) ?_
  refine wl_e rfl ?_; intro K hK
  refine ow_call Try.func28 rfl rfl (evs_cons (tmS rfl rfl) <| evs_cons (tmA rfl rfl) <| evs_cons (tmI rfl rfl) <| evs_nil) (rindex_c L n c l x.a x.len _ (viewV hS.ok 1 rfl) hl hn) ?_
  rintro e w ⟨r, rfl, hr, hk⟩
  refine ⟨_, rfl, ?_⟩
  replace hS := hS.kept hk
  clear hk
  refine hK _ _ ?_; clear hK K
  refine wl_v (x_assign (tmI rfl rfl)) ?_
  refine wl_nil ?_
  refine then_n (hK2 _ _ ?_); clear hK2 K2
  refine wp_seq_k ?_; intro K3 hK3
  refine wp_seq_k ?_; intro K4 hK4
  refine wlit ?_
  refine wl_v (x_move (tmI rfl rfl)) ?_
  refine wl_v (x_lss (tmI rfl rfl) (ev_cN 0)) ?_
  refine wl_nil ?_
  refine then_n (hK4 _ _ ?_); clear hK4 K4
  refine cnd (tm rfl) (fun hc0 => ?_) (fun hc0 => ?_)
  · try (exfalso; first | with_reducible exact absurd hc0 Bool.false_ne_true | with_reducible exact absurd hc0.symm Bool.false_ne_true | (simp only [nrm] at hc0; omega) | (simp at hc0; done))
    all_goals
     try simp only [nrm] at hc0
     refine wp_seq_k ?_; intro K5 hK5
     refine wlit ?_
     refine wl_v (x_move (tmS rfl rfl)) ?_
     refine wl_v (x_assign (tmS rfl rfl)) ?_
     refine wl_v (x_assign (ev_cN 6)) ?_
     refine wl_nil ?_
     refine then_n (hK5 _ _ ?_); clear hK5 K5
     refine wp_ret ?_
     refine then_r ?_
     refine ret2 rfl (.tmp rfl (show _ = Value.slice _ _ _ from rfl)) (.tmp rfl (show _ = Value.int _ _ from rfl)) ?_
     first
       | (have hnk : ∀ j, j < l.length → ¬ keyP (l.getD j default) x.a x.len := by
            rcases hr with ⟨_, h⟩ | ⟨k, h, _⟩
            · exact h
            · exfalso; omega
          exact ⟨L, n, c, l, 6, rfl, .inl ⟨hnk, rfl, rfl⟩, hl, hnc, .inr ⟨rfl, rfl⟩, hS.kp⟩)
       | exact ⟨_, _, _, l.take k ++ l.drop (k + 1), 0, rfl, .inr ⟨k, rfl, hkl, hkey, rfl⟩, by rw [List.length_append, List.length_take, List.length_drop]; omega, row_cap (hS.rowOk 0 rfl) (Nat.zero_lt_succ 4), .inl (hS.newv 0 rfl), hS.kp⟩
  try (exfalso; first | with_reducible exact absurd hc0 Bool.false_ne_true | with_reducible exact absurd hc0.symm Bool.false_ne_true | (simp only [nrm] at hc0; omega) | (simp at hc0; done))
  all_goals
   try simp only [nrm] at hc0
   refine wp_skip ?_
   refine then_n (hK3 _ _ ?_); clear hK3 K3
   refine wp_seq_k ?_; intro K6 hK6
   obtain ⟨k, rfl, hkl, hkey⟩ : ∃ k : Nat, r = (k : Int) ∧ k < l.length ∧ keyP (l.getD k default) x.a x.len := by
     rcases hr with ⟨h, _⟩ | h
     · omega
     · exact h
   refine rg_startk 0 hS mixed_ ?_
   clear hS; intro w hS
   refine rg_take 1 rfl rfl (by kernel_rfl) (by kernel_rfl) (by kernel_rfl) (want_0) (fun w hok => x_move (tmS rfl rfl)) ?_
   refine rg_take 2 rfl rfl (by kernel_rfl) (by kernel_rfl) (by kernel_rfl) (want_0) (fun w hok => x_move (tmI rfl rfl)) ?_
   refine rg_take 3 rfl rfl (by kernel_rfl) (by kernel_rfl) (by kernel_rfl) (want_0) (fun w hok => x_sliceH Try.underlying28 ts_37 (tmS rfl rfl) (tmI rfl rfl) (by omega)) ?_
   refine rg_take 5 rfl rfl (by kernel_rfl) (by kernel_rfl) (by kernel_rfl) (want_0) (fun w hok => x_move (tmS rfl rfl)) ?_
   refine rg_take 6 rfl rfl (by kernel_rfl) (by kernel_rfl) (by kernel_rfl) (want_0) (fun w hok => x_move (tmI rfl rfl)) ?_
   first
    | refine rg_take 7 rfl rfl (by kernel_rfl) (by kernel_rfl) (by kernel_rfl) (want_0) (fun w hok => x_addN (tmI rfl rfl) (ev_cN 1) (fit_i64 (by omega))) ?_
    | refine rg_take 7 rfl rfl (by kernel_rfl) (by kernel_rfl) (by kernel_rfl) (want_0) (fun w hok => x_addI (tmI rfl rfl) (ev_cN 1) (IntWalk.i64_in _ (by omega))) ?_
    | refine rg_take 7 rfl rfl (by kernel_rfl) (by kernel_rfl) (by kernel_rfl) (want_0) (fun w hok => x_add (tmI rfl rfl) (ev_cN 1)) ?_
   refine rg_take 8 rfl rfl (by kernel_rfl) (by kernel_rfl) (by kernel_rfl) (want_0) (fun w hok => x_sliceL Try.underlying28 ts_37 (tmS rfl rfl) (tmI rfl rfl) (by omega)) ?_
   refine rg_step 0 rfl (by kernel_rfl) (want_0) (oks_drop hS 0 rfl) ?_; intro K hK
   refine ow_build0 hS Try.underlying28 tz_37 rfl rfl ?_
   clear hS; intro g4_0 w hg4_0 hS
   refine hK _ _ ?_; clear hK K
   refine rg_step 4 rfl (by kernel_rfl) (want_0) (oks_drop hS 1 rfl) ?_; intro K hK
   refine ow_appendV hS 0 rfl (fl_vtake enV_len (by decide) (viewV hS.ok 2 rfl) (by omega) k) Try.underlying28 tz_37 rfl (tmS rfl rfl) (tmS rfl rfl) (en_one _) ⟨by decide, by rw [flat_length enV_len, List.length_take]; omega⟩ (by simp only [maxLen]; omega) (by omega) ?_
   clear hS; intro g4_4 cg4_4 w hA4 hC4 hS
   refine hK _ _ ?_; clear hK K
   refine rg_step 9 rfl (by kernel_rfl) (want_0) (oks_drop hS 1 rfl) ?_; intro K hK
   refine ow_appendV hS 0 rfl (fl_vdrop enV_len (by decide) (viewV hS.ok 2 rfl) (by omega) (k + 1)) Try.underlying28 tz_37 rfl (tmS rfl rfl) (tmS rfl rfl) (en_one _) ⟨by decide, by rw [flat_length enV_len, List.length_drop, hl]⟩ (by simp only [maxLen]; omega) (by omega) ?_
   clear hS; intro g4_9 cg4_9 w hA9 hC9 hS
   rw [List.nil_append, ← fl_app] at hS
   refine hK _ _ ?_; clear hK K
   refine rg_take 10 rfl rfl (by kernel_rfl) (by kernel_rfl) (by kernel_rfl) (want_0) (fun w hok => x_assign (tmS rfl rfl)) ?_
   refine rg_take 11 rfl rfl (by kernel_rfl) (by kernel_rfl) (by kernel_rfl) (want_0) (fun w hok => x_assign (ev_cN 0)) ?_
   refine rg_done (oks_drop hS 1 rfl) (by kernel_rfl) ?_
   refine then_n (hK6 _ _ ?_); clear hK6 K6
   refine wp_ret ?_
   refine ret2 rfl (.tmp rfl (show _ = Value.slice _ _ _ from rfl)) (.tmp rfl (show _ = Value.int _ _ from rfl)) ?_
   first
     | (have hnk : ∀ j, j < l.length → ¬ keyP (l.getD j default) x.a x.len := by
          rcases hr with ⟨_, h⟩ | ⟨k, h, _⟩
          · exact h
          · exfalso; omega
        exact ⟨L, n, c, l, 6, rfl, .inl ⟨hnk, rfl, rfl⟩, hl, hnc, .inr ⟨rfl, rfl⟩, hS.kp⟩)
     | exact ⟨_, _, _, l.take k ++ l.drop (k + 1), 0, rfl, .inr ⟨k, rfl, hkl, hkey, rfl⟩, by rw [List.length_append, List.length_take, List.length_drop]; omega, row_cap (hS.rowOk 0 rfl) (Nat.zero_lt_succ 4), .inl (hS.newv 0 rfl), hS.kp⟩
end Go.Proofs.Ytlpgedncnefaoaa
