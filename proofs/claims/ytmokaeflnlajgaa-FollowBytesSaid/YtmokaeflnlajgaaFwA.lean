
/- follow: what is right, by both. Conditions: none but bounds. -/
import Derived.Test.YtmokaeflnlajgaaRdT
import Derived.Test.YtmokaeflnlajgaaRws
import Derived.Test.YtmokaeflnlajgaaO
namespace Go.Proofs.Ytmokaeflnlajgaa
open Go.ChangeShapes Go.WideShapes Go.ChangeAt Go.RowKit
def slV (s : Sl Nat) : List Value := [.slice s.a s.l.length s.c]
def fmV (kind : Int) (num : Nat) (L : Option Addr) (n c : Nat) : List Value := [.int .i64 kind, .int .u64 (num : Int), .slice L n c]
def cntP (kind : Int) (n : Nat) : Prop := (kind = 1 ∧ 1 ≤ n ∧ n ≤ 16) ∨ (kind = 2 ∧ n = 1) ∨ (kind = 3 ∧ n = 0)
instance (kind : Int) (n : Nat) : Decidable (cntP kind n) := by unfold cntP; exact inferInstance
theorem cntP_iff {kind : Int} {n : Nat} : cntP kind n ↔ (kind = 1 ∧ 1 ≤ n ∧ n ≤ 16) ∨ (kind = 2 ∧ n = 1) ∨ (kind = 3 ∧ n = 0) := Iff.rfl
def frP (kind : Int) (rows : List Row3) : Prop := (∀ r ∈ rows, r.2.1.length ≤ 65535) ∧ cntP kind rows.length
instance (kind : Int) (rows : List Row3) : Decidable (frP kind rows) := by unfold frP; exact inferInstance
theorem frow_at {rows : List Row3} {k : Nat} (h : k < rows.length) : (rows.map rowV)[k]? = some (.slice (rows.getD k default).1 (rows.getD k default).2.1.length (rows.getD k default).2.2) := by
  rw [List.getElem?_map, List.getD_eq_getElem?_getD, List.getElem?_eq_getElem h]; rfl
theorem frow_mem {rows : List Row3} {k : Nat} (h : k < rows.length) : rows.getD k default ∈ rows := by
  rw [List.getD_eq_getElem?_getD, List.getElem?_eq_getElem h]
  exact List.getElem_mem _
theorem all_rows {rows : List Row3} {n : Nat} {p : Row3 → Prop} (hl : rows.length = n) (h : ∀ j, j < n → p (rows.getD j default)) : ∀ r ∈ rows, p r := by
  intro r hr
  obtain ⟨i, hi, rfl⟩ := List.getElem_of_mem hr
  have := h i (by omega)
  rwa [List.getD_eq_getElem?_getD, List.getElem?_eq_getElem hi] at this
set_option maxRecDepth 100000 in
set_option maxHeartbeats 4000000 in
theorem rcount_c (kind : Int) (n : Nat) (w0 : World) (hn : n ≤ 9223372036854775807) : Calls Try.prog 23 #[.int .i64 kind, .int .i64 (n : Int)] w0 fun e w' => e = .returned (.bool (decide (cntP kind n))) ∧ Kp [] w0 w' := by
  have hS := St.sv w0
  refine ent (n := 22) Try.func23 rfl rfl ?_
  refine wp_seq_k ?_; intro K1 hK1
  refine wlit ?_
  refine wl_v (x_assign ev_c) ?_
  refine wl_nil ?_
  refine then_n (hK1 _ _ ?_); clear hK1 K1
  refine wp_seq_k ?_; intro K2 hK2
  refine wp_seq_k ?_; intro K3 hK3
  refine wlit ?_
  refine wl_v (x_move (tmI rfl rfl)) ?_
  refine wl_nil ?_
  refine then_n (hK3 _ _ ?_); clear hK3 K3
  refine wp_block ?_
  refine wp_seq_k ?_; intro K4 hK4
  refine wlit ?_
  refine wl_v (x_eql (tmI rfl rfl) (ev_cN 1)) ?_
  refine wl_v (x_assign (tmB rfl rfl)) ?_
  refine wl_nil ?_
  refine then_n (hK4 _ _ ?_); clear hK4 K4
  refine cnd (tm rfl) (fun hc0 => ?_) (fun hc0 => ?_)
  · try (exfalso; first | with_reducible exact absurd hc0 Bool.false_ne_true | with_reducible exact absurd hc0.symm Bool.false_ne_true | (simp only [nrm] at hc0; omega) | (simp at hc0; done))
    all_goals
     try simp only [nrm] at hc0
     refine wp_seq_k ?_; intro K5 hK5
     refine wlit ?_
     refine wl_v (x_move (tmI rfl rfl)) ?_
     refine wl_v (x_geq (tmI rfl rfl) (ev_cN 1)) ?_
     refine wl_v (x_move (tmB rfl rfl)) ?_
     refine gs_wl (tm (t := 10) rfl) (fun hg3_2 => ?_) (fun hg3_2 => ?_)
     · have hg3_2' := hg3_2; (try simp only [nrm] at hg3_2'); try (exfalso; first | with_reducible exact absurd hg3_2 Bool.false_ne_true | with_reducible exact absurd hg3_2.symm Bool.false_ne_true | omega | (simp at hg3_2; done))
       all_goals
        refine wl_gv (want_y rfl rfl rfl rfl (by rw [hg3_2]; rfl)) (x_move (tmI rfl rfl)) ?_
        refine wl_gv (want_y rfl rfl rfl rfl (by rw [hg3_2]; rfl)) (x_leq (tmI rfl rfl) (ev_cN 16)) ?_
        refine wl_v (x_pickT (tmB rfl rfl) hg3_2 (tmB rfl rfl)) ?_
        refine wl_v (x_assign (tmB rfl rfl)) ?_
        refine wl_nil ?_
        refine then_n (hK5 _ _ ?_); clear hK5 K5
        refine wp_ret ?_
        refine inb_r ?_
        refine then_r ?_
        refine ret1 rfl (.tmp rfl (show _ = Value.bool _ from rfl)) ?_
        refine ⟨ret_bool ?_, hS.kp⟩
        cases hd : decide (cntP kind n)
        · have hq := of_decide_eq_false hd
          rw [cntP_iff] at hq
          first
            | done
            | rfl
            | (simp only [decide_eq_false_iff_not]; omega)
            | (exfalso; omega)
        · have hq := of_decide_eq_true hd
          rw [cntP_iff] at hq
          first
            | (simp only [decide_eq_true_eq]; omega)
            | (exfalso; omega)
     have hg3_2' := hg3_2; (try simp only [nrm] at hg3_2'); try (exfalso; first | with_reducible exact absurd hg3_2 Bool.false_ne_true | with_reducible exact absurd hg3_2.symm Bool.false_ne_true | omega | (simp at hg3_2; done))
     all_goals
      refine wl_s rfl (want_n rfl rfl rfl rfl (by rw [hg3_2]; rfl)) ?_
      refine wl_s rfl (want_n rfl rfl rfl rfl (by rw [hg3_2]; rfl)) ?_
      refine wl_v (x_pickF (tmB rfl rfl) hg3_2 ev_c) ?_
      refine wl_v (x_assign (tmB rfl rfl)) ?_
      refine wl_nil ?_
      refine then_n (hK5 _ _ ?_); clear hK5 K5
      refine wp_ret ?_
      refine inb_r ?_
      refine then_r ?_
      refine ret1 rfl (.tmp rfl (show _ = Value.bool _ from rfl)) ?_
      refine ⟨ret_bool ?_, hS.kp⟩
      cases hd : decide (cntP kind n)
      · have hq := of_decide_eq_false hd
        rw [cntP_iff] at hq
        first
          | done
          | rfl
          | (simp only [decide_eq_false_iff_not]; omega)
          | (exfalso; omega)
      · have hq := of_decide_eq_true hd
        rw [cntP_iff] at hq
        first
          | (simp only [decide_eq_true_eq]; omega)
          | (exfalso; omega)
  try (exfalso; first | with_reducible exact absurd hc0 Bool.false_ne_true | with_reducible exact absurd hc0.symm Bool.false_ne_true | (simp only [nrm] at hc0; omega) | (simp at hc0; done))
  all_goals
   try simp only [nrm] at hc0
   refine wp_seq_k ?_; intro K6 hK6
   refine wlit ?_
   refine wl_v (x_eql (tmI rfl rfl) (ev_cN 2)) ?_
   refine wl_v (x_assign (tmB rfl rfl)) ?_
   refine wl_nil ?_
   refine then_n (hK6 _ _ ?_); clear hK6 K6
   refine cnd (tm rfl) (fun hc1 => ?_) (fun hc1 => ?_)
   · try (exfalso; first | with_reducible exact absurd hc1 Bool.false_ne_true | with_reducible exact absurd hc1.symm Bool.false_ne_true | (simp only [nrm] at hc1; omega) | (simp at hc1; done))
     all_goals
      try simp only [nrm] at hc1
      refine wp_seq_k ?_; intro K7 hK7
      refine wlit ?_
      refine wl_v (x_move (tmI rfl rfl)) ?_
      refine wl_v (x_eql (tmI rfl rfl) (ev_cN 1)) ?_
      refine wl_v (x_assign (tmB rfl rfl)) ?_
      refine wl_nil ?_
      refine then_n (hK7 _ _ ?_); clear hK7 K7
      refine wp_ret ?_
      refine inb_r ?_
      refine then_r ?_
      refine ret1 rfl (.tmp rfl (show _ = Value.bool _ from rfl)) ?_
      refine ⟨ret_bool ?_, hS.kp⟩
      cases hd : decide (cntP kind n)
      · have hq := of_decide_eq_false hd
        rw [cntP_iff] at hq
        first
          | done
          | rfl
          | (simp only [decide_eq_false_iff_not]; omega)
          | (exfalso; omega)
      · have hq := of_decide_eq_true hd
        rw [cntP_iff] at hq
        first
          | (simp only [decide_eq_true_eq]; omega)
          | (exfalso; omega)
   try (exfalso; first | with_reducible exact absurd hc1 Bool.false_ne_true | with_reducible exact absurd hc1.symm Bool.false_ne_true | (simp only [nrm] at hc1; omega) | (simp at hc1; done))
   all_goals
    try simp only [nrm] at hc1
    refine wp_seq_k ?_; intro K8 hK8
    refine wlit ?_
    refine wl_v (x_eql (tmI rfl rfl) (ev_cN 3)) ?_
    refine wl_v (x_assign (tmB rfl rfl)) ?_
    refine wl_nil ?_
    refine then_n (hK8 _ _ ?_); clear hK8 K8
    refine cnd (tm rfl) (fun hc2 => ?_) (fun hc2 => ?_)
    · try (exfalso; first | with_reducible exact absurd hc2 Bool.false_ne_true | with_reducible exact absurd hc2.symm Bool.false_ne_true | (simp only [nrm] at hc2; omega) | (simp at hc2; done))
      all_goals
       try simp only [nrm] at hc2
       refine wp_seq_k ?_; intro K9 hK9
       refine wlit ?_
       refine wl_v (x_move (tmI rfl rfl)) ?_
       refine wl_v (x_eql (tmI rfl rfl) (ev_cN 0)) ?_
       refine wl_v (x_assign (tmB rfl rfl)) ?_
       refine wl_nil ?_
       refine then_n (hK9 _ _ ?_); clear hK9 K9
       refine wp_ret ?_
       refine inb_r ?_
       refine then_r ?_
       refine ret1 rfl (.tmp rfl (show _ = Value.bool _ from rfl)) ?_
       refine ⟨ret_bool ?_, hS.kp⟩
       cases hd : decide (cntP kind n)
       · have hq := of_decide_eq_false hd
         rw [cntP_iff] at hq
         first
           | done
           | rfl
           | (simp only [decide_eq_false_iff_not]; omega)
           | (exfalso; omega)
       · have hq := of_decide_eq_true hd
         rw [cntP_iff] at hq
         first
           | (simp only [decide_eq_true_eq]; omega)
           | (exfalso; omega)
    try (exfalso; first | with_reducible exact absurd hc2 Bool.false_ne_true | with_reducible exact absurd hc2.symm Bool.false_ne_true | (simp only [nrm] at hc2; omega) | (simp at hc2; done))
    all_goals
     try simp only [nrm] at hc2
     refine wp_skip ?_
     refine inb_n ?_
     refine then_n (hK2 _ _ ?_); clear hK2 K2
     refine wp_seq_k ?_; intro K10 hK10
     refine wlit ?_
     refine wl_v (x_assign ev_c) ?_
     refine wl_nil ?_
     refine then_n (hK10 _ _ ?_); clear hK10 K10
     refine wp_ret ?_
     refine ret1 rfl (.tmp rfl (show _ = Value.bool _ from rfl)) ?_
     refine ⟨ret_bool ?_, hS.kp⟩
     cases hd : decide (cntP kind n)
     · have hq := of_decide_eq_false hd
       rw [cntP_iff] at hq
       first
         | done
         | rfl
         | (simp only [decide_eq_false_iff_not]; omega)
         | (exfalso; omega)
     · have hq := of_decide_eq_true hd
       rw [cntP_iff] at hq
       first
         | (simp only [decide_eq_true_eq]; omega)
         | (exfalso; omega)
set_option maxRecDepth 100000 in
set_option maxHeartbeats 4000000 in
theorem fright_c (kind : Int) (num : Nat) (L : Option Addr) (n c : Nat) (rows : List Row3) (w0 : World) (hv : View w0 w0.heap.size L (rows.map rowV)) (hl : rows.length = n) (hn : n ≤ 9223372036854775807) (hle : ∀ r ∈ rows, r.2.1.length ≤ 9223372036854775807) :
    Calls Try.prog 10 #[.agg (fmV kind num L n c).toArray] w0 fun e w' => e = .returned (.bool (decide (frP kind rows))) ∧ Kp [] w0 w' := by
  have hS := (St.sv w0).vcons rfl hv
  refine ent (n := 22) Try.func10 rfl rfl ?_
  refine wp_seq_k ?_; intro K1 hK1
  refine wlit ?_
  refine wl_e rfl ?_; intro K hK
  refine ow_box hS (tmA rfl rfl) rfl ?_
  clear hS; intro g0_0 w hg0_0 hS
  refine hK _ _ ?_; clear hK K
  refine wl_v (x_assign ev_c) ?_
  refine wl_nil ?_
  refine then_n (hK1 _ _ ?_); clear hK1 K1
  refine wp_seq_k ?_; intro K2 hK2
  refine wp_seq_k ?_; intro K3 hK3
  refine wlit ?_
  refine wl_v (x_fa 2 Try.underlying29 rfl rfl ts_23 (tmP rfl rfl)) ?_
  first
   | refine wl_v (x_load Try.underlying23 rfl (tmP rfl rfl) (cellB hS.ok 0 rfl rfl)) ?_
   | refine wl_v (x_load Try.underlying23 rfl (tmP rfl rfl) (cellB hS.ok 0 rfl (getm (by omega)))) ?_
  refine wl_v (x_len Try.underlying23 (tmS rfl rfl)) ?_
  refine wl_v (x_move (ev_cN 0)) ?_
  refine wl_nil ?_
  refine then_n (hK3 _ _ ?_); clear hK3 K3
  refine wp_block ?_
  refine lp [2, 4, 8, 9, 10, 11, 12, 13, 14, 15] (fun mz g w => ∃ (k : Nat), mz = n - k ∧ g 8 = .int .i64 (k : Int) ∧ St [] w0 [.blk g0_0 29 (fmV kind num L n c), .vw L (rows.map rowV)] w ∧ (k ≤ n) ∧ (∀ j, j < k → (rows.getD j default).2.1.length ≤ 65535)) ?_ ?_
  · exact ⟨_, 0, rfl, (by first | rfl | go_num | exact congrArg (Value.int _) (by first | omega | (simp; done) | (simp; omega))), hS, (by omega), (by first | exact hsm2 | exact (fun j hj => absurd hj (Nat.not_lt_zero j)))⟩
  · clear hS; intro mz g w hI
    obtain ⟨k, rfl, hs8, hS, hk, hsm⟩ := hI
    refine fr_know (d := 8) hs8 ?_; clear hs8
    refine wp_seq_k ?_; intro K4 hK4
    refine wlit ?_
    refine wl_v (x_lss (tmI rfl rfl) (tmI rfl rfl)) ?_
    refine wl_nil ?_
    refine then_n (hK4 _ _ ?_); clear hK4 K4
    refine wp_seq_k ?_; intro K5 hK5
    refine cnd (tm rfl) (fun hc0 => ?_) (fun hc0 => ?_)
    · try (exfalso; first | with_reducible exact absurd hc0 Bool.false_ne_true | with_reducible exact absurd hc0.symm Bool.false_ne_true | (simp only [nrm] at hc0; omega) | (simp at hc0; done))
      all_goals
       try simp only [nrm] at hc0
       refine wp_skip ?_
       refine then_n (hK5 _ _ ?_); clear hK5 K5
       refine wp_seq_k ?_; intro K6 hK6
       refine wp_block ?_
       refine wp_seq_k ?_; intro K7 hK7
       obtain ⟨b4, o4, rfl⟩ := view_some (viewV hS.ok 1 rfl) (by rw [List.length_map]; omega)
       have hlk := hle _ (frow_mem (rows := rows) (k := k) (by omega))
       refine wlit ?_
       refine wl_v (x_ixs1 Try.underlying23 ts_26 (tmS rfl rfl) (tmI rfl rfl) (by omega)) ?_
       refine wl_v (x_load (v := .slice (rows.getD k default).1 (rows.getD k default).2.1.length (rows.getD k default).2.2) Try.underlying26 rfl (tmP rfl rfl) (cellV hS.ok 1 rfl (frow_at (by omega)))) ?_
       refine wl_v (x_assign (tmS rfl rfl)) ?_
       refine wl_nil ?_
       refine then_n (hK7 _ _ ?_); clear hK7 K7
       refine wp_seq_k ?_; intro K8 hK8
       refine wlit ?_
       refine wl_v (x_move (tmS rfl rfl)) ?_
       refine wl_v (x_len Try.underlying26 (tmS rfl rfl)) ?_
       refine wl_v (x_gtr (tmI rfl rfl) (ev_cN 65535)) ?_
       refine wl_nil ?_
       refine then_n (hK8 _ _ ?_); clear hK8 K8
       refine cnd (tm rfl) (fun hc1 => ?_) (fun hc1 => ?_)
       · try (exfalso; first | with_reducible exact absurd hc1 Bool.false_ne_true | with_reducible exact absurd hc1.symm Bool.false_ne_true | (simp only [nrm] at hc1; omega) | (simp at hc1; done))
         all_goals
          try simp only [nrm] at hc1
          refine wp_seq_k ?_; intro K9 hK9
          refine wlit ?_
          refine wl_v (x_assign ev_c) ?_
          refine wl_nil ?_
          refine then_n (hK9 _ _ ?_); clear hK9 K9
          refine wp_ret ?_
          refine inb_r ?_
          refine then_r ?_
          refine then_r ?_
          refine inb_r ?_
          refine then_r ?_
          refine ret1 rfl (.tmp rfl (show _ = Value.bool _ from rfl)) ?_
          first
            | (have hb : ¬ frP kind rows := fun h => by have := h.1 _ (frow_mem (rows := rows) (k := k) (by omega)); omega
               exact ⟨by rw [decide_eq_false hb], hS.kp⟩)
            | (have hall : ∀ r ∈ rows, r.2.1.length ≤ 65535 := all_rows (p := fun r => r.2.1.length ≤ 65535) hl fun j hj => hsm j (by omega)
               have hb : decide (cntP kind n) = decide (frP kind rows) := by rw [decide_eq_decide]; unfold frP; rw [hl]; exact ⟨fun h => ⟨hall, h⟩, fun h => h.2⟩
               exact ⟨by rw [hb], hS.kp⟩)
       try (exfalso; first | with_reducible exact absurd hc1 Bool.false_ne_true | with_reducible exact absurd hc1.symm Bool.false_ne_true | (simp only [nrm] at hc1; omega) | (simp at hc1; done))
       all_goals
        try simp only [nrm] at hc1
        refine wp_skip ?_
        refine inb_n ?_
        refine then_n (hK6 _ _ ?_); clear hK6 K6
        refine wlit ?_
        first
         | refine wl_v (x_addN (tmI rfl rfl) (ev_cN 1) (fit_i64 (by omega))) ?_
         | refine wl_v (x_addI (tmI rfl rfl) (ev_cN 1) (IntWalk.i64_in _ (by omega))) ?_
         | refine wl_v (x_add (tmI rfl rfl) (ev_cN 1)) ?_
        refine wl_v (x_move (tmI rfl rfl)) ?_
        refine wl_nil ?_
        have hsm2 : ∀ j, j < k + 1 → (rows.getD j default).2.1.length ≤ 65535 := fun j hj => by rcases (by omega : j < k ∨ j = k) with h | rfl; exact hsm j h; omega
        exact then_n ⟨_, _, rfl, (by show _ < _; omega), (by repeat (first | exact agree_self | exact agree_refl | refine agree_upd rfl ?_ | refine agree_mix rfl ?_)), k + 1, rfl, (by first | rfl | go_num | exact congrArg (Value.int _) (by first | omega | (simp; done) | (simp; omega))), hS, (by omega), (by first | exact hsm2 | exact (fun j hj => absurd hj (Nat.not_lt_zero j)))⟩
    try (exfalso; first | with_reducible exact absurd hc0 Bool.false_ne_true | with_reducible exact absurd hc0.symm Bool.false_ne_true | (simp only [nrm] at hc0; omega) | (simp at hc0; done))
    all_goals
     try simp only [nrm] at hc0
     refine wp_exit ?_
     refine then_x ?_; clear hK5 K5
     refine then_x ?_
     refine inb_x ?_
     refine then_n (hK2 _ _ ?_); clear hK2 K2
     refine wp_seq_k ?_; intro K10 hK10
     refine wlit ?_
     refine wl_v (x_fa 0 Try.underlying29 rfl rfl ts_3 (tmP rfl rfl)) ?_
     first
      | refine wl_v (x_load Try.underlying3 rfl (tmP rfl rfl) (cellB hS.ok 0 rfl rfl)) ?_
      | refine wl_v (x_load Try.underlying3 rfl (tmP rfl rfl) (cellB hS.ok 0 rfl (getm (by omega)))) ?_
     refine wl_v (x_fa 2 Try.underlying29 rfl rfl ts_23 (tmP rfl rfl)) ?_
     first
      | refine wl_v (x_load Try.underlying23 rfl (tmP rfl rfl) (cellB hS.ok 0 rfl rfl)) ?_
      | refine wl_v (x_load Try.underlying23 rfl (tmP rfl rfl) (cellB hS.ok 0 rfl (getm (by omega)))) ?_
     refine wl_v (x_len Try.underlying23 (tmS rfl rfl)) ?_
     refine wl_e rfl ?_; intro K hK
     refine ow_call Try.func23 rfl rfl (evs_cons (tmI rfl rfl) <| evs_cons (tmI rfl rfl) <| evs_nil) (rcount_c kind n _ hn) ?_
     rintro e w ⟨rfl, hk2⟩
     refine ⟨_, rfl, ?_⟩
     replace hS := hS.kept hk2
     clear hk2
     refine hK _ _ ?_; clear hK K
     refine wl_v (x_assign (tmB rfl rfl)) ?_
     refine wl_nil ?_
     refine then_n (hK10 _ _ ?_); clear hK10 K10
     refine wp_ret ?_
     refine ret1 rfl (.tmp rfl (show _ = Value.bool _ from rfl)) ?_
     first
       | (have hb : ¬ frP kind rows := fun h => by have := h.1 _ (frow_mem (rows := rows) (k := k) (by omega)); omega
          exact ⟨by rw [decide_eq_false hb], hS.kp⟩)
       | (have hall : ∀ r ∈ rows, r.2.1.length ≤ 65535 := all_rows (p := fun r => r.2.1.length ≤ 65535) hl fun j hj => hsm j (by omega)
          have hb : decide (cntP kind n) = decide (frP kind rows) := by rw [decide_eq_decide]; unfold frP; rw [hl]; exact ⟨fun h => ⟨hall, h⟩, fun h => h.2⟩
          exact ⟨by rw [hb], hS.kp⟩)
set_option maxRecDepth 100000 in
set_option maxHeartbeats 4000000 in
theorem rfright_c (kind : Int) (num : Nat) (L : Option Addr) (n c : Nat) (rows : List Row3) (w0 : World) (hv : View w0 w0.heap.size L (rows.map rowV)) (hl : rows.length = n) (hn : n ≤ 9223372036854775807) (hle : ∀ r ∈ rows, r.2.1.length ≤ 9223372036854775807) :
    Calls Try.prog 11 #[.agg (fmV kind num L n c).toArray] w0 fun e w' => e = .returned (.bool (decide (frP kind rows))) ∧ Kp [] w0 w' := by
  have hS := (St.sv w0).vcons rfl hv
  by_cases h3 : kind = 1 ∨ kind = 2 ∨ kind = 3
  case neg =>
    refine ent (n := 44) Try.func11 rfl rfl ?_
    refine wp_seq_k ?_; intro K1 hK1
    refine wlit ?_
    refine wl_e rfl ?_; intro K hK
    refine ow_box hS (tmA rfl rfl) rfl ?_
    clear hS; intro g0_0 w hg0_0 hS
    refine hK _ _ ?_; clear hK K
    refine wl_v (x_assign ev_c) ?_
    refine wl_nil ?_
    refine then_n (hK1 _ _ ?_); clear hK1 K1
    refine wp_seq_k ?_; intro K2 hK2
    refine wlit ?_
    refine wl_v (x_assign (ev_cN 0)) ?_
    refine wl_v (x_assign (ev_cN 0)) ?_
    refine wl_nil ?_
    refine then_n (hK2 _ _ ?_); clear hK2 K2
    refine wp_seq_k ?_; intro K3 hK3
    refine wp_seq_k ?_; intro K4 hK4
    refine wlit ?_
    refine wl_v (x_fa 0 Try.underlying25 rfl rfl ts_3 (tmP rfl rfl)) ?_
    first
     | refine wl_v (x_load Try.underlying3 rfl (tmP rfl rfl) (cellB hS.ok 0 rfl rfl)) ?_
     | refine wl_v (x_load Try.underlying3 rfl (tmP rfl rfl) (cellB hS.ok 0 rfl (getm (by omega)))) ?_
    refine wl_nil ?_
    refine then_n (hK4 _ _ ?_); clear hK4 K4
    refine wp_block ?_
    refine wp_seq_k ?_; intro K5 hK5
    refine wlit ?_
    refine wl_v (x_eql (tmI rfl rfl) (ev_cN 1)) ?_
    refine wl_v (x_assign (tmB rfl rfl)) ?_
    refine wl_nil ?_
    refine then_n (hK5 _ _ ?_); clear hK5 K5
    refine cnd (tm rfl) (fun hc0 => ?_) (fun hc0 => ?_)
    · exfalso
      simp only [nrm] at hc0
      omega
    try (exfalso; first | with_reducible exact absurd hc0 Bool.false_ne_true | with_reducible exact absurd hc0.symm Bool.false_ne_true | (simp only [nrm] at hc0; omega) | (simp at hc0; done))
    all_goals
     try simp only [nrm] at hc0
     refine wp_seq_k ?_; intro K6 hK6
     refine wlit ?_
     refine wl_v (x_eql (tmI rfl rfl) (ev_cN 2)) ?_
     refine wl_v (x_assign (tmB rfl rfl)) ?_
     refine wl_nil ?_
     refine then_n (hK6 _ _ ?_); clear hK6 K6
     refine cnd (tm rfl) (fun hc1 => ?_) (fun hc1 => ?_)
     · exfalso
       simp only [nrm] at hc1
       omega
     try (exfalso; first | with_reducible exact absurd hc1 Bool.false_ne_true | with_reducible exact absurd hc1.symm Bool.false_ne_true | (simp only [nrm] at hc1; omega) | (simp at hc1; done))
     all_goals
      try simp only [nrm] at hc1
      refine wp_seq_k ?_; intro K7 hK7
      refine wlit ?_
      refine wl_v (x_eql (tmI rfl rfl) (ev_cN 3)) ?_
      refine wl_v (x_assign (tmB rfl rfl)) ?_
      refine wl_nil ?_
      refine then_n (hK7 _ _ ?_); clear hK7 K7
      refine cnd (tm rfl) (fun hc2 => ?_) (fun hc2 => ?_)
      · exfalso
        simp only [nrm] at hc2
        omega
      try (exfalso; first | with_reducible exact absurd hc2 Bool.false_ne_true | with_reducible exact absurd hc2.symm Bool.false_ne_true | (simp only [nrm] at hc2; omega) | (simp at hc2; done))
      all_goals
       try simp only [nrm] at hc2
       refine wp_seq_k ?_; intro K8 hK8
       refine wlit ?_
       refine wl_v (x_assign ev_c) ?_
       refine wl_nil ?_
       refine then_n (hK8 _ _ ?_); clear hK8 K8
       refine wp_ret ?_
       refine inb_r ?_
       refine then_r ?_
       refine ret1 rfl (.tmp rfl (show _ = Value.bool _ from rfl)) ?_
       exact ⟨ret_bool (decide_eq_false fun h => by have := h.2; unfold cntP at this; omega).symm, hS.kp⟩
  refine ent (n := 44) Try.func11 rfl rfl ?_
  refine wp_seq_k ?_; intro K1 hK1
  refine wlit ?_
  refine wl_e rfl ?_; intro K hK
  refine ow_box hS (tmA rfl rfl) rfl ?_
  clear hS; intro g0_0 w hg0_0 hS
  refine hK _ _ ?_; clear hK K
  refine wl_v (x_assign ev_c) ?_
  refine wl_nil ?_
  refine then_n (hK1 _ _ ?_); clear hK1 K1
  refine wp_seq_k ?_; intro K2 hK2
  refine wlit ?_
  refine wl_v (x_assign (ev_cN 0)) ?_
  refine wl_v (x_assign (ev_cN 0)) ?_
  refine wl_nil ?_
  refine then_n (hK2 _ _ ?_); clear hK2 K2
  refine wp_seq_k ?_; intro K3 hK3
  refine wp_seq_k ?_; intro K4 hK4
  refine wlit ?_
  refine wl_v (x_fa 0 Try.underlying25 rfl rfl ts_3 (tmP rfl rfl)) ?_
  first
   | refine wl_v (x_load Try.underlying3 rfl (tmP rfl rfl) (cellB hS.ok 0 rfl rfl)) ?_
   | refine wl_v (x_load Try.underlying3 rfl (tmP rfl rfl) (cellB hS.ok 0 rfl (getm (by omega)))) ?_
  refine wl_nil ?_
  refine then_n (hK4 _ _ ?_); clear hK4 K4
  refine wp_block ?_
  refine wp_seq_k ?_; intro K5 hK5
  refine wlit ?_
  refine wl_v (x_eql (tmI rfl rfl) (ev_cN 1)) ?_
  refine wl_v (x_assign (tmB rfl rfl)) ?_
  refine wl_nil ?_
  refine then_n (hK5 _ _ ?_); clear hK5 K5
  refine cutc [2, 3, 4, 10, 11, 12, 13] (fun g w => ∃ (lo hi : Nat), g 3 = .int .i64 (lo : Int) ∧ g 4 = .int .i64 (hi : Int) ∧ St [] w0 [.blk g0_0 25 (fmV kind num L n c), .vw L (rows.map rowV)] w ∧ ((kind = 1 ∧ lo = 1 ∧ hi = 16) ∨ (kind = 2 ∧ lo = 1 ∧ hi = 1) ∨ (kind = 3 ∧ lo = 0 ∧ hi = 0))) ?_ ?_
  · skip
    refine cnd (tm rfl) (fun hc0 => ?_) (fun hc0 => ?_)
    · try (exfalso; first | with_reducible exact absurd hc0 Bool.false_ne_true | with_reducible exact absurd hc0.symm Bool.false_ne_true | (simp only [nrm] at hc0; omega) | (simp at hc0; done))
      all_goals
       try simp only [nrm] at hc0
       refine wlit ?_
       refine wl_v (x_assign (ev_cN 1)) ?_
       refine wl_v (x_assign (ev_cN 16)) ?_
       refine wl_nil ?_
       first
        | exact then_n ⟨_, rfl, (by repeat (first | exact agree_self | exact agree_refl | refine agree_upd rfl ?_ | refine agree_mix rfl ?_)), 1, 16, (by first | rfl | go_num | exact congrArg (Value.int _) (by first | omega | (simp; done) | (simp; omega))), (by first | rfl | go_num | exact congrArg (Value.int _) (by first | omega | (simp; done) | (simp; omega))), hS, (by omega)⟩
        | exact then_n ⟨_, rfl, (by repeat (first | exact agree_self | exact agree_refl | refine agree_upd rfl ?_ | refine agree_mix rfl ?_)), 1, 1, (by first | rfl | go_num | exact congrArg (Value.int _) (by first | omega | (simp; done) | (simp; omega))), (by first | rfl | go_num | exact congrArg (Value.int _) (by first | omega | (simp; done) | (simp; omega))), hS, (by omega)⟩
        | exact then_n ⟨_, rfl, (by repeat (first | exact agree_self | exact agree_refl | refine agree_upd rfl ?_ | refine agree_mix rfl ?_)), 0, 0, (by first | rfl | go_num | exact congrArg (Value.int _) (by first | omega | (simp; done) | (simp; omega))), (by first | rfl | go_num | exact congrArg (Value.int _) (by first | omega | (simp; done) | (simp; omega))), hS, (by omega)⟩
    try (exfalso; first | with_reducible exact absurd hc0 Bool.false_ne_true | with_reducible exact absurd hc0.symm Bool.false_ne_true | (simp only [nrm] at hc0; omega) | (simp at hc0; done))
    all_goals
     try simp only [nrm] at hc0
     refine wp_seq_k ?_; intro K7 hK7
     refine wlit ?_
     refine wl_v (x_eql (tmI rfl rfl) (ev_cN 2)) ?_
     refine wl_v (x_assign (tmB rfl rfl)) ?_
     refine wl_nil ?_
     refine then_n (hK7 _ _ ?_); clear hK7 K7
     refine cnd (tm rfl) (fun hc1 => ?_) (fun hc1 => ?_)
     · try (exfalso; first | with_reducible exact absurd hc1 Bool.false_ne_true | with_reducible exact absurd hc1.symm Bool.false_ne_true | (simp only [nrm] at hc1; omega) | (simp at hc1; done))
       all_goals
        try simp only [nrm] at hc1
        refine wlit ?_
        refine wl_v (x_assign (ev_cN 1)) ?_
        refine wl_v (x_assign (ev_cN 1)) ?_
        refine wl_nil ?_
        first
         | exact then_n ⟨_, rfl, (by repeat (first | exact agree_self | exact agree_refl | refine agree_upd rfl ?_ | refine agree_mix rfl ?_)), 1, 16, (by first | rfl | go_num | exact congrArg (Value.int _) (by first | omega | (simp; done) | (simp; omega))), (by first | rfl | go_num | exact congrArg (Value.int _) (by first | omega | (simp; done) | (simp; omega))), hS, (by omega)⟩
         | exact then_n ⟨_, rfl, (by repeat (first | exact agree_self | exact agree_refl | refine agree_upd rfl ?_ | refine agree_mix rfl ?_)), 1, 1, (by first | rfl | go_num | exact congrArg (Value.int _) (by first | omega | (simp; done) | (simp; omega))), (by first | rfl | go_num | exact congrArg (Value.int _) (by first | omega | (simp; done) | (simp; omega))), hS, (by omega)⟩
         | exact then_n ⟨_, rfl, (by repeat (first | exact agree_self | exact agree_refl | refine agree_upd rfl ?_ | refine agree_mix rfl ?_)), 0, 0, (by first | rfl | go_num | exact congrArg (Value.int _) (by first | omega | (simp; done) | (simp; omega))), (by first | rfl | go_num | exact congrArg (Value.int _) (by first | omega | (simp; done) | (simp; omega))), hS, (by omega)⟩
     try (exfalso; first | with_reducible exact absurd hc1 Bool.false_ne_true | with_reducible exact absurd hc1.symm Bool.false_ne_true | (simp only [nrm] at hc1; omega) | (simp at hc1; done))
     all_goals
      try simp only [nrm] at hc1
      refine wp_seq_k ?_; intro K8 hK8
      refine wlit ?_
      refine wl_v (x_eql (tmI rfl rfl) (ev_cN 3)) ?_
      refine wl_v (x_assign (tmB rfl rfl)) ?_
      refine wl_nil ?_
      refine then_n (hK8 _ _ ?_); clear hK8 K8
      refine cnds (tm rfl) (fun hc2 => ?_) (fun hc2 => ?_)
      · exfalso
        simp only [nrm] at hc2
        omega
      try (exfalso; first | with_reducible exact absurd hc2 Bool.false_ne_true | with_reducible exact absurd hc2.symm Bool.false_ne_true | (simp only [nrm] at hc2; omega) | (simp at hc2; done))
      all_goals
       try simp only [nrm] at hc2
       refine wp_skip ?_
       first
        | exact then_n ⟨_, rfl, (by repeat (first | exact agree_self | exact agree_refl | refine agree_upd rfl ?_ | refine agree_mix rfl ?_)), 1, 16, (by first | rfl | go_num | exact congrArg (Value.int _) (by first | omega | (simp; done) | (simp; omega))), (by first | rfl | go_num | exact congrArg (Value.int _) (by first | omega | (simp; done) | (simp; omega))), hS, (by omega)⟩
        | exact then_n ⟨_, rfl, (by repeat (first | exact agree_self | exact agree_refl | refine agree_upd rfl ?_ | refine agree_mix rfl ?_)), 1, 1, (by first | rfl | go_num | exact congrArg (Value.int _) (by first | omega | (simp; done) | (simp; omega))), (by first | rfl | go_num | exact congrArg (Value.int _) (by first | omega | (simp; done) | (simp; omega))), hS, (by omega)⟩
        | exact then_n ⟨_, rfl, (by repeat (first | exact agree_self | exact agree_refl | refine agree_upd rfl ?_ | refine agree_mix rfl ?_)), 0, 0, (by first | rfl | go_num | exact congrArg (Value.int _) (by first | omega | (simp; done) | (simp; omega))), (by first | rfl | go_num | exact congrArg (Value.int _) (by first | omega | (simp; done) | (simp; omega))), hS, (by omega)⟩
  · clear hS; intro g w hI
    obtain ⟨lo, hi, hs3, hs4, hS, hlh⟩ := hI
    refine fr_knowQ (d := 3) hs3 ?_; clear hs3
    refine fr_knowQ (d := 4) hs4 ?_; clear hs4
    refine inb_n ?_
    refine then_n (hK3 _ _ ?_); clear hK3 K3
    refine wp_seq_k ?_; intro K9 hK9
    refine wp_seq_k ?_; intro K10 hK10
    have hcnt : ∀ m, cntP kind m ↔ lo ≤ m ∧ m ≤ hi := fun m => by rw [cntP_iff]; omega
    refine wlit ?_
    refine wl_v (x_assign (ev_cN 0)) ?_
    refine wl_nil ?_
    refine then_n (hK10 _ _ ?_); clear hK10 K10
    refine wp_block ?_
    refine lp [2, 5, 14, 15, 16, 17, 18, 19, 20, 21, 22, 23, 24, 25, 26, 27, 28, 29, 30, 31] (fun mz g w => ∃ (k : Nat), mz = n - k ∧ g 5 = .int .i64 (k : Int) ∧ St [] w0 [.blk g0_0 25 (fmV kind num L n c), .vw L (rows.map rowV)] w ∧ (k ≤ n ∧ k ≤ 17) ∧ (∀ j, j < k → (rows.getD j default).2.1.length ≤ 65535)) ?_ ?_
    · exact ⟨_, 0, rfl, (by first | rfl | go_num | exact congrArg (Value.int _) (by first | omega | (simp; done) | (simp; omega))), hS, (by omega), (by first | exact hsm2 | exact (fun j hj => absurd hj (Nat.not_lt_zero j)))⟩
    · clear hS; intro mz g w hI
      obtain ⟨k, rfl, hs5, hS, hk, hsm⟩ := hI
      refine fr_know (d := 5) hs5 ?_; clear hs5
      refine wp_seq_k ?_; intro K11 hK11
      refine wp_seq_k ?_; intro K12 hK12
      refine wlit ?_
      refine wl_v (x_move (tmI rfl rfl)) ?_
      refine wl_v (x_fa 2 Try.underlying25 rfl rfl ts_23 (tmP rfl rfl)) ?_
      first
       | refine wl_v (x_load Try.underlying23 rfl (tmP rfl rfl) (cellB hS.ok 0 rfl rfl)) ?_
       | refine wl_v (x_load Try.underlying23 rfl (tmP rfl rfl) (cellB hS.ok 0 rfl (getm (by omega)))) ?_
      refine wl_v (x_len Try.underlying23 (tmS rfl rfl)) ?_
      refine wl_v (x_lss (tmI rfl rfl) (tmI rfl rfl)) ?_
      refine wl_v (x_move (tmB rfl rfl)) ?_
      refine gs_wl (tm (t := 19) rfl) (fun hg10_5 => ?_) (fun hg10_5 => ?_)
      · have hg10_5' := hg10_5; (try simp only [nrm] at hg10_5'); try (exfalso; first | with_reducible exact absurd hg10_5 Bool.false_ne_true | with_reducible exact absurd hg10_5.symm Bool.false_ne_true | omega | (simp at hg10_5; done))
        all_goals
         refine wl_gv (want_y rfl rfl rfl rfl (by rw [hg10_5]; rfl)) (x_move (tmI rfl rfl)) ?_
         refine wl_gv (want_y rfl rfl rfl rfl (by rw [hg10_5]; rfl)) (x_leq (tmI rfl rfl) (ev_cN 16)) ?_
         refine wl_v (x_pickT (tmB rfl rfl) hg10_5 (tmB rfl rfl)) ?_
         refine wl_nil ?_
         refine then_n (hK12 _ _ ?_); clear hK12 K12
         refine cnd (tm rfl) (fun hc3 => ?_) (fun hc3 => ?_)
         · try (exfalso; first | with_reducible exact absurd hc3 Bool.false_ne_true | with_reducible exact absurd hc3.symm Bool.false_ne_true | (simp only [nrm] at hc3; omega) | (simp at hc3; done))
           all_goals
            try simp only [nrm] at hc3
            refine wp_skip ?_
            refine then_n (hK11 _ _ ?_); clear hK11 K11
            refine wp_seq_k ?_; intro K13 hK13
            refine wp_block ?_
            refine wp_seq_k ?_; intro K14 hK14
            obtain ⟨b4, o4, rfl⟩ := view_some (viewV hS.ok 1 rfl) (by rw [List.length_map]; omega)
            have hlk := hle _ (frow_mem (rows := rows) (k := k) (by omega))
            refine wlit ?_
            refine wl_v (x_fa 2 Try.underlying25 rfl rfl ts_23 (tmP rfl rfl)) ?_
            first
             | refine wl_v (x_load Try.underlying23 rfl (tmP rfl rfl) (cellB hS.ok 0 rfl rfl)) ?_
             | refine wl_v (x_load Try.underlying23 rfl (tmP rfl rfl) (cellB hS.ok 0 rfl (getm (by omega)))) ?_
            refine wl_v (x_move (tmI rfl rfl)) ?_
            refine wl_v (x_ixs1 Try.underlying23 ts_26 (tmS rfl rfl) (tmI rfl rfl) (by omega)) ?_
            refine wl_v (x_load (v := .slice (rows.getD k default).1 (rows.getD k default).2.1.length (rows.getD k default).2.2) Try.underlying26 rfl (tmP rfl rfl) (cellV hS.ok 1 rfl (frow_at (by omega)))) ?_
            refine wl_v (x_len Try.underlying26 (tmS rfl rfl)) ?_
            refine wl_v (x_gtr (tmI rfl rfl) (ev_cN 65535)) ?_
            refine wl_nil ?_
            refine then_n (hK14 _ _ ?_); clear hK14 K14
            refine cnd (tm rfl) (fun hc4 => ?_) (fun hc4 => ?_)
            · try (exfalso; first | with_reducible exact absurd hc4 Bool.false_ne_true | with_reducible exact absurd hc4.symm Bool.false_ne_true | (simp only [nrm] at hc4; omega) | (simp at hc4; done))
              all_goals
               try simp only [nrm] at hc4
               refine wp_seq_k ?_; intro K15 hK15
               refine wlit ?_
               refine wl_v (x_assign ev_c) ?_
               refine wl_nil ?_
               refine then_n (hK15 _ _ ?_); clear hK15 K15
               refine wp_ret ?_
               refine inb_r ?_
               refine then_r ?_
               refine then_r ?_
               refine inb_r ?_
               refine then_r ?_
               refine ret1 rfl (.tmp rfl (show _ = Value.bool _ from rfl)) ?_
               refine ⟨ret_bool ?_, hS.kp⟩
               cases hd : decide (frP kind rows)
               · have hq := of_decide_eq_false hd
                 first
                   | done
                   | rfl
                   | (refine decide_eq_false fun hle2 => hq ⟨all_rows (p := fun r => r.2.1.length ≤ 65535) hl fun j hj => hsm j (by omega), ?_⟩
                      rw [hl, hcnt]
                      omega)
               · have hq := of_decide_eq_true hd
                 have hq2 := hq.2
                 rw [hl] at hq2
                 first
                   | (refine decide_eq_true ?_
                      have := (hcnt n).1 hq2
                      omega)
                   | (exfalso
                      have := hq.1 _ (frow_mem (rows := rows) (k := k) (by omega))
                      omega)
                   | (exfalso
                      have := (hcnt n).1 hq2
                      omega)
            try (exfalso; first | with_reducible exact absurd hc4 Bool.false_ne_true | with_reducible exact absurd hc4.symm Bool.false_ne_true | (simp only [nrm] at hc4; omega) | (simp at hc4; done))
            all_goals
             try simp only [nrm] at hc4
             refine wp_skip ?_
             refine inb_n ?_
             refine then_n (hK13 _ _ ?_); clear hK13 K13
             refine wlit ?_
             refine wl_v (x_move (tmI rfl rfl)) ?_
             first
              | refine wl_v (x_addN (tmI rfl rfl) (ev_cN 1) (fit_i64 (by omega))) ?_
              | refine wl_v (x_addI (tmI rfl rfl) (ev_cN 1) (IntWalk.i64_in _ (by omega))) ?_
              | refine wl_v (x_add (tmI rfl rfl) (ev_cN 1)) ?_
             refine wl_v (x_assign (tmI rfl rfl)) ?_
             refine wl_nil ?_
             have hsm2 : ∀ j, j < k + 1 → (rows.getD j default).2.1.length ≤ 65535 := fun j hj => by rcases (by omega : j < k ∨ j = k) with h | rfl; exact hsm j h; omega
             exact then_n ⟨_, _, rfl, (by show _ < _; omega), (by repeat (first | exact agree_self | exact agree_refl | refine agree_upd rfl ?_ | refine agree_mix rfl ?_)), k + 1, rfl, (by first | rfl | go_num | exact congrArg (Value.int _) (by first | omega | (simp; done) | (simp; omega))), hS, (by omega), (by first | exact hsm2 | exact (fun j hj => absurd hj (Nat.not_lt_zero j)))⟩
         try (exfalso; first | with_reducible exact absurd hc3 Bool.false_ne_true | with_reducible exact absurd hc3.symm Bool.false_ne_true | (simp only [nrm] at hc3; omega) | (simp at hc3; done))
         all_goals
          try simp only [nrm] at hc3
          refine wp_exit ?_
          refine then_x ?_; clear hK11 K11
          refine then_x ?_
          refine inb_x ?_
          refine then_n (hK9 _ _ ?_); clear hK9 K9
          refine wp_seq_k ?_; intro K16 hK16
          refine wlit ?_
          refine wl_v (x_fa 2 Try.underlying25 rfl rfl ts_23 (tmP rfl rfl)) ?_
          first
           | refine wl_v (x_load Try.underlying23 rfl (tmP rfl rfl) (cellB hS.ok 0 rfl rfl)) ?_
           | refine wl_v (x_load Try.underlying23 rfl (tmP rfl rfl) (cellB hS.ok 0 rfl (getm (by omega)))) ?_
          refine wl_v (x_len Try.underlying23 (tmS rfl rfl)) ?_
          refine wl_v (x_move (tmI rfl rfl)) ?_
          refine wl_v (x_geq (tmI rfl rfl) (tmI rfl rfl)) ?_
          refine wl_v (x_move (tmB rfl rfl)) ?_
          refine gs_wl (tm (t := 37) rfl) (fun hg14_5 => ?_) (fun hg14_5 => ?_)
          · have hg14_5' := hg14_5; (try simp only [nrm] at hg14_5'); try (exfalso; first | with_reducible exact absurd hg14_5 Bool.false_ne_true | with_reducible exact absurd hg14_5.symm Bool.false_ne_true | omega | (simp at hg14_5; done))
            all_goals
             refine wl_gv (want_y rfl rfl rfl rfl (by rw [hg14_5]; rfl)) (x_fa 2 Try.underlying25 rfl rfl ts_23 (tmP rfl rfl)) ?_
             first
              | refine wl_gv (want_y rfl rfl rfl rfl (by rw [hg14_5]; rfl)) (x_load Try.underlying23 rfl (tmP rfl rfl) (cellB hS.ok 0 rfl rfl)) ?_
              | refine wl_gv (want_y rfl rfl rfl rfl (by rw [hg14_5]; rfl)) (x_load Try.underlying23 rfl (tmP rfl rfl) (cellB hS.ok 0 rfl (getm (by omega)))) ?_
             refine wl_gv (want_y rfl rfl rfl rfl (by rw [hg14_5]; rfl)) (x_len Try.underlying23 (tmS rfl rfl)) ?_
             refine wl_gv (want_y rfl rfl rfl rfl (by rw [hg14_5]; rfl)) (x_move (tmI rfl rfl)) ?_
             refine wl_gv (want_y rfl rfl rfl rfl (by rw [hg14_5]; rfl)) (x_leq (tmI rfl rfl) (tmI rfl rfl)) ?_
             refine wl_v (x_pickT (tmB rfl rfl) hg14_5 (tmB rfl rfl)) ?_
             refine wl_v (x_assign (tmB rfl rfl)) ?_
             refine wl_nil ?_
             refine then_n (hK16 _ _ ?_); clear hK16 K16
             refine wp_ret ?_
             refine ret1 rfl (.tmp rfl (show _ = Value.bool _ from rfl)) ?_
             refine ⟨ret_bool ?_, hS.kp⟩
             cases hd : decide (frP kind rows)
             · have hq := of_decide_eq_false hd
               first
                 | done
                 | rfl
                 | (refine decide_eq_false fun hle2 => hq ⟨all_rows (p := fun r => r.2.1.length ≤ 65535) hl fun j hj => hsm j (by omega), ?_⟩
                    rw [hl, hcnt]
                    omega)
             · have hq := of_decide_eq_true hd
               have hq2 := hq.2
               rw [hl] at hq2
               first
                 | (refine decide_eq_true ?_
                    have := (hcnt n).1 hq2
                    omega)
                 | (exfalso
                    have := hq.1 _ (frow_mem (rows := rows) (k := k) (by omega))
                    omega)
                 | (exfalso
                    have := (hcnt n).1 hq2
                    omega)
          have hg14_5' := hg14_5; (try simp only [nrm] at hg14_5'); try (exfalso; first | with_reducible exact absurd hg14_5 Bool.false_ne_true | with_reducible exact absurd hg14_5.symm Bool.false_ne_true | omega | (simp at hg14_5; done))
          all_goals
           refine wl_s rfl (want_n rfl rfl rfl rfl (by rw [hg14_5]; rfl)) ?_
           refine wl_s rfl (want_n rfl rfl rfl rfl (by rw [hg14_5]; rfl)) ?_
           refine wl_s rfl (want_n rfl rfl rfl rfl (by rw [hg14_5]; rfl)) ?_
           refine wl_s rfl (want_n rfl rfl rfl rfl (by rw [hg14_5]; rfl)) ?_
           refine wl_s rfl (want_n rfl rfl rfl rfl (by rw [hg14_5]; rfl)) ?_
           refine wl_v (x_pickF (tmB rfl rfl) hg14_5 ev_c) ?_
           refine wl_v (x_assign (tmB rfl rfl)) ?_
           refine wl_nil ?_
           refine then_n (hK16 _ _ ?_); clear hK16 K16
           refine wp_ret ?_
           refine ret1 rfl (.tmp rfl (show _ = Value.bool _ from rfl)) ?_
           refine ⟨ret_bool ?_, hS.kp⟩
           cases hd : decide (frP kind rows)
           · have hq := of_decide_eq_false hd
             first
               | done
               | rfl
               | (refine decide_eq_false fun hle2 => hq ⟨all_rows (p := fun r => r.2.1.length ≤ 65535) hl fun j hj => hsm j (by omega), ?_⟩
                  rw [hl, hcnt]
                  omega)
           · have hq := of_decide_eq_true hd
             have hq2 := hq.2
             rw [hl] at hq2
             first
               | (refine decide_eq_true ?_
                  have := (hcnt n).1 hq2
                  omega)
               | (exfalso
                  have := hq.1 _ (frow_mem (rows := rows) (k := k) (by omega))
                  omega)
               | (exfalso
                  have := (hcnt n).1 hq2
                  omega)
      have hg10_5' := hg10_5; (try simp only [nrm] at hg10_5'); try (exfalso; first | with_reducible exact absurd hg10_5 Bool.false_ne_true | with_reducible exact absurd hg10_5.symm Bool.false_ne_true | omega | (simp at hg10_5; done))
      all_goals
       refine wl_s rfl (want_n rfl rfl rfl rfl (by rw [hg10_5]; rfl)) ?_
       refine wl_s rfl (want_n rfl rfl rfl rfl (by rw [hg10_5]; rfl)) ?_
       refine wl_v (x_pickF (tmB rfl rfl) hg10_5 ev_c) ?_
       refine wl_nil ?_
       refine then_n (hK12 _ _ ?_); clear hK12 K12
       refine cnd_f (tmB rfl rfl) rfl ?_
       refine wp_exit ?_
       refine then_x ?_; clear hK11 K11
       refine then_x ?_
       refine inb_x ?_
       refine then_n (hK9 _ _ ?_); clear hK9 K9
       refine wp_seq_k ?_; intro K17 hK17
       refine wlit ?_
       refine wl_v (x_fa 2 Try.underlying25 rfl rfl ts_23 (tmP rfl rfl)) ?_
       first
        | refine wl_v (x_load Try.underlying23 rfl (tmP rfl rfl) (cellB hS.ok 0 rfl rfl)) ?_
        | refine wl_v (x_load Try.underlying23 rfl (tmP rfl rfl) (cellB hS.ok 0 rfl (getm (by omega)))) ?_
       refine wl_v (x_len Try.underlying23 (tmS rfl rfl)) ?_
       refine wl_v (x_move (tmI rfl rfl)) ?_
       refine wl_v (x_geq (tmI rfl rfl) (tmI rfl rfl)) ?_
       refine wl_v (x_move (tmB rfl rfl)) ?_
       refine gs_wl (tm (t := 37) rfl) (fun hg14_5 => ?_) (fun hg14_5 => ?_)
       · have hg14_5' := hg14_5; (try simp only [nrm] at hg14_5'); try (exfalso; first | with_reducible exact absurd hg14_5 Bool.false_ne_true | with_reducible exact absurd hg14_5.symm Bool.false_ne_true | omega | (simp at hg14_5; done))
         all_goals
          refine wl_gv (want_y rfl rfl rfl rfl (by rw [hg14_5]; rfl)) (x_fa 2 Try.underlying25 rfl rfl ts_23 (tmP rfl rfl)) ?_
          first
           | refine wl_gv (want_y rfl rfl rfl rfl (by rw [hg14_5]; rfl)) (x_load Try.underlying23 rfl (tmP rfl rfl) (cellB hS.ok 0 rfl rfl)) ?_
           | refine wl_gv (want_y rfl rfl rfl rfl (by rw [hg14_5]; rfl)) (x_load Try.underlying23 rfl (tmP rfl rfl) (cellB hS.ok 0 rfl (getm (by omega)))) ?_
          refine wl_gv (want_y rfl rfl rfl rfl (by rw [hg14_5]; rfl)) (x_len Try.underlying23 (tmS rfl rfl)) ?_
          refine wl_gv (want_y rfl rfl rfl rfl (by rw [hg14_5]; rfl)) (x_move (tmI rfl rfl)) ?_
          refine wl_gv (want_y rfl rfl rfl rfl (by rw [hg14_5]; rfl)) (x_leq (tmI rfl rfl) (tmI rfl rfl)) ?_
          refine wl_v (x_pickT (tmB rfl rfl) hg14_5 (tmB rfl rfl)) ?_
          refine wl_v (x_assign (tmB rfl rfl)) ?_
          refine wl_nil ?_
          refine then_n (hK17 _ _ ?_); clear hK17 K17
          refine wp_ret ?_
          refine ret1 rfl (.tmp rfl (show _ = Value.bool _ from rfl)) ?_
          refine ⟨ret_bool ?_, hS.kp⟩
          cases hd : decide (frP kind rows)
          · have hq := of_decide_eq_false hd
            first
              | done
              | rfl
              | (refine decide_eq_false fun hle2 => hq ⟨all_rows (p := fun r => r.2.1.length ≤ 65535) hl fun j hj => hsm j (by omega), ?_⟩
                 rw [hl, hcnt]
                 omega)
          · have hq := of_decide_eq_true hd
            have hq2 := hq.2
            rw [hl] at hq2
            first
              | (refine decide_eq_true ?_
                 have := (hcnt n).1 hq2
                 omega)
              | (exfalso
                 have := hq.1 _ (frow_mem (rows := rows) (k := k) (by omega))
                 omega)
              | (exfalso
                 have := (hcnt n).1 hq2
                 omega)
       have hg14_5' := hg14_5; (try simp only [nrm] at hg14_5'); try (exfalso; first | with_reducible exact absurd hg14_5 Bool.false_ne_true | with_reducible exact absurd hg14_5.symm Bool.false_ne_true | omega | (simp at hg14_5; done))
       all_goals
        refine wl_s rfl (want_n rfl rfl rfl rfl (by rw [hg14_5]; rfl)) ?_
        refine wl_s rfl (want_n rfl rfl rfl rfl (by rw [hg14_5]; rfl)) ?_
        refine wl_s rfl (want_n rfl rfl rfl rfl (by rw [hg14_5]; rfl)) ?_
        refine wl_s rfl (want_n rfl rfl rfl rfl (by rw [hg14_5]; rfl)) ?_
        refine wl_s rfl (want_n rfl rfl rfl rfl (by rw [hg14_5]; rfl)) ?_
        refine wl_v (x_pickF (tmB rfl rfl) hg14_5 ev_c) ?_
        refine wl_v (x_assign (tmB rfl rfl)) ?_
        refine wl_nil ?_
        refine then_n (hK17 _ _ ?_); clear hK17 K17
        refine wp_ret ?_
        refine ret1 rfl (.tmp rfl (show _ = Value.bool _ from rfl)) ?_
        refine ⟨ret_bool ?_, hS.kp⟩
        cases hd : decide (frP kind rows)
        · have hq := of_decide_eq_false hd
          first
            | done
            | rfl
            | (refine decide_eq_false fun hle2 => hq ⟨all_rows (p := fun r => r.2.1.length ≤ 65535) hl fun j hj => hsm j (by omega), ?_⟩
               rw [hl, hcnt]
               omega)
        · have hq := of_decide_eq_true hd
          have hq2 := hq.2
          rw [hl] at hq2
          first
            | (refine decide_eq_true ?_
               have := (hcnt n).1 hq2
               omega)
            | (exfalso
               have := hq.1 _ (frow_mem (rows := rows) (k := k) (by omega))
               omega)
            | (exfalso
               have := (hcnt n).1 hq2
               omega)
end Go.Proofs.Ytmokaeflnlajgaa
