
/- cid: mask, tag, places, Make by contract, and the references'. Conditions: none but bounds. -/
import Derived.Test.YtilgolflpdpfnaaCookieN
namespace Go.Proofs.Ytilgolflpdpfnaa
open Go.RowKit
def rightP (v s : Int) : Prop := 0 ≤ v ∧ v ≤ 7 ∧ 0 ≤ s ∧ s ≤ 4095
instance (v s : Int) : Decidable (rightP v s) := by unfold rightP; exact inferInstance
set_option maxRecDepth 100000 in
set_option maxHeartbeats 4000000 in
theorem place_right_g (v s : Int) (w0 : World) :
    Calls Try.prog 62 #[.agg (plV v s).toArray] w0 fun e w' => e = .returned (.bool (decide (rightP v s))) ∧ Kp [] w0 w' := by
  have hS := St.sv w0
  refine ent (n := 21) Try.func62 rfl rfl ?_
  refine wp_seq_k ?_; intro K1 hK1
  refine wlit ?_
  refine wl_e rfl ?_; intro K hK
  refine ow_box hS (tmA rfl rfl) rfl ?_
  clear hS; intro g0_0 w hg0_0 hS
  refine hK _ _ ?_; clear hK K
  refine wl_v (x_assign ev_c) ?_
  refine wl_nil ?_
  refine then_n (hK1 _ _ ?_); clear hK1 K1
  refine wp_seq_k ?_; intro K2 hK2
  refine wlit ?_
  refine wl_v (x_fa 0 Try.underlying88 rfl rfl ts_3 (tmP rfl rfl)) ?_
  first
   | refine wl_v (x_load Try.underlying3 rfl (tmP rfl rfl) (cellB hS.ok 0 rfl rfl)) ?_
   | refine wl_v (x_load Try.underlying3 rfl (tmP rfl rfl) (cellB hS.ok 0 rfl (getm (by omega)))) ?_
  refine wl_v (x_geq (tmI rfl rfl) (ev_cN 0)) ?_
  refine wl_v (x_move (tmB rfl rfl)) ?_
  refine gs_wl (tm (t := 6) rfl) (fun hg1_3 => ?_) (fun hg1_3 => ?_)
  · have hg1_3' := hg1_3; (try simp only [nrm] at hg1_3'); try (exfalso; first | with_reducible exact absurd hg1_3 Bool.false_ne_true | with_reducible exact absurd hg1_3.symm Bool.false_ne_true | omega | (simp at hg1_3; done))
    all_goals
     refine wl_gv (want_y rfl rfl rfl rfl (by rw [hg1_3]; rfl)) (x_fa 0 Try.underlying88 rfl rfl ts_3 (tmP rfl rfl)) ?_
     first
      | refine wl_gv (want_y rfl rfl rfl rfl (by rw [hg1_3]; rfl)) (x_load Try.underlying3 rfl (tmP rfl rfl) (cellB hS.ok 0 rfl rfl)) ?_
      | refine wl_gv (want_y rfl rfl rfl rfl (by rw [hg1_3]; rfl)) (x_load Try.underlying3 rfl (tmP rfl rfl) (cellB hS.ok 0 rfl (getm (by omega)))) ?_
     refine wl_gv (want_y rfl rfl rfl rfl (by rw [hg1_3]; rfl)) (x_lss (tmI rfl rfl) (ev_cN 8)) ?_
     refine wl_v (x_pickT (tmB rfl rfl) hg1_3 (tmB rfl rfl)) ?_
     refine wl_v (x_move (tmB rfl rfl)) ?_
     refine gs_wl (tm (t := 11) rfl) (fun hg1_8 => ?_) (fun hg1_8 => ?_)
     · have hg1_8' := hg1_8; (try simp only [nrm] at hg1_8'); try (exfalso; first | with_reducible exact absurd hg1_8 Bool.false_ne_true | with_reducible exact absurd hg1_8.symm Bool.false_ne_true | omega | (simp at hg1_8; done))
       all_goals
        refine wl_gv (want_y rfl rfl rfl rfl (by rw [hg1_8]; rfl)) (x_fa 1 Try.underlying88 rfl rfl ts_3 (tmP rfl rfl)) ?_
        first
         | refine wl_gv (want_y rfl rfl rfl rfl (by rw [hg1_8]; rfl)) (x_load Try.underlying3 rfl (tmP rfl rfl) (cellB hS.ok 0 rfl rfl)) ?_
         | refine wl_gv (want_y rfl rfl rfl rfl (by rw [hg1_8]; rfl)) (x_load Try.underlying3 rfl (tmP rfl rfl) (cellB hS.ok 0 rfl (getm (by omega)))) ?_
        refine wl_gv (want_y rfl rfl rfl rfl (by rw [hg1_8]; rfl)) (x_geq (tmI rfl rfl) (ev_cN 0)) ?_
        refine wl_v (x_pickT (tmB rfl rfl) hg1_8 (tmB rfl rfl)) ?_
        refine wl_v (x_move (tmB rfl rfl)) ?_
        refine gs_wl (tm (t := 16) rfl) (fun hg1_13 => ?_) (fun hg1_13 => ?_)
        · have hg1_13' := hg1_13; (try simp only [nrm] at hg1_13'); try (exfalso; first | with_reducible exact absurd hg1_13 Bool.false_ne_true | with_reducible exact absurd hg1_13.symm Bool.false_ne_true | omega | (simp at hg1_13; done))
          all_goals
           refine wl_gv (want_y rfl rfl rfl rfl (by rw [hg1_13]; rfl)) (x_fa 1 Try.underlying88 rfl rfl ts_3 (tmP rfl rfl)) ?_
           first
            | refine wl_gv (want_y rfl rfl rfl rfl (by rw [hg1_13]; rfl)) (x_load Try.underlying3 rfl (tmP rfl rfl) (cellB hS.ok 0 rfl rfl)) ?_
            | refine wl_gv (want_y rfl rfl rfl rfl (by rw [hg1_13]; rfl)) (x_load Try.underlying3 rfl (tmP rfl rfl) (cellB hS.ok 0 rfl (getm (by omega)))) ?_
           refine wl_gv (want_y rfl rfl rfl rfl (by rw [hg1_13]; rfl)) (x_lss (tmI rfl rfl) (ev_cN 4096)) ?_
           refine wl_v (x_pickT (tmB rfl rfl) hg1_13 (tmB rfl rfl)) ?_
           refine wl_v (x_assign (tmB rfl rfl)) ?_
           refine wl_nil ?_
           refine then_n (hK2 _ _ ?_); clear hK2 K2
           refine wp_ret ?_
           refine ret1 rfl (.tmp rfl (show _ = Value.bool _ from rfl)) ?_
           refine ⟨ret_bool ?_, hS.kp⟩
           first
             | exact (decide_eq_false (fun h => by unfold rightP at h; omega)).symm
             | (rw [decide_eq_decide]; unfold rightP; omega)
        have hg1_13' := hg1_13; (try simp only [nrm] at hg1_13'); try (exfalso; first | with_reducible exact absurd hg1_13 Bool.false_ne_true | with_reducible exact absurd hg1_13.symm Bool.false_ne_true | omega | (simp at hg1_13; done))
        all_goals
         refine wl_s rfl (want_n rfl rfl rfl rfl (by rw [hg1_13]; rfl)) ?_
         refine wl_s rfl (want_n rfl rfl rfl rfl (by rw [hg1_13]; rfl)) ?_
         refine wl_s rfl (want_n rfl rfl rfl rfl (by rw [hg1_13]; rfl)) ?_
         refine wl_v (x_pickF (tmB rfl rfl) hg1_13 ev_c) ?_
         refine wl_v (x_assign (tmB rfl rfl)) ?_
         refine wl_nil ?_
         refine then_n (hK2 _ _ ?_); clear hK2 K2
         refine wp_ret ?_
         refine ret1 rfl (.tmp rfl (show _ = Value.bool _ from rfl)) ?_
         refine ⟨ret_bool ?_, hS.kp⟩
         first
           | exact (decide_eq_false (fun h => by unfold rightP at h; omega)).symm
           | (rw [decide_eq_decide]; unfold rightP; omega)
     have hg1_8' := hg1_8; (try simp only [nrm] at hg1_8'); try (exfalso; first | with_reducible exact absurd hg1_8 Bool.false_ne_true | with_reducible exact absurd hg1_8.symm Bool.false_ne_true | omega | (simp at hg1_8; done))
     all_goals
      refine wl_s rfl (want_n rfl rfl rfl rfl (by rw [hg1_8]; rfl)) ?_
      refine wl_s rfl (want_n rfl rfl rfl rfl (by rw [hg1_8]; rfl)) ?_
      refine wl_s rfl (want_n rfl rfl rfl rfl (by rw [hg1_8]; rfl)) ?_
      refine wl_v (x_pickF (tmB rfl rfl) hg1_8 ev_c) ?_
      refine wl_v (x_move (tmB rfl rfl)) ?_
      refine wl_s rfl (want_n rfl rfl rfl rfl rfl) ?_
      refine wl_s rfl (want_n rfl rfl rfl rfl rfl) ?_
      refine wl_s rfl (want_n rfl rfl rfl rfl rfl) ?_
      refine wl_v (x_pickF (tmB rfl rfl) rfl ev_c) ?_
      refine wl_v (x_assign (tmB rfl rfl)) ?_
      refine wl_nil ?_
      refine then_n (hK2 _ _ ?_); clear hK2 K2
      refine wp_ret ?_
      refine ret1 rfl (.tmp rfl (show _ = Value.bool _ from rfl)) ?_
      refine ⟨ret_bool ?_, hS.kp⟩
      first
        | exact (decide_eq_false (fun h => by unfold rightP at h; omega)).symm
        | (rw [decide_eq_decide]; unfold rightP; omega)
  have hg1_3' := hg1_3; (try simp only [nrm] at hg1_3'); try (exfalso; first | with_reducible exact absurd hg1_3 Bool.false_ne_true | with_reducible exact absurd hg1_3.symm Bool.false_ne_true | omega | (simp at hg1_3; done))
  all_goals
   refine wl_s rfl (want_n rfl rfl rfl rfl (by rw [hg1_3]; rfl)) ?_
   refine wl_s rfl (want_n rfl rfl rfl rfl (by rw [hg1_3]; rfl)) ?_
   refine wl_s rfl (want_n rfl rfl rfl rfl (by rw [hg1_3]; rfl)) ?_
   refine wl_v (x_pickF (tmB rfl rfl) hg1_3 ev_c) ?_
   refine wl_v (x_move (tmB rfl rfl)) ?_
   refine wl_s rfl (want_n rfl rfl rfl rfl rfl) ?_
   refine wl_s rfl (want_n rfl rfl rfl rfl rfl) ?_
   refine wl_s rfl (want_n rfl rfl rfl rfl rfl) ?_
   refine wl_v (x_pickF (tmB rfl rfl) rfl ev_c) ?_
   refine wl_v (x_move (tmB rfl rfl)) ?_
   refine wl_s rfl (want_n rfl rfl rfl rfl rfl) ?_
   refine wl_s rfl (want_n rfl rfl rfl rfl rfl) ?_
   refine wl_s rfl (want_n rfl rfl rfl rfl rfl) ?_
   refine wl_v (x_pickF (tmB rfl rfl) rfl ev_c) ?_
   refine wl_v (x_assign (tmB rfl rfl)) ?_
   refine wl_nil ?_
   refine then_n (hK2 _ _ ?_); clear hK2 K2
   refine wp_ret ?_
   refine ret1 rfl (.tmp rfl (show _ = Value.bool _ from rfl)) ?_
   refine ⟨ret_bool ?_, hS.kp⟩
   first
     | exact (decide_eq_false (fun h => by unfold rightP at h; omega)).symm
     | (rw [decide_eq_decide]; unfold rightP; omega)
set_option maxRecDepth 100000 in
set_option maxHeartbeats 4000000 in
theorem right12_g (v s : Int) (w0 : World) :
    Calls Try.prog 109 #[.int .i64 v, .int .i64 s] w0 fun e w' => e = .returned (.bool (decide (rightP v s))) ∧ Kp [] w0 w' := by
  have hS := St.sv w0
  refine ent (n := 19) Try.func109 rfl rfl ?_
  refine wp_seq_k ?_; intro K1 hK1
  refine wlit ?_
  refine wl_v (x_assign ev_c) ?_
  refine wl_nil ?_
  refine then_n (hK1 _ _ ?_); clear hK1 K1
  refine wp_seq_k ?_; intro K2 hK2
  refine wlit ?_
  refine wl_v (x_move (tmI rfl rfl)) ?_
  refine wl_v (x_geq (tmI rfl rfl) (ev_cN 0)) ?_
  refine wl_v (x_move (tmB rfl rfl)) ?_
  refine gs_wl (tm (t := 7) rfl) (fun hg1_2 => ?_) (fun hg1_2 => ?_)
  · have hg1_2' := hg1_2; (try simp only [nrm] at hg1_2'); try (exfalso; first | with_reducible exact absurd hg1_2 Bool.false_ne_true | with_reducible exact absurd hg1_2.symm Bool.false_ne_true | omega | (simp at hg1_2; done))
    all_goals
     refine wl_gv (want_y rfl rfl rfl rfl (by rw [hg1_2]; rfl)) (x_move (tmI rfl rfl)) ?_
     refine wl_gv (want_y rfl rfl rfl rfl (by rw [hg1_2]; rfl)) (x_leq (tmI rfl rfl) (ev_cN 7)) ?_
     refine wl_v (x_pickT (tmB rfl rfl) hg1_2 (tmB rfl rfl)) ?_
     refine wl_v (x_move (tmB rfl rfl)) ?_
     refine gs_wl (tm (t := 11) rfl) (fun hg1_6 => ?_) (fun hg1_6 => ?_)
     · have hg1_6' := hg1_6; (try simp only [nrm] at hg1_6'); try (exfalso; first | with_reducible exact absurd hg1_6 Bool.false_ne_true | with_reducible exact absurd hg1_6.symm Bool.false_ne_true | omega | (simp at hg1_6; done))
       all_goals
        refine wl_gv (want_y rfl rfl rfl rfl (by rw [hg1_6]; rfl)) (x_move (tmI rfl rfl)) ?_
        refine wl_gv (want_y rfl rfl rfl rfl (by rw [hg1_6]; rfl)) (x_geq (tmI rfl rfl) (ev_cN 0)) ?_
        refine wl_v (x_pickT (tmB rfl rfl) hg1_6 (tmB rfl rfl)) ?_
        refine wl_v (x_move (tmB rfl rfl)) ?_
        refine gs_wl (tm (t := 15) rfl) (fun hg1_10 => ?_) (fun hg1_10 => ?_)
        · have hg1_10' := hg1_10; (try simp only [nrm] at hg1_10'); try (exfalso; first | with_reducible exact absurd hg1_10 Bool.false_ne_true | with_reducible exact absurd hg1_10.symm Bool.false_ne_true | omega | (simp at hg1_10; done))
          all_goals
           refine wl_gv (want_y rfl rfl rfl rfl (by rw [hg1_10]; rfl)) (x_move (tmI rfl rfl)) ?_
           refine wl_gv (want_y rfl rfl rfl rfl (by rw [hg1_10]; rfl)) (x_leq (tmI rfl rfl) (ev_cN 4095)) ?_
           refine wl_v (x_pickT (tmB rfl rfl) hg1_10 (tmB rfl rfl)) ?_
           refine wl_v (x_assign (tmB rfl rfl)) ?_
           refine wl_nil ?_
           refine then_n (hK2 _ _ ?_); clear hK2 K2
           refine wp_ret ?_
           refine ret1 rfl (.tmp rfl (show _ = Value.bool _ from rfl)) ?_
           refine ⟨ret_bool ?_, hS.kp⟩
           first
             | exact (decide_eq_false (fun h => by unfold rightP at h; omega)).symm
             | (rw [decide_eq_decide]; unfold rightP; omega)
        have hg1_10' := hg1_10; (try simp only [nrm] at hg1_10'); try (exfalso; first | with_reducible exact absurd hg1_10 Bool.false_ne_true | with_reducible exact absurd hg1_10.symm Bool.false_ne_true | omega | (simp at hg1_10; done))
        all_goals
         refine wl_s rfl (want_n rfl rfl rfl rfl (by rw [hg1_10]; rfl)) ?_
         refine wl_s rfl (want_n rfl rfl rfl rfl (by rw [hg1_10]; rfl)) ?_
         refine wl_v (x_pickF (tmB rfl rfl) hg1_10 ev_c) ?_
         refine wl_v (x_assign (tmB rfl rfl)) ?_
         refine wl_nil ?_
         refine then_n (hK2 _ _ ?_); clear hK2 K2
         refine wp_ret ?_
         refine ret1 rfl (.tmp rfl (show _ = Value.bool _ from rfl)) ?_
         refine ⟨ret_bool ?_, hS.kp⟩
         first
           | exact (decide_eq_false (fun h => by unfold rightP at h; omega)).symm
           | (rw [decide_eq_decide]; unfold rightP; omega)
     have hg1_6' := hg1_6; (try simp only [nrm] at hg1_6'); try (exfalso; first | with_reducible exact absurd hg1_6 Bool.false_ne_true | with_reducible exact absurd hg1_6.symm Bool.false_ne_true | omega | (simp at hg1_6; done))
     all_goals
      refine wl_s rfl (want_n rfl rfl rfl rfl (by rw [hg1_6]; rfl)) ?_
      refine wl_s rfl (want_n rfl rfl rfl rfl (by rw [hg1_6]; rfl)) ?_
      refine wl_v (x_pickF (tmB rfl rfl) hg1_6 ev_c) ?_
      refine wl_v (x_move (tmB rfl rfl)) ?_
      refine wl_s rfl (want_n rfl rfl rfl rfl rfl) ?_
      refine wl_s rfl (want_n rfl rfl rfl rfl rfl) ?_
      refine wl_v (x_pickF (tmB rfl rfl) rfl ev_c) ?_
      refine wl_v (x_assign (tmB rfl rfl)) ?_
      refine wl_nil ?_
      refine then_n (hK2 _ _ ?_); clear hK2 K2
      refine wp_ret ?_
      refine ret1 rfl (.tmp rfl (show _ = Value.bool _ from rfl)) ?_
      refine ⟨ret_bool ?_, hS.kp⟩
      first
        | exact (decide_eq_false (fun h => by unfold rightP at h; omega)).symm
        | (rw [decide_eq_decide]; unfold rightP; omega)
  have hg1_2' := hg1_2; (try simp only [nrm] at hg1_2'); try (exfalso; first | with_reducible exact absurd hg1_2 Bool.false_ne_true | with_reducible exact absurd hg1_2.symm Bool.false_ne_true | omega | (simp at hg1_2; done))
  all_goals
   refine wl_s rfl (want_n rfl rfl rfl rfl (by rw [hg1_2]; rfl)) ?_
   refine wl_s rfl (want_n rfl rfl rfl rfl (by rw [hg1_2]; rfl)) ?_
   refine wl_v (x_pickF (tmB rfl rfl) hg1_2 ev_c) ?_
   refine wl_v (x_move (tmB rfl rfl)) ?_
   refine wl_s rfl (want_n rfl rfl rfl rfl rfl) ?_
   refine wl_s rfl (want_n rfl rfl rfl rfl rfl) ?_
   refine wl_v (x_pickF (tmB rfl rfl) rfl ev_c) ?_
   refine wl_v (x_move (tmB rfl rfl)) ?_
   refine wl_s rfl (want_n rfl rfl rfl rfl rfl) ?_
   refine wl_s rfl (want_n rfl rfl rfl rfl rfl) ?_
   refine wl_v (x_pickF (tmB rfl rfl) rfl ev_c) ?_
   refine wl_v (x_assign (tmB rfl rfl)) ?_
   refine wl_nil ?_
   refine then_n (hK2 _ _ ?_); clear hK2 K2
   refine wp_ret ?_
   refine ret1 rfl (.tmp rfl (show _ = Value.bool _ from rfl)) ?_
   refine ⟨ret_bool ?_, hS.kp⟩
   first
     | exact (decide_eq_false (fun h => by unfold rightP at h; omega)).symm
     | (rw [decide_eq_decide]; unfold rightP; omega)
def rightM (v s : Int) (o : Nat) : Prop := rightP v s ∧ o ≤ 1099511627775
instance (v s : Int) (o : Nat) : Decidable (rightM v s o) := by unfold rightM; exact inferInstance
set_option maxRecDepth 100000 in
set_option maxHeartbeats 4000000 in
theorem right13_g (v s : Int) (o : Nat) (w0 : World) :
    Calls Try.prog 48 #[.int .i64 v, .int .i64 s, .int .u64 (o : Int)] w0 fun e w' => e = .returned (.bool (decide (rightM v s o))) ∧ Kp [] w0 w' := by
  have hS := St.sv w0
  refine ent (n := 14) Try.func48 rfl rfl ?_
  refine wp_seq_k ?_; intro K1 hK1
  refine wlit ?_
  refine wl_v (x_assign ev_c) ?_
  refine wl_nil ?_
  refine then_n (hK1 _ _ ?_); clear hK1 K1
  refine wp_seq_k ?_; intro K2 hK2
  refine wlit ?_
  refine wl_v (x_move (tmI rfl rfl)) ?_
  refine wl_v (x_move (tmI rfl rfl)) ?_
  refine wl_e rfl ?_; intro K hK
  refine ow_call Try.func109 rfl rfl (evs_cons (tmI rfl rfl) <| evs_cons (tmI rfl rfl) <| evs_nil) (right12_g v s _) ?_
  rintro e w ⟨rfl, hk⟩
  refine ⟨_, rfl, ?_⟩
  replace hS := hS.kept hk
  clear hk
  refine hK _ _ ?_; clear hK K
  refine wl_v (x_move (tmB rfl rfl)) ?_
  refine gs_wl (tm (t := 10) rfl) (fun hg1_3 => ?_) (fun hg1_3 => ?_)
  · have hg1_3' := hg1_3; (try simp only [nrm] at hg1_3'); try (exfalso; first | with_reducible exact absurd hg1_3 Bool.false_ne_true | with_reducible exact absurd hg1_3.symm Bool.false_ne_true | omega | (simp at hg1_3; done))
    all_goals
     refine wl_gv (want_y rfl rfl rfl rfl (by rw [hg1_3]; rfl)) (x_move (tmI rfl rfl)) ?_
     refine wl_gv (want_y rfl rfl rfl rfl (by rw [hg1_3]; rfl)) (x_lss (tmI rfl rfl) (ev_cN 1099511627776)) ?_
     refine wl_v (x_pickT (tmB rfl rfl) hg1_3 (tmB rfl rfl)) ?_
     refine wl_v (x_assign (tmB rfl rfl)) ?_
     refine wl_nil ?_
     refine then_n (hK2 _ _ ?_); clear hK2 K2
     refine wp_ret ?_
     refine ret1 rfl (.tmp rfl (show _ = Value.bool _ from rfl)) ?_
     refine ⟨ret_bool ?_, hS.kp⟩
     rw [Bool.eq_iff_iff]
     simp only [decide_eq_true_iff]
     unfold rightM
     first
       | (have h : rightP v s := of_decide_eq_true hg1_3
          exact ⟨fun h2 => ⟨h, by omega⟩, fun h2 => by have := h2.2; omega⟩)
       | (have h : ¬ rightP v s := of_decide_eq_false hg1_3
          exact ⟨fun h2 => by first | (simp at h2; done) | (simp at h2; exact absurd h2 h), fun h2 => absurd h2.1 h⟩)
  have hg1_3' := hg1_3; (try simp only [nrm] at hg1_3'); try (exfalso; first | with_reducible exact absurd hg1_3 Bool.false_ne_true | with_reducible exact absurd hg1_3.symm Bool.false_ne_true | omega | (simp at hg1_3; done))
  all_goals
   refine wl_s rfl (want_n rfl rfl rfl rfl (by rw [hg1_3]; rfl)) ?_
   refine wl_s rfl (want_n rfl rfl rfl rfl (by rw [hg1_3]; rfl)) ?_
   refine wl_v (x_pickF (tmB rfl rfl) hg1_3 ev_c) ?_
   refine wl_v (x_assign (tmB rfl rfl)) ?_
   refine wl_nil ?_
   refine then_n (hK2 _ _ ?_); clear hK2 K2
   refine wp_ret ?_
   refine ret1 rfl (.tmp rfl (show _ = Value.bool _ from rfl)) ?_
   refine ⟨ret_bool ?_, hS.kp⟩
   rw [Bool.eq_iff_iff]
   simp only [decide_eq_true_iff]
   unfold rightM
   first
     | (have h : rightP v s := of_decide_eq_true hg1_3
        exact ⟨fun h2 => ⟨h, by omega⟩, fun h2 => by have := h2.2; omega⟩)
     | (have h : ¬ rightP v s := of_decide_eq_false hg1_3
        exact ⟨fun h2 => by first | (simp at h2; done) | (simp at h2; exact absurd h2 h), fun h2 => absurd h2.1 h⟩)
theorem viewT {w : World} {B : Nat} {A : Option Addr} {l : List Nat} (h : View w B A (l.map u8v)) (k : Nat) : View w B A ((l.take k).map u8v) := by rw [List.map_take]; exact h.take k
def cmaskN (k : Nat → Nat) (x : List Nat) : Nat := sipF k ([3] ++ x) % 32768
def ctagB (k : Nat → Nat) (x : List Nat) : List Nat := be (sipF k ([4] ++ x)) 5
theorem cmaskN_lt (k : Nat → Nat) (x : List Nat) : cmaskN k x < 32768 := Nat.mod_lt _ (by omega)
theorem u1_bytes {a : Nat} (h : a < 256) : Bytes [a] := by intro x hx; simp at hx; omega
set_option maxRecDepth 100000 in
set_option maxHeartbeats 4000000 in
theorem cid_mask_c (k : Nat → Nat) (A : Option Addr) (n c : Nat) (l : List Nat) (w0 : World) (hkb : Bytes (kL k)) (hv : View w0 w0.heap.size A (l.map u8v)) (hl : l.length = n) (hb : Bytes l) (hn4 : n ≤ 1000) :
    Calls Try.prog 107 #[.agg (kC k).toArray, .slice A n c] w0 fun e w' => e = .returned (.int .u16 (cmaskN k l : Int)) ∧ Kp [] w0 w' := by
  have hS := (St.sv w0).vcons rfl hv
  have hlt := sipF_lt k ([3] ++ l)
  have hfo := fun w => fold15_c (sipF k ([3] ++ l)) w (by omega)
  refine ent (n := 12) Try.func107 rfl rfl ?_
  refine wp_seq_k ?_; intro K1 hK1
  refine wlit ?_
  refine wl_e rfl ?_; intro K hK
  refine ow_box hS (tmA rfl rfl) rfl ?_
  clear hS; intro g0_0 w hg0_0 hS
  refine hK _ _ ?_; clear hK K
  refine wl_v (x_assign (ev_cN 0)) ?_
  refine wl_nil ?_
  refine then_n (hK1 _ _ ?_); clear hK1 K1
  refine wp_seq_k ?_; intro K2 hK2
  refine rg_startk 0 hS mixed_ ?_
  clear hS; intro w hS
  refine rg_take 0 rfl rfl (by kernel_rfl) (by kernel_rfl) (by kernel_rfl) (want_0) (fun w hok => x_loadA (cs := [_, _, _, _, _, _, _, _, _, _, _, _, _, _, _, _]) Try.underlying67 rfl ts_67 (tmP rfl rfl) (rangeB hok 0 rfl rfl)) ?_
  refine rg_take 2 rfl rfl (by kernel_rfl) (by kernel_rfl) (by kernel_rfl) (want_0) (fun w hok => x_move (tmS rfl rfl)) ?_
  refine rg_step 1 rfl (by kernel_rfl) (want_0) (oks_drop hS 0 rfl) ?_; intro K hK
  refine ow_build hS Try.underlying22 tz_5 (bc_take (ev_cN 3) <| bc_nil) rfl rfl (by kernel_rfl) ?_
  clear hS; intro g1_1 w hg1_1 hS
  refine hK _ _ ?_; clear hK K
  replace hS := hS.torow 0 1 1 rfl rfl (by decide)
  refine rg_step 3 rfl (by kernel_rfl) (want_0) (oks_drop hS 1 rfl) ?_; intro K hK
  first
   | (refine ow_append hS 0 1 rfl rfl Try.underlying22 tz_5 rfl (tmS rfl rfl) (tmS rfl rfl) rfl ⟨by decide, by decide, rfl⟩ (by simp only [maxLen]; omega) (by omega) ?_; clear hS; intro g1_3 cg1_3 w hS)
   | (refine ow_append hS 0 2 rfl rfl Try.underlying22 tz_5 rfl (tmS rfl rfl) (tmS rfl rfl) rfl ⟨by decide, by decide, rfl⟩ (by simp only [maxLen]; omega) (by omega) ?_; clear hS; intro g1_3 cg1_3 w hS)
   | (refine ow_appendV hS 0 rfl (viewR hS.ok 0 rfl) Try.underlying22 tz_5 rfl (tmS rfl rfl) (tmS rfl rfl) (by first | exact u8v_one _ | (intro u hu; simp at hu; first | (rcases hu with rfl | rfl <;> rfl) | (obtain ⟨_, _, rfl⟩ := hu; rfl))) ⟨by decide, by first | rfl | (simp; done) | (simp; omega)⟩ (by simp only [maxLen]; omega) (by omega) ?_; clear hS; intro g1_3 cg1_3 w hAg1_3 hCg1_3 hS)
   | (refine ow_appendV hS 0 rfl (viewV hS.ok 2 rfl) Try.underlying22 tz_5 rfl (tmS rfl rfl) (tmS rfl rfl) (by first | exact u8v_one _ | (intro u hu; simp at hu; first | (rcases hu with rfl | rfl <;> rfl) | (obtain ⟨_, _, rfl⟩ := hu; rfl))) ⟨by decide, by first | rfl | (simp; done) | (simp; omega)⟩ (by simp only [maxLen]; omega) (by omega) ?_; clear hS; intro g1_3 cg1_3 w hAg1_3 hCg1_3 hS)
   | (refine ow_appendV hS 0 rfl View.nil_ Try.underlying22 tz_5 rfl (tmS rfl rfl) (tmS rfl rfl) (by first | exact u8v_one _ | (intro u hu; simp at hu; first | (rcases hu with rfl | rfl <;> rfl) | (obtain ⟨_, _, rfl⟩ := hu; rfl))) ⟨by decide, by first | rfl | (simp; done) | (simp; omega)⟩ (by simp only [maxLen]; omega) (by omega) ?_; clear hS; intro g1_3 cg1_3 w hAg1_3 hCg1_3 hS)
  refine hK _ _ ?_; clear hK K
  refine rg_step 4 rfl (by kernel_rfl) (want_0) (oks_drop hS 1 rfl) ?_; intro K hK
  refine ow_call Try.func129 rfl rfl (evs_cons (tmA rfl rfl) <| evs_cons (tmS rfl rfl) <| evs_nil) (sum_c k _ (1 + n) _ ([3] ++ l) _ hkb (viewR hS.ok 0 rfl) (by simp [hl]; omega) ((u1_bytes (by omega)).append hb) (by omega) (row_cap (hS.rowOk 0 rfl) (by omega))) ?_
  rintro e w ⟨rfl, hk⟩
  refine ⟨_, rfl, ?_⟩
  replace hS := hS.kept hk
  clear hk
  refine hK _ _ ?_; clear hK K
  refine rg_step 5 rfl (by kernel_rfl) (want_0) (oks_drop hS 1 rfl) ?_; intro K hK
  refine ow_call Try.func149 rfl rfl (evs_cons (tmI rfl rfl) <| evs_cons (ev_cN 15) <| evs_nil) (hfo _) ?_
  rintro e w ⟨rfl, hk⟩
  refine ⟨_, rfl, ?_⟩
  replace hS := hS.kept hk
  clear hk
  refine hK _ _ ?_; clear hK K
  first
   | refine rg_take 6 rfl rfl (by kernel_rfl) (by kernel_rfl) (by kernel_rfl) (want_0) (fun w hok => x_convN Try.underlying24 Try.underlying40 (tmI rfl rfl) (fit_u16 (by omega))) ?_
   | refine rg_take 6 rfl rfl (by kernel_rfl) (by kernel_rfl) (by kernel_rfl) (want_0) (fun w hok => x_convU Try.underlying24 Try.underlying40 (tmI rfl rfl) rfl) ?_
   | refine rg_take 6 rfl rfl (by kernel_rfl) (by kernel_rfl) (by kernel_rfl) (want_0) (fun w hok => x_conv Try.underlying24 Try.underlying40 (tmI rfl rfl)) ?_
  refine rg_take 7 rfl rfl (by kernel_rfl) (by kernel_rfl) (by kernel_rfl) (want_0) (fun w hok => x_assign (tmI rfl rfl)) ?_
  refine rg_done (oks_drop hS 1 rfl) (by kernel_rfl) ?_
  refine then_n (hK2 _ _ ?_); clear hK2 K2
  refine wp_ret ?_
  refine ret1 rfl (.tmp rfl (show _ = Value.int _ _ from rfl)) ?_
  exact ⟨rfl, hS.kp⟩
set_option maxRecDepth 100000 in
set_option maxHeartbeats 4000000 in
theorem cid_tag_c (k : Nat → Nat) (A : Option Addr) (n c : Nat) (l : List Nat) (w0 : World) (hkb : Bytes (kL k)) (hv : View w0 w0.heap.size A (l.map u8v)) (hl : l.length = n) (hb : Bytes l) (hn4 : n ≤ 1000) :
    Calls Try.prog 108 #[.agg (kC k).toArray, .slice A n c] w0 fun e w' => ∃ g, e = .returned (.slice (some ⟨g, 0, none⟩) 5 5) ∧ New w0 w' (.row (.slice (some ⟨g, 0, none⟩) 5 5) 5 1 5 ((ctagB k l).map u8v)) ∧ Kp [] w0 w' := by
  have hS := (St.sv w0).vcons rfl hv
  have hlt := sipF_lt k ([4] ++ l)
  have hpu := fun w => put_c 0 none 0 [] (sipF k ([4] ++ l)) 5 w View.nil_ rfl (by omega) (by omega) (by omega)
  refine ent (n := 11) Try.func108 rfl rfl ?_
  refine wp_seq_k ?_; intro K1 hK1
  refine wlit ?_
  refine wl_e rfl ?_; intro K hK
  refine ow_box hS (tmA rfl rfl) rfl ?_
  clear hS; intro g0_0 w hg0_0 hS
  refine hK _ _ ?_; clear hK K
  refine wl_v (x_assign ev_c) ?_
  refine wl_nil ?_
  refine then_n (hK1 _ _ ?_); clear hK1 K1
  refine wp_seq_k ?_; intro K2 hK2
  refine rg_startk 0 hS mixed_ ?_
  clear hS; intro w hS
  refine rg_take 0 rfl rfl (by kernel_rfl) (by kernel_rfl) (by kernel_rfl) (want_0) (fun w hok => x_loadA (cs := [_, _, _, _, _, _, _, _, _, _, _, _, _, _, _, _]) Try.underlying67 rfl ts_67 (tmP rfl rfl) (rangeB hok 0 rfl rfl)) ?_
  refine rg_take 2 rfl rfl (by kernel_rfl) (by kernel_rfl) (by kernel_rfl) (want_0) (fun w hok => x_move (tmS rfl rfl)) ?_
  refine rg_step 1 rfl (by kernel_rfl) (want_0) (oks_drop hS 0 rfl) ?_; intro K hK
  refine ow_build hS Try.underlying22 tz_5 (bc_take (ev_cN 4) <| bc_nil) rfl rfl (by kernel_rfl) ?_
  clear hS; intro g1_1 w hg1_1 hS
  refine hK _ _ ?_; clear hK K
  replace hS := hS.torow 0 1 1 rfl rfl (by decide)
  refine rg_step 3 rfl (by kernel_rfl) (want_0) (oks_drop hS 1 rfl) ?_; intro K hK
  first
   | (refine ow_append hS 0 1 rfl rfl Try.underlying22 tz_5 rfl (tmS rfl rfl) (tmS rfl rfl) rfl ⟨by decide, by decide, rfl⟩ (by simp only [maxLen]; omega) (by omega) ?_; clear hS; intro g1_3 cg1_3 w hS)
   | (refine ow_append hS 0 2 rfl rfl Try.underlying22 tz_5 rfl (tmS rfl rfl) (tmS rfl rfl) rfl ⟨by decide, by decide, rfl⟩ (by simp only [maxLen]; omega) (by omega) ?_; clear hS; intro g1_3 cg1_3 w hS)
   | (refine ow_appendV hS 0 rfl (viewR hS.ok 0 rfl) Try.underlying22 tz_5 rfl (tmS rfl rfl) (tmS rfl rfl) (by first | exact u8v_one _ | (intro u hu; simp at hu; first | (rcases hu with rfl | rfl <;> rfl) | (obtain ⟨_, _, rfl⟩ := hu; rfl))) ⟨by decide, by first | rfl | (simp; done) | (simp; omega)⟩ (by simp only [maxLen]; omega) (by omega) ?_; clear hS; intro g1_3 cg1_3 w hAg1_3 hCg1_3 hS)
   | (refine ow_appendV hS 0 rfl (viewV hS.ok 2 rfl) Try.underlying22 tz_5 rfl (tmS rfl rfl) (tmS rfl rfl) (by first | exact u8v_one _ | (intro u hu; simp at hu; first | (rcases hu with rfl | rfl <;> rfl) | (obtain ⟨_, _, rfl⟩ := hu; rfl))) ⟨by decide, by first | rfl | (simp; done) | (simp; omega)⟩ (by simp only [maxLen]; omega) (by omega) ?_; clear hS; intro g1_3 cg1_3 w hAg1_3 hCg1_3 hS)
   | (refine ow_appendV hS 0 rfl View.nil_ Try.underlying22 tz_5 rfl (tmS rfl rfl) (tmS rfl rfl) (by first | exact u8v_one _ | (intro u hu; simp at hu; first | (rcases hu with rfl | rfl <;> rfl) | (obtain ⟨_, _, rfl⟩ := hu; rfl))) ⟨by decide, by first | rfl | (simp; done) | (simp; omega)⟩ (by simp only [maxLen]; omega) (by omega) ?_; clear hS; intro g1_3 cg1_3 w hAg1_3 hCg1_3 hS)
  refine hK _ _ ?_; clear hK K
  refine rg_step 4 rfl (by kernel_rfl) (want_0) (oks_drop hS 1 rfl) ?_; intro K hK
  refine ow_call Try.func129 rfl rfl (evs_cons (tmA rfl rfl) <| evs_cons (tmS rfl rfl) <| evs_nil) (sum_c k _ (1 + n) _ ([4] ++ l) _ hkb (viewR hS.ok 0 rfl) (by simp [hl]; omega) ((u1_bytes (by omega)).append hb) (by omega) (row_cap (hS.rowOk 0 rfl) (by omega))) ?_
  rintro e w ⟨rfl, hk⟩
  refine ⟨_, rfl, ?_⟩
  replace hS := hS.kept hk
  clear hk
  refine hK _ _ ?_; clear hK K
  refine rg_step 5 rfl (by kernel_rfl) (want_0) (oks_drop hS 1 rfl) ?_; intro K hK
  refine ow_call Try.func105 rfl rfl (evs_cons ev_c <| evs_cons (tmI rfl rfl) <| evs_cons (ev_cN 5) <| evs_nil) (hpu _) ?_
  rintro e w ⟨g, rfl, hn, hk⟩
  refine ⟨_, rfl, ?_⟩
  replace hS := hS.add hk hn -- +rowb
  clear hn hk
  refine hK _ _ ?_; clear hK K
  refine rg_take 6 rfl rfl (by kernel_rfl) (by kernel_rfl) (by kernel_rfl) (want_0) (fun w hok => x_assign (tmS rfl rfl)) ?_
  refine rg_done (oks_drop hS 2 rfl) (by kernel_rfl) ?_
  refine then_n (hK2 _ _ ?_); clear hK2 K2
  refine wp_ret ?_
  refine ret1 rfl (.tmp rfl (show _ = Value.slice _ _ _ from rfl)) ?_
  exact ⟨g, rfl, hS.new 0 rfl rfl, hS.kp⟩
set_option maxRecDepth 100000 in
set_option maxHeartbeats 4000000 in
theorem rcid_hidden_c (k : Nat → Nat) (A : Option Addr) (n c : Nat) (l : List Nat) (x : Nat) (w0 : World) (hkb : Bytes (kL k)) (hv : View w0 w0.heap.size A (l.map u8v)) (hl : l.length = n) (hb : Bytes l) (hn4 : n ≤ 1000) (hx : x ≤ 65535) :
    Calls Try.prog 110 #[.agg (kC k).toArray, .slice A n c, .int .u16 (x : Int)] w0 fun e w' => e = .returned (.int .u16 (((x % 32768) ^^^ cmaskN k l : Nat) : Int)) ∧ Kp [] w0 w' := by
  have hS := (St.sv w0).vcons rfl hv
  have hlt := sipF_lt k ([3] ++ l)
  unfold cmaskN
  refine ent (n := 17) Try.func110 rfl rfl ?_
  refine wp_seq_k ?_; intro K1 hK1
  refine wlit ?_
  refine wl_e rfl ?_; intro K hK
  refine ow_box hS (tmA rfl rfl) rfl ?_
  clear hS; intro g0_0 w hg0_0 hS
  refine hK _ _ ?_; clear hK K
  refine wl_v (x_assign (ev_cN 0)) ?_
  refine wl_nil ?_
  refine then_n (hK1 _ _ ?_); clear hK1 K1
  refine wp_seq_k ?_; intro K2 hK2
  refine rg_startk 0 hS mixed_ ?_
  clear hS; intro w hS
  refine rg_take 0 rfl rfl (by kernel_rfl) (by kernel_rfl) (by kernel_rfl) (want_0) (fun w hok => x_move (tmI rfl rfl)) ?_
  first
   | refine rg_take 1 rfl rfl (by kernel_rfl) (by kernel_rfl) (by kernel_rfl) (want_0) (fun w hok => x_remN (tmI rfl rfl) (ev_cN 32768) (by omega)) ?_
   | refine rg_take 1 rfl rfl (by kernel_rfl) (by kernel_rfl) (by kernel_rfl) (want_0) (fun w hok => x_rem (tmI rfl rfl) (ev_cN 32768) (by omega)) ?_
  refine rg_take 2 rfl rfl (by kernel_rfl) (by kernel_rfl) (by kernel_rfl) (want_0) (fun w hok => x_loadA (cs := [_, _, _, _, _, _, _, _, _, _, _, _, _, _, _, _]) Try.underlying64 rfl ts_64 (tmP rfl rfl) (rangeB hok 0 rfl rfl)) ?_
  refine rg_take 4 rfl rfl (by kernel_rfl) (by kernel_rfl) (by kernel_rfl) (want_0) (fun w hok => x_move (tmS rfl rfl)) ?_
  refine rg_step 3 rfl (by kernel_rfl) (want_0) (oks_drop hS 0 rfl) ?_; intro K hK
  refine ow_build hS Try.underlying22 tz_5 (bc_take (ev_cN 3) <| bc_nil) rfl rfl (by kernel_rfl) ?_
  clear hS; intro g1_3 w hg1_3 hS
  refine hK _ _ ?_; clear hK K
  replace hS := hS.torow 0 1 1 rfl rfl (by decide)
  refine rg_step 5 rfl (by kernel_rfl) (want_0) (oks_drop hS 1 rfl) ?_; intro K hK
  first
   | (refine ow_append hS 0 1 rfl rfl Try.underlying22 tz_5 rfl (tmS rfl rfl) (tmS rfl rfl) rfl ⟨by decide, by decide, rfl⟩ (by simp only [maxLen]; omega) (by omega) ?_; clear hS; intro g1_5 cg1_5 w hS)
   | (refine ow_append hS 0 2 rfl rfl Try.underlying22 tz_5 rfl (tmS rfl rfl) (tmS rfl rfl) rfl ⟨by decide, by decide, rfl⟩ (by simp only [maxLen]; omega) (by omega) ?_; clear hS; intro g1_5 cg1_5 w hS)
   | (refine ow_appendV hS 0 rfl (viewR hS.ok 0 rfl) Try.underlying22 tz_5 rfl (tmS rfl rfl) (tmS rfl rfl) (by first | exact u8v_one _ | (intro u hu; simp at hu; first | (rcases hu with rfl | rfl <;> rfl) | (obtain ⟨_, _, rfl⟩ := hu; rfl))) ⟨by decide, by first | rfl | (simp; done) | (simp; omega)⟩ (by simp only [maxLen]; omega) (by omega) ?_; clear hS; intro g1_5 cg1_5 w hAg1_5 hCg1_5 hS)
   | (refine ow_appendV hS 0 rfl (viewV hS.ok 2 rfl) Try.underlying22 tz_5 rfl (tmS rfl rfl) (tmS rfl rfl) (by first | exact u8v_one _ | (intro u hu; simp at hu; first | (rcases hu with rfl | rfl <;> rfl) | (obtain ⟨_, _, rfl⟩ := hu; rfl))) ⟨by decide, by first | rfl | (simp; done) | (simp; omega)⟩ (by simp only [maxLen]; omega) (by omega) ?_; clear hS; intro g1_5 cg1_5 w hAg1_5 hCg1_5 hS)
   | (refine ow_appendV hS 0 rfl View.nil_ Try.underlying22 tz_5 rfl (tmS rfl rfl) (tmS rfl rfl) (by first | exact u8v_one _ | (intro u hu; simp at hu; first | (rcases hu with rfl | rfl <;> rfl) | (obtain ⟨_, _, rfl⟩ := hu; rfl))) ⟨by decide, by first | rfl | (simp; done) | (simp; omega)⟩ (by simp only [maxLen]; omega) (by omega) ?_; clear hS; intro g1_5 cg1_5 w hAg1_5 hCg1_5 hS)
  refine hK _ _ ?_; clear hK K
  refine rg_step 6 rfl (by kernel_rfl) (want_0) (oks_drop hS 1 rfl) ?_; intro K hK
  refine ow_call Try.func82 rfl rfl (evs_cons (tmA rfl rfl) <| evs_cons (tmS rfl rfl) <| evs_nil) (rsum_c k _ (1 + n) _ ([3] ++ l) _ hkb (viewR hS.ok 0 rfl) (by simp [hl]; omega) ((u1_bytes (by omega)).append hb) (by omega) (row_cap (hS.rowOk 0 rfl) (by omega)) (hCg1_5 (fun h => by cases h))) ?_
  rintro e w ⟨rfl, hk⟩
  refine ⟨_, rfl, ?_⟩
  replace hS := hS.kept hk
  clear hk
  refine hK _ _ ?_; clear hK K
  first
   | refine rg_take 7 rfl rfl (by kernel_rfl) (by kernel_rfl) (by kernel_rfl) (want_0) (fun w hok => x_remN (tmI rfl rfl) (ev_cN 32768) (by omega)) ?_
   | refine rg_take 7 rfl rfl (by kernel_rfl) (by kernel_rfl) (by kernel_rfl) (want_0) (fun w hok => x_rem (tmI rfl rfl) (ev_cN 32768) (by omega)) ?_
  first
   | refine rg_take 8 rfl rfl (by kernel_rfl) (by kernel_rfl) (by kernel_rfl) (want_0) (fun w hok => x_convN Try.underlying24 Try.underlying40 (tmI rfl rfl) (fit_u16 (by omega))) ?_
   | refine rg_take 8 rfl rfl (by kernel_rfl) (by kernel_rfl) (by kernel_rfl) (want_0) (fun w hok => x_convU Try.underlying24 Try.underlying40 (tmI rfl rfl) rfl) ?_
   | refine rg_take 8 rfl rfl (by kernel_rfl) (by kernel_rfl) (by kernel_rfl) (want_0) (fun w hok => x_conv Try.underlying24 Try.underlying40 (tmI rfl rfl)) ?_
  refine rg_take 9 rfl rfl (by kernel_rfl) (by kernel_rfl) (by kernel_rfl) (want_0) (fun w hok => x_xorN (tmI rfl rfl) (tmI rfl rfl) (fit_u16 (by omega)) (fit_u16 (by omega))) ?_
  refine rg_take 10 rfl rfl (by kernel_rfl) (by kernel_rfl) (by kernel_rfl) (want_0) (fun w hok => x_assign (tmI rfl rfl)) ?_
  refine rg_done (oks_drop hS 1 rfl) (by kernel_rfl) ?_
  refine then_n (hK2 _ _ ?_); clear hK2 K2
  refine wp_ret ?_
  refine ret1 rfl (.tmp rfl (show _ = Value.int _ _ from rfl)) ?_
  exact ⟨rfl, hS.kp⟩
set_option maxRecDepth 100000 in
set_option maxHeartbeats 4000000 in
theorem rcid_tag_c (k : Nat → Nat) (A : Option Addr) (n c : Nat) (l : List Nat) (w0 : World) (hkb : Bytes (kL k)) (hv : View w0 w0.heap.size A (l.map u8v)) (hl : l.length = n) (hb : Bytes l) (hn4 : n ≤ 1000) :
    Calls Try.prog 111 #[.agg (kC k).toArray, .slice A n c] w0 fun e w' => ∃ g, e = .returned (.slice (some ⟨g, 0, none⟩) 5 5) ∧ New w0 w' (.row (.slice (some ⟨g, 0, none⟩) 5 5) 5 1 5 ((ctagB k l).map u8v)) ∧ Kp [] w0 w' := by
  have hS := (St.sv w0).vcons rfl hv
  have hlt := sipF_lt k ([4] ++ l)
  have hpu := fun w => rbytes_c (sipF k ([4] ++ l)) 5 w (by omega) (by omega)
  refine ent (n := 11) Try.func111 rfl rfl ?_
  refine wp_seq_k ?_; intro K1 hK1
  refine wlit ?_
  refine wl_e rfl ?_; intro K hK
  refine ow_box hS (tmA rfl rfl) rfl ?_
  clear hS; intro g0_0 w hg0_0 hS
  refine hK _ _ ?_; clear hK K
  refine wl_v (x_assign ev_c) ?_
  refine wl_nil ?_
  refine then_n (hK1 _ _ ?_); clear hK1 K1
  refine wp_seq_k ?_; intro K2 hK2
  refine rg_startk 0 hS mixed_ ?_
  clear hS; intro w hS
  refine rg_take 0 rfl rfl (by kernel_rfl) (by kernel_rfl) (by kernel_rfl) (want_0) (fun w hok => x_loadA (cs := [_, _, _, _, _, _, _, _, _, _, _, _, _, _, _, _]) Try.underlying64 rfl ts_64 (tmP rfl rfl) (rangeB hok 0 rfl rfl)) ?_
  refine rg_take 2 rfl rfl (by kernel_rfl) (by kernel_rfl) (by kernel_rfl) (want_0) (fun w hok => x_move (tmS rfl rfl)) ?_
  refine rg_step 1 rfl (by kernel_rfl) (want_0) (oks_drop hS 0 rfl) ?_; intro K hK
  refine ow_build hS Try.underlying22 tz_5 (bc_take (ev_cN 4) <| bc_nil) rfl rfl (by kernel_rfl) ?_
  clear hS; intro g1_1 w hg1_1 hS
  refine hK _ _ ?_; clear hK K
  replace hS := hS.torow 0 1 1 rfl rfl (by decide)
  refine rg_step 3 rfl (by kernel_rfl) (want_0) (oks_drop hS 1 rfl) ?_; intro K hK
  first
   | (refine ow_append hS 0 1 rfl rfl Try.underlying22 tz_5 rfl (tmS rfl rfl) (tmS rfl rfl) rfl ⟨by decide, by decide, rfl⟩ (by simp only [maxLen]; omega) (by omega) ?_; clear hS; intro g1_3 cg1_3 w hS)
   | (refine ow_append hS 0 2 rfl rfl Try.underlying22 tz_5 rfl (tmS rfl rfl) (tmS rfl rfl) rfl ⟨by decide, by decide, rfl⟩ (by simp only [maxLen]; omega) (by omega) ?_; clear hS; intro g1_3 cg1_3 w hS)
   | (refine ow_appendV hS 0 rfl (viewR hS.ok 0 rfl) Try.underlying22 tz_5 rfl (tmS rfl rfl) (tmS rfl rfl) (by first | exact u8v_one _ | (intro u hu; simp at hu; first | (rcases hu with rfl | rfl <;> rfl) | (obtain ⟨_, _, rfl⟩ := hu; rfl))) ⟨by decide, by first | rfl | (simp; done) | (simp; omega)⟩ (by simp only [maxLen]; omega) (by omega) ?_; clear hS; intro g1_3 cg1_3 w hAg1_3 hCg1_3 hS)
   | (refine ow_appendV hS 0 rfl (viewV hS.ok 2 rfl) Try.underlying22 tz_5 rfl (tmS rfl rfl) (tmS rfl rfl) (by first | exact u8v_one _ | (intro u hu; simp at hu; first | (rcases hu with rfl | rfl <;> rfl) | (obtain ⟨_, _, rfl⟩ := hu; rfl))) ⟨by decide, by first | rfl | (simp; done) | (simp; omega)⟩ (by simp only [maxLen]; omega) (by omega) ?_; clear hS; intro g1_3 cg1_3 w hAg1_3 hCg1_3 hS)
   | (refine ow_appendV hS 0 rfl View.nil_ Try.underlying22 tz_5 rfl (tmS rfl rfl) (tmS rfl rfl) (by first | exact u8v_one _ | (intro u hu; simp at hu; first | (rcases hu with rfl | rfl <;> rfl) | (obtain ⟨_, _, rfl⟩ := hu; rfl))) ⟨by decide, by first | rfl | (simp; done) | (simp; omega)⟩ (by simp only [maxLen]; omega) (by omega) ?_; clear hS; intro g1_3 cg1_3 w hAg1_3 hCg1_3 hS)
  refine hK _ _ ?_; clear hK K
  refine rg_step 4 rfl (by kernel_rfl) (want_0) (oks_drop hS 1 rfl) ?_; intro K hK
  refine ow_call Try.func82 rfl rfl (evs_cons (tmA rfl rfl) <| evs_cons (tmS rfl rfl) <| evs_nil) (rsum_c k _ (1 + n) _ ([4] ++ l) _ hkb (viewR hS.ok 0 rfl) (by simp [hl]; omega) ((u1_bytes (by omega)).append hb) (by omega) (row_cap (hS.rowOk 0 rfl) (by omega)) (hCg1_3 (fun h => by cases h))) ?_
  rintro e w ⟨rfl, hk⟩
  refine ⟨_, rfl, ?_⟩
  replace hS := hS.kept hk
  clear hk
  refine hK _ _ ?_; clear hK K
  refine rg_step 5 rfl (by kernel_rfl) (want_0) (oks_drop hS 1 rfl) ?_; intro K hK
  refine ow_call Try.func106 rfl rfl (evs_cons (tmI rfl rfl) <| evs_cons (ev_cN 5) <| evs_nil) (hpu _) ?_
  rintro e w ⟨g, rfl, hn, hk⟩
  refine ⟨_, rfl, ?_⟩
  replace hS := hS.add hk hn -- +rowb
  clear hn hk
  refine hK _ _ ?_; clear hK K
  refine rg_take 6 rfl rfl (by kernel_rfl) (by kernel_rfl) (by kernel_rfl) (want_0) (fun w hok => x_assign (tmS rfl rfl)) ?_
  refine rg_done (oks_drop hS 2 rfl) (by kernel_rfl) ?_
  refine then_n (hK2 _ _ ?_); clear hK2 K2
  refine wp_ret ?_
  refine ret1 rfl (.tmp rfl (show _ = Value.slice _ _ _ from rfl)) ?_
  exact ⟨g, rfl, hS.new 0 rfl rfl, hS.kp⟩
end Go.Proofs.Ytilgolflpdpfnaa
