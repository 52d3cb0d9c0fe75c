
/- icmp: the references' Bytes, Check and Summed, kinds of messages, To, by contract. Conditions: none but bounds. -/
import Derived.Test.YtfagblcepibliaaIcmpT
namespace Go.Proofs.Ytfagblcepibliaa
open Go.RowKit
def errB (t : Nat) (six : Bool) : Bool := cond six (decide (1 ≤ t ∧ t ≤ 4)) (decide (t = 3 ∨ t = 11 ∨ t = 12))
def echoB (t : Nat) (six : Bool) : Bool := decide (t = cond six 128 8)
set_option maxRecDepth 100000 in
set_option maxHeartbeats 4000000 in
theorem icmp_error_c (t c s d : Nat) (A : Option Addr) (n k : Nat) (six : Bool) (w0 : World) :
    Calls Try.prog 69 #[.agg (msgV t c s d A n k).toArray, .bool six] w0 fun e w' => e = .returned (.bool (errB t six)) ∧ Kp [] w0 w' := by
  have hS := St.sv w0
  refine ent (n := 27) Try.func69 rfl rfl ?_
  refine wp_seq_k ?_; intro K1 hK1
  refine wlit ?_
  refine wl_e rfl ?_; intro K hK
  refine ow_box hS (tmA rfl rfl) rfl ?_
  clear hS; intro g0_0 w hg0_0 hS
  refine hK _ _ ?_; clear hK K
  refine wl_v (x_assign ev_c) ?_
  refine wl_nil ?_
  refine then_n (hK1 _ _ ?_); clear hK1 K1
  refine wp_seq_k ?_; intro K2 hK2
  refine wp_seq_k ?_; intro K3 hK3
  refine wlit ?_
  refine wl_v (x_move (tmB rfl rfl)) ?_
  refine wl_nil ?_
  refine then_n (hK3 _ _ ?_); clear hK3 K3
  refine cnd (tm rfl) (fun hc0 => ?_) (fun hc0 => ?_)
  · try (exfalso; first | with_reducible exact absurd hc0 Bool.false_ne_true | with_reducible exact absurd hc0.symm Bool.false_ne_true | (simp only [nrm] at hc0; omega) | (simp at hc0; done))
    all_goals
     try simp only [nrm] at hc0
     obtain rfl : six = true := hc0
     refine wp_seq_k ?_; intro K4 hK4
     refine wlit ?_
     refine wl_v (x_fa 0 Try.underlying85 rfl rfl ts_5 (tmP rfl rfl)) ?_
     first
      | refine wl_v (x_load Try.underlying5 rfl (tmP rfl rfl) (cellB hS.ok 0 rfl rfl)) ?_
      | refine wl_v (x_load Try.underlying5 rfl (tmP rfl rfl) (cellB hS.ok 0 rfl (getm (by omega)))) ?_
     refine wl_v (x_geq (tmI rfl rfl) (ev_cN 1)) ?_
     refine wl_v (x_move (tmB rfl rfl)) ?_
     refine gs_wl (tm (t := 9) rfl) (fun hg2_3 => ?_) (fun hg2_3 => ?_)
     · have hg2_3' := hg2_3; (try simp only [nrm] at hg2_3'); try (exfalso; first | with_reducible exact absurd hg2_3 Bool.false_ne_true | with_reducible exact absurd hg2_3.symm Bool.false_ne_true | omega | (simp at hg2_3; done))
       all_goals
        refine wl_gv (want_y rfl rfl rfl rfl (by rw [hg2_3]; rfl)) (x_fa 0 Try.underlying85 rfl rfl ts_5 (tmP rfl rfl)) ?_
        first
         | refine wl_gv (want_y rfl rfl rfl rfl (by rw [hg2_3]; rfl)) (x_load Try.underlying5 rfl (tmP rfl rfl) (cellB hS.ok 0 rfl rfl)) ?_
         | refine wl_gv (want_y rfl rfl rfl rfl (by rw [hg2_3]; rfl)) (x_load Try.underlying5 rfl (tmP rfl rfl) (cellB hS.ok 0 rfl (getm (by omega)))) ?_
        refine wl_gv (want_y rfl rfl rfl rfl (by rw [hg2_3]; rfl)) (x_leq (tmI rfl rfl) (ev_cN 4)) ?_
        refine wl_v (x_pickT (tmB rfl rfl) hg2_3 (tmB rfl rfl)) ?_
        refine wl_v (x_assign (tmB rfl rfl)) ?_
        refine wl_nil ?_
        refine then_n (hK4 _ _ ?_); clear hK4 K4
        refine wp_ret ?_
        refine then_r ?_
        refine ret1 rfl (.tmp rfl (show _ = Value.bool _ from rfl)) ?_
        refine ⟨ret_bool ?_, hS.kp⟩
        clear hS
        unfold errB
        first
          | (symm; apply decide_eq_true; show _ ∨ _; omega)
          | (symm; apply decide_eq_false; show ¬ (_ ∧ _); omega)
          | (apply decide_eq_decide.2; omega)
          | (refine decide_eq_decide.2 ?_; show _ ↔ (_ ∧ _); omega)
          | (refine decide_eq_decide.2 ?_; show _ ↔ (_ ∨ _); omega)
          | (refine decide_eq_decide.2 ?_; show _ ↔ t = 128; omega)
          | (refine decide_eq_decide.2 ?_; show _ ↔ t = 8; omega)
     have hg2_3' := hg2_3; (try simp only [nrm] at hg2_3'); try (exfalso; first | with_reducible exact absurd hg2_3 Bool.false_ne_true | with_reducible exact absurd hg2_3.symm Bool.false_ne_true | omega | (simp at hg2_3; done))
     all_goals
      refine wl_s rfl (want_n rfl rfl rfl rfl (by rw [hg2_3]; rfl)) ?_
      refine wl_s rfl (want_n rfl rfl rfl rfl (by rw [hg2_3]; rfl)) ?_
      refine wl_s rfl (want_n rfl rfl rfl rfl (by rw [hg2_3]; rfl)) ?_
      refine wl_v (x_pickF (tmB rfl rfl) hg2_3 ev_c) ?_
      refine wl_v (x_assign (tmB rfl rfl)) ?_
      refine wl_nil ?_
      refine then_n (hK4 _ _ ?_); clear hK4 K4
      refine wp_ret ?_
      refine then_r ?_
      refine ret1 rfl (.tmp rfl (show _ = Value.bool _ from rfl)) ?_
      refine ⟨ret_bool ?_, hS.kp⟩
      clear hS
      unfold errB
      first
        | (symm; apply decide_eq_true; show _ ∨ _; omega)
        | (symm; apply decide_eq_false; show ¬ (_ ∧ _); omega)
        | (apply decide_eq_decide.2; omega)
        | (refine decide_eq_decide.2 ?_; show _ ↔ (_ ∧ _); omega)
        | (refine decide_eq_decide.2 ?_; show _ ↔ (_ ∨ _); omega)
        | (refine decide_eq_decide.2 ?_; show _ ↔ t = 128; omega)
        | (refine decide_eq_decide.2 ?_; show _ ↔ t = 8; omega)
  try (exfalso; first | with_reducible exact absurd hc0 Bool.false_ne_true | with_reducible exact absurd hc0.symm Bool.false_ne_true | (simp only [nrm] at hc0; omega) | (simp at hc0; done))
  all_goals
   try simp only [nrm] at hc0
   obtain rfl : six = false := hc0
   refine wp_skip ?_
   refine then_n (hK2 _ _ ?_); clear hK2 K2
   refine wp_seq_k ?_; intro K5 hK5
   refine wlit ?_
   refine wl_v (x_fa 0 Try.underlying85 rfl rfl ts_5 (tmP rfl rfl)) ?_
   first
    | refine wl_v (x_load Try.underlying5 rfl (tmP rfl rfl) (cellB hS.ok 0 rfl rfl)) ?_
    | refine wl_v (x_load Try.underlying5 rfl (tmP rfl rfl) (cellB hS.ok 0 rfl (getm (by omega)))) ?_
   refine wl_v (x_eql (tmI rfl rfl) (ev_cN 3)) ?_
   refine wl_v (x_move (tmB rfl rfl)) ?_
   refine gs_wl (tm (t := 17) rfl) (fun hg3_3 => ?_) (fun hg3_3 => ?_)
   · have hg3_3' := hg3_3; (try simp only [nrm] at hg3_3'); try (exfalso; first | with_reducible exact absurd hg3_3 Bool.false_ne_true | with_reducible exact absurd hg3_3.symm Bool.false_ne_true | omega | (simp at hg3_3; done))
     all_goals
      refine wl_s rfl (want_n rfl rfl rfl rfl (by rw [hg3_3]; rfl)) ?_
      refine wl_s rfl (want_n rfl rfl rfl rfl (by rw [hg3_3]; rfl)) ?_
      refine wl_s rfl (want_n rfl rfl rfl rfl (by rw [hg3_3]; rfl)) ?_
      refine wl_v (x_pickT (tmB rfl rfl) hg3_3 ev_c) ?_
      refine wl_v (x_move (tmB rfl rfl)) ?_
      refine wl_s rfl (want_n rfl rfl rfl rfl rfl) ?_
      refine wl_s rfl (want_n rfl rfl rfl rfl rfl) ?_
      refine wl_s rfl (want_n rfl rfl rfl rfl rfl) ?_
      refine wl_v (x_pickT (tmB rfl rfl) rfl ev_c) ?_
      refine wl_v (x_assign (tmB rfl rfl)) ?_
      refine wl_nil ?_
      refine then_n (hK5 _ _ ?_); clear hK5 K5
      refine wp_ret ?_
      refine ret1 rfl (.tmp rfl (show _ = Value.bool _ from rfl)) ?_
      refine ⟨ret_bool ?_, hS.kp⟩
      clear hS
      unfold errB
      first
        | (symm; apply decide_eq_true; show _ ∨ _; omega)
        | (symm; apply decide_eq_false; show ¬ (_ ∧ _); omega)
        | (apply decide_eq_decide.2; omega)
        | (refine decide_eq_decide.2 ?_; show _ ↔ (_ ∧ _); omega)
        | (refine decide_eq_decide.2 ?_; show _ ↔ (_ ∨ _); omega)
        | (refine decide_eq_decide.2 ?_; show _ ↔ t = 128; omega)
        | (refine decide_eq_decide.2 ?_; show _ ↔ t = 8; omega)
   have hg3_3' := hg3_3; (try simp only [nrm] at hg3_3'); try (exfalso; first | with_reducible exact absurd hg3_3 Bool.false_ne_true | with_reducible exact absurd hg3_3.symm Bool.false_ne_true | omega | (simp at hg3_3; done))
   all_goals
    refine wl_gv (want_y rfl rfl rfl rfl (by rw [hg3_3]; rfl)) (x_fa 0 Try.underlying85 rfl rfl ts_5 (tmP rfl rfl)) ?_
    first
     | refine wl_gv (want_y rfl rfl rfl rfl (by rw [hg3_3]; rfl)) (x_load Try.underlying5 rfl (tmP rfl rfl) (cellB hS.ok 0 rfl rfl)) ?_
     | refine wl_gv (want_y rfl rfl rfl rfl (by rw [hg3_3]; rfl)) (x_load Try.underlying5 rfl (tmP rfl rfl) (cellB hS.ok 0 rfl (getm (by omega)))) ?_
    refine wl_gv (want_y rfl rfl rfl rfl (by rw [hg3_3]; rfl)) (x_eql (tmI rfl rfl) (ev_cN 11)) ?_
    refine wl_v (x_pickF (tmB rfl rfl) hg3_3 (tmB rfl rfl)) ?_
    refine wl_v (x_move (tmB rfl rfl)) ?_
    refine gs_wl (tm (t := 22) rfl) (fun hg3_8 => ?_) (fun hg3_8 => ?_)
    · have hg3_8' := hg3_8; (try simp only [nrm] at hg3_8'); try (exfalso; first | with_reducible exact absurd hg3_8 Bool.false_ne_true | with_reducible exact absurd hg3_8.symm Bool.false_ne_true | omega | (simp at hg3_8; done))
      all_goals
       refine wl_s rfl (want_n rfl rfl rfl rfl (by rw [hg3_8]; rfl)) ?_
       refine wl_s rfl (want_n rfl rfl rfl rfl (by rw [hg3_8]; rfl)) ?_
       refine wl_s rfl (want_n rfl rfl rfl rfl (by rw [hg3_8]; rfl)) ?_
       refine wl_v (x_pickT (tmB rfl rfl) hg3_8 ev_c) ?_
       refine wl_v (x_assign (tmB rfl rfl)) ?_
       refine wl_nil ?_
       refine then_n (hK5 _ _ ?_); clear hK5 K5
       refine wp_ret ?_
       refine ret1 rfl (.tmp rfl (show _ = Value.bool _ from rfl)) ?_
       refine ⟨ret_bool ?_, hS.kp⟩
       clear hS
       unfold errB
       first
         | (symm; apply decide_eq_true; show _ ∨ _; omega)
         | (symm; apply decide_eq_false; show ¬ (_ ∧ _); omega)
         | (apply decide_eq_decide.2; omega)
         | (refine decide_eq_decide.2 ?_; show _ ↔ (_ ∧ _); omega)
         | (refine decide_eq_decide.2 ?_; show _ ↔ (_ ∨ _); omega)
         | (refine decide_eq_decide.2 ?_; show _ ↔ t = 128; omega)
         | (refine decide_eq_decide.2 ?_; show _ ↔ t = 8; omega)
    have hg3_8' := hg3_8; (try simp only [nrm] at hg3_8'); try (exfalso; first | with_reducible exact absurd hg3_8 Bool.false_ne_true | with_reducible exact absurd hg3_8.symm Bool.false_ne_true | omega | (simp at hg3_8; done))
    all_goals
     refine wl_gv (want_y rfl rfl rfl rfl (by rw [hg3_8]; rfl)) (x_fa 0 Try.underlying85 rfl rfl ts_5 (tmP rfl rfl)) ?_
     first
      | refine wl_gv (want_y rfl rfl rfl rfl (by rw [hg3_8]; rfl)) (x_load Try.underlying5 rfl (tmP rfl rfl) (cellB hS.ok 0 rfl rfl)) ?_
      | refine wl_gv (want_y rfl rfl rfl rfl (by rw [hg3_8]; rfl)) (x_load Try.underlying5 rfl (tmP rfl rfl) (cellB hS.ok 0 rfl (getm (by omega)))) ?_
     refine wl_gv (want_y rfl rfl rfl rfl (by rw [hg3_8]; rfl)) (x_eql (tmI rfl rfl) (ev_cN 12)) ?_
     refine wl_v (x_pickF (tmB rfl rfl) hg3_8 (tmB rfl rfl)) ?_
     refine wl_v (x_assign (tmB rfl rfl)) ?_
     refine wl_nil ?_
     refine then_n (hK5 _ _ ?_); clear hK5 K5
     refine wp_ret ?_
     refine ret1 rfl (.tmp rfl (show _ = Value.bool _ from rfl)) ?_
     refine ⟨ret_bool ?_, hS.kp⟩
     clear hS
     unfold errB
     first
       | (symm; apply decide_eq_true; show _ ∨ _; omega)
       | (symm; apply decide_eq_false; show ¬ (_ ∧ _); omega)
       | (apply decide_eq_decide.2; omega)
       | (refine decide_eq_decide.2 ?_; show _ ↔ (_ ∧ _); omega)
       | (refine decide_eq_decide.2 ?_; show _ ↔ (_ ∨ _); omega)
       | (refine decide_eq_decide.2 ?_; show _ ↔ t = 128; omega)
       | (refine decide_eq_decide.2 ?_; show _ ↔ t = 8; omega)
set_option maxRecDepth 100000 in
set_option maxHeartbeats 4000000 in
theorem ricmp_error_c (t c s d : Nat) (A : Option Addr) (n k : Nat) (six : Bool) (w0 : World) :
    Calls Try.prog 70 #[.agg (msgV t c s d A n k).toArray, .bool six] w0 fun e w' => e = .returned (.bool (errB t six)) ∧ Kp [] w0 w' := by
  have hS := St.sv w0
  refine ent (n := 27) Try.func70 rfl rfl ?_
  refine wp_seq_k ?_; intro K1 hK1
  refine wlit ?_
  refine wl_e rfl ?_; intro K hK
  refine ow_box hS (tmA rfl rfl) rfl ?_
  clear hS; intro g0_0 w hg0_0 hS
  refine hK _ _ ?_; clear hK K
  refine wl_v (x_assign ev_c) ?_
  refine wl_nil ?_
  refine then_n (hK1 _ _ ?_); clear hK1 K1
  refine wp_seq_k ?_; intro K2 hK2
  refine wp_seq_k ?_; intro K3 hK3
  refine wlit ?_
  refine wl_v (x_move (tmB rfl rfl)) ?_
  refine wl_nil ?_
  refine then_n (hK3 _ _ ?_); clear hK3 K3
  refine cnd (tm rfl) (fun hc0 => ?_) (fun hc0 => ?_)
  · try (exfalso; first | with_reducible exact absurd hc0 Bool.false_ne_true | with_reducible exact absurd hc0.symm Bool.false_ne_true | (simp only [nrm] at hc0; omega) | (simp at hc0; done))
    all_goals
     try simp only [nrm] at hc0
     obtain rfl : six = true := hc0
     refine wp_seq_k ?_; intro K4 hK4
     refine wlit ?_
     refine wl_v (x_fa 0 Try.underlying88 rfl rfl ts_5 (tmP rfl rfl)) ?_
     first
      | refine wl_v (x_load Try.underlying5 rfl (tmP rfl rfl) (cellB hS.ok 0 rfl rfl)) ?_
      | refine wl_v (x_load Try.underlying5 rfl (tmP rfl rfl) (cellB hS.ok 0 rfl (getm (by omega)))) ?_
     refine wl_v (x_gtr (tmI rfl rfl) (ev_cN 0)) ?_
     refine wl_v (x_move (tmB rfl rfl)) ?_
     refine gs_wl (tm (t := 9) rfl) (fun hg2_3 => ?_) (fun hg2_3 => ?_)
     · have hg2_3' := hg2_3; (try simp only [nrm] at hg2_3'); try (exfalso; first | with_reducible exact absurd hg2_3 Bool.false_ne_true | with_reducible exact absurd hg2_3.symm Bool.false_ne_true | omega | (simp at hg2_3; done))
       all_goals
        refine wl_gv (want_y rfl rfl rfl rfl (by rw [hg2_3]; rfl)) (x_fa 0 Try.underlying88 rfl rfl ts_5 (tmP rfl rfl)) ?_
        first
         | refine wl_gv (want_y rfl rfl rfl rfl (by rw [hg2_3]; rfl)) (x_load Try.underlying5 rfl (tmP rfl rfl) (cellB hS.ok 0 rfl rfl)) ?_
         | refine wl_gv (want_y rfl rfl rfl rfl (by rw [hg2_3]; rfl)) (x_load Try.underlying5 rfl (tmP rfl rfl) (cellB hS.ok 0 rfl (getm (by omega)))) ?_
        refine wl_gv (want_y rfl rfl rfl rfl (by rw [hg2_3]; rfl)) (x_lss (tmI rfl rfl) (ev_cN 5)) ?_
        refine wl_v (x_pickT (tmB rfl rfl) hg2_3 (tmB rfl rfl)) ?_
        refine wl_v (x_assign (tmB rfl rfl)) ?_
        refine wl_nil ?_
        refine then_n (hK4 _ _ ?_); clear hK4 K4
        refine wp_ret ?_
        refine then_r ?_
        refine ret1 rfl (.tmp rfl (show _ = Value.bool _ from rfl)) ?_
        refine ⟨ret_bool ?_, hS.kp⟩
        clear hS
        unfold errB
        first
          | (symm; apply decide_eq_true; show _ ∨ _; omega)
          | (symm; apply decide_eq_false; show ¬ (_ ∧ _); omega)
          | (apply decide_eq_decide.2; omega)
          | (refine decide_eq_decide.2 ?_; show _ ↔ (_ ∧ _); omega)
          | (refine decide_eq_decide.2 ?_; show _ ↔ (_ ∨ _); omega)
          | (refine decide_eq_decide.2 ?_; show _ ↔ t = 128; omega)
          | (refine decide_eq_decide.2 ?_; show _ ↔ t = 8; omega)
     have hg2_3' := hg2_3; (try simp only [nrm] at hg2_3'); try (exfalso; first | with_reducible exact absurd hg2_3 Bool.false_ne_true | with_reducible exact absurd hg2_3.symm Bool.false_ne_true | omega | (simp at hg2_3; done))
     all_goals
      refine wl_s rfl (want_n rfl rfl rfl rfl (by rw [hg2_3]; rfl)) ?_
      refine wl_s rfl (want_n rfl rfl rfl rfl (by rw [hg2_3]; rfl)) ?_
      refine wl_s rfl (want_n rfl rfl rfl rfl (by rw [hg2_3]; rfl)) ?_
      refine wl_v (x_pickF (tmB rfl rfl) hg2_3 ev_c) ?_
      refine wl_v (x_assign (tmB rfl rfl)) ?_
      refine wl_nil ?_
      refine then_n (hK4 _ _ ?_); clear hK4 K4
      refine wp_ret ?_
      refine then_r ?_
      refine ret1 rfl (.tmp rfl (show _ = Value.bool _ from rfl)) ?_
      refine ⟨ret_bool ?_, hS.kp⟩
      clear hS
      unfold errB
      first
        | (symm; apply decide_eq_true; show _ ∨ _; omega)
        | (symm; apply decide_eq_false; show ¬ (_ ∧ _); omega)
        | (apply decide_eq_decide.2; omega)
        | (refine decide_eq_decide.2 ?_; show _ ↔ (_ ∧ _); omega)
        | (refine decide_eq_decide.2 ?_; show _ ↔ (_ ∨ _); omega)
        | (refine decide_eq_decide.2 ?_; show _ ↔ t = 128; omega)
        | (refine decide_eq_decide.2 ?_; show _ ↔ t = 8; omega)
  try (exfalso; first | with_reducible exact absurd hc0 Bool.false_ne_true | with_reducible exact absurd hc0.symm Bool.false_ne_true | (simp only [nrm] at hc0; omega) | (simp at hc0; done))
  all_goals
   try simp only [nrm] at hc0
   obtain rfl : six = false := hc0
   refine wp_skip ?_
   refine then_n (hK2 _ _ ?_); clear hK2 K2
   refine wp_seq_k ?_; intro K5 hK5
   refine wlit ?_
   refine wl_v (x_fa 0 Try.underlying88 rfl rfl ts_5 (tmP rfl rfl)) ?_
   first
    | refine wl_v (x_load Try.underlying5 rfl (tmP rfl rfl) (cellB hS.ok 0 rfl rfl)) ?_
    | refine wl_v (x_load Try.underlying5 rfl (tmP rfl rfl) (cellB hS.ok 0 rfl (getm (by omega)))) ?_
   refine wl_v (x_eql (tmI rfl rfl) (ev_cN 3)) ?_
   refine wl_v (x_move (tmB rfl rfl)) ?_
   refine gs_wl (tm (t := 17) rfl) (fun hg3_3 => ?_) (fun hg3_3 => ?_)
   · have hg3_3' := hg3_3; (try simp only [nrm] at hg3_3'); try (exfalso; first | with_reducible exact absurd hg3_3 Bool.false_ne_true | with_reducible exact absurd hg3_3.symm Bool.false_ne_true | omega | (simp at hg3_3; done))
     all_goals
      refine wl_s rfl (want_n rfl rfl rfl rfl (by rw [hg3_3]; rfl)) ?_
      refine wl_s rfl (want_n rfl rfl rfl rfl (by rw [hg3_3]; rfl)) ?_
      refine wl_s rfl (want_n rfl rfl rfl rfl (by rw [hg3_3]; rfl)) ?_
      refine wl_v (x_pickT (tmB rfl rfl) hg3_3 ev_c) ?_
      refine wl_v (x_move (tmB rfl rfl)) ?_
      refine wl_s rfl (want_n rfl rfl rfl rfl rfl) ?_
      refine wl_s rfl (want_n rfl rfl rfl rfl rfl) ?_
      refine wl_s rfl (want_n rfl rfl rfl rfl rfl) ?_
      refine wl_v (x_pickT (tmB rfl rfl) rfl ev_c) ?_
      refine wl_v (x_assign (tmB rfl rfl)) ?_
      refine wl_nil ?_
      refine then_n (hK5 _ _ ?_); clear hK5 K5
      refine wp_ret ?_
      refine ret1 rfl (.tmp rfl (show _ = Value.bool _ from rfl)) ?_
      refine ⟨ret_bool ?_, hS.kp⟩
      clear hS
      unfold errB
      first
        | (symm; apply decide_eq_true; show _ ∨ _; omega)
        | (symm; apply decide_eq_false; show ¬ (_ ∧ _); omega)
        | (apply decide_eq_decide.2; omega)
        | (refine decide_eq_decide.2 ?_; show _ ↔ (_ ∧ _); omega)
        | (refine decide_eq_decide.2 ?_; show _ ↔ (_ ∨ _); omega)
        | (refine decide_eq_decide.2 ?_; show _ ↔ t = 128; omega)
        | (refine decide_eq_decide.2 ?_; show _ ↔ t = 8; omega)
   have hg3_3' := hg3_3; (try simp only [nrm] at hg3_3'); try (exfalso; first | with_reducible exact absurd hg3_3 Bool.false_ne_true | with_reducible exact absurd hg3_3.symm Bool.false_ne_true | omega | (simp at hg3_3; done))
   all_goals
    refine wl_gv (want_y rfl rfl rfl rfl (by rw [hg3_3]; rfl)) (x_fa 0 Try.underlying88 rfl rfl ts_5 (tmP rfl rfl)) ?_
    first
     | refine wl_gv (want_y rfl rfl rfl rfl (by rw [hg3_3]; rfl)) (x_load Try.underlying5 rfl (tmP rfl rfl) (cellB hS.ok 0 rfl rfl)) ?_
     | refine wl_gv (want_y rfl rfl rfl rfl (by rw [hg3_3]; rfl)) (x_load Try.underlying5 rfl (tmP rfl rfl) (cellB hS.ok 0 rfl (getm (by omega)))) ?_
    refine wl_gv (want_y rfl rfl rfl rfl (by rw [hg3_3]; rfl)) (x_eql (tmI rfl rfl) (ev_cN 11)) ?_
    refine wl_v (x_pickF (tmB rfl rfl) hg3_3 (tmB rfl rfl)) ?_
    refine wl_v (x_move (tmB rfl rfl)) ?_
    refine gs_wl (tm (t := 22) rfl) (fun hg3_8 => ?_) (fun hg3_8 => ?_)
    · have hg3_8' := hg3_8; (try simp only [nrm] at hg3_8'); try (exfalso; first | with_reducible exact absurd hg3_8 Bool.false_ne_true | with_reducible exact absurd hg3_8.symm Bool.false_ne_true | omega | (simp at hg3_8; done))
      all_goals
       refine wl_s rfl (want_n rfl rfl rfl rfl (by rw [hg3_8]; rfl)) ?_
       refine wl_s rfl (want_n rfl rfl rfl rfl (by rw [hg3_8]; rfl)) ?_
       refine wl_s rfl (want_n rfl rfl rfl rfl (by rw [hg3_8]; rfl)) ?_
       refine wl_v (x_pickT (tmB rfl rfl) hg3_8 ev_c) ?_
       refine wl_v (x_assign (tmB rfl rfl)) ?_
       refine wl_nil ?_
       refine then_n (hK5 _ _ ?_); clear hK5 K5
       refine wp_ret ?_
       refine ret1 rfl (.tmp rfl (show _ = Value.bool _ from rfl)) ?_
       refine ⟨ret_bool ?_, hS.kp⟩
       clear hS
       unfold errB
       first
         | (symm; apply decide_eq_true; show _ ∨ _; omega)
         | (symm; apply decide_eq_false; show ¬ (_ ∧ _); omega)
         | (apply decide_eq_decide.2; omega)
         | (refine decide_eq_decide.2 ?_; show _ ↔ (_ ∧ _); omega)
         | (refine decide_eq_decide.2 ?_; show _ ↔ (_ ∨ _); omega)
         | (refine decide_eq_decide.2 ?_; show _ ↔ t = 128; omega)
         | (refine decide_eq_decide.2 ?_; show _ ↔ t = 8; omega)
    have hg3_8' := hg3_8; (try simp only [nrm] at hg3_8'); try (exfalso; first | with_reducible exact absurd hg3_8 Bool.false_ne_true | with_reducible exact absurd hg3_8.symm Bool.false_ne_true | omega | (simp at hg3_8; done))
    all_goals
     refine wl_gv (want_y rfl rfl rfl rfl (by rw [hg3_8]; rfl)) (x_fa 0 Try.underlying88 rfl rfl ts_5 (tmP rfl rfl)) ?_
     first
      | refine wl_gv (want_y rfl rfl rfl rfl (by rw [hg3_8]; rfl)) (x_load Try.underlying5 rfl (tmP rfl rfl) (cellB hS.ok 0 rfl rfl)) ?_
      | refine wl_gv (want_y rfl rfl rfl rfl (by rw [hg3_8]; rfl)) (x_load Try.underlying5 rfl (tmP rfl rfl) (cellB hS.ok 0 rfl (getm (by omega)))) ?_
     refine wl_gv (want_y rfl rfl rfl rfl (by rw [hg3_8]; rfl)) (x_eql (tmI rfl rfl) (ev_cN 12)) ?_
     refine wl_v (x_pickF (tmB rfl rfl) hg3_8 (tmB rfl rfl)) ?_
     refine wl_v (x_assign (tmB rfl rfl)) ?_
     refine wl_nil ?_
     refine then_n (hK5 _ _ ?_); clear hK5 K5
     refine wp_ret ?_
     refine ret1 rfl (.tmp rfl (show _ = Value.bool _ from rfl)) ?_
     refine ⟨ret_bool ?_, hS.kp⟩
     clear hS
     unfold errB
     first
       | (symm; apply decide_eq_true; show _ ∨ _; omega)
       | (symm; apply decide_eq_false; show ¬ (_ ∧ _); omega)
       | (apply decide_eq_decide.2; omega)
       | (refine decide_eq_decide.2 ?_; show _ ↔ (_ ∧ _); omega)
       | (refine decide_eq_decide.2 ?_; show _ ↔ (_ ∨ _); omega)
       | (refine decide_eq_decide.2 ?_; show _ ↔ t = 128; omega)
       | (refine decide_eq_decide.2 ?_; show _ ↔ t = 8; omega)
set_option maxRecDepth 100000 in
set_option maxHeartbeats 4000000 in
theorem icmp_echo_c (t c s d : Nat) (A : Option Addr) (n k : Nat) (six : Bool) (w0 : World) :
    Calls Try.prog 71 #[.agg (msgV t c s d A n k).toArray, .bool six] w0 fun e w' => e = .returned (.bool (echoB t six)) ∧ Kp [] w0 w' := by
  have hS := St.sv w0
  refine ent (n := 12) Try.func71 rfl rfl ?_
  refine wp_seq_k ?_; intro K1 hK1
  refine wlit ?_
  refine wl_e rfl ?_; intro K hK
  refine ow_box hS (tmA rfl rfl) rfl ?_
  clear hS; intro g0_0 w hg0_0 hS
  refine hK _ _ ?_; clear hK K
  refine wl_v (x_assign ev_c) ?_
  refine wl_nil ?_
  refine then_n (hK1 _ _ ?_); clear hK1 K1
  refine wp_seq_k ?_; intro K2 hK2
  refine wp_seq_k ?_; intro K3 hK3
  refine wlit ?_
  refine wl_v (x_move (tmB rfl rfl)) ?_
  refine wl_nil ?_
  refine then_n (hK3 _ _ ?_); clear hK3 K3
  refine cnd (tm rfl) (fun hc0 => ?_) (fun hc0 => ?_)
  · try (exfalso; first | with_reducible exact absurd hc0 Bool.false_ne_true | with_reducible exact absurd hc0.symm Bool.false_ne_true | (simp only [nrm] at hc0; omega) | (simp at hc0; done))
    all_goals
     try simp only [nrm] at hc0
     obtain rfl : six = true := hc0
     refine wp_seq_k ?_; intro K4 hK4
     refine wlit ?_
     refine wl_v (x_fa 0 Try.underlying85 rfl rfl ts_5 (tmP rfl rfl)) ?_
     first
      | refine wl_v (x_load Try.underlying5 rfl (tmP rfl rfl) (cellB hS.ok 0 rfl rfl)) ?_
      | refine wl_v (x_load Try.underlying5 rfl (tmP rfl rfl) (cellB hS.ok 0 rfl (getm (by omega)))) ?_
     refine wl_v (x_eql (tmI rfl rfl) (ev_cN 128)) ?_
     refine wl_v (x_assign (tmB rfl rfl)) ?_
     refine wl_nil ?_
     refine then_n (hK4 _ _ ?_); clear hK4 K4
     refine wp_ret ?_
     refine then_r ?_
     refine ret1 rfl (.tmp rfl (show _ = Value.bool _ from rfl)) ?_
     refine ⟨ret_bool ?_, hS.kp⟩
     clear hS
     unfold echoB
     first
       | (symm; apply decide_eq_true; show _ ∨ _; omega)
       | (symm; apply decide_eq_false; show ¬ (_ ∧ _); omega)
       | (apply decide_eq_decide.2; omega)
       | (refine decide_eq_decide.2 ?_; show _ ↔ (_ ∧ _); omega)
       | (refine decide_eq_decide.2 ?_; show _ ↔ (_ ∨ _); omega)
       | (refine decide_eq_decide.2 ?_; show _ ↔ t = 128; omega)
       | (refine decide_eq_decide.2 ?_; show _ ↔ t = 8; omega)
  try (exfalso; first | with_reducible exact absurd hc0 Bool.false_ne_true | with_reducible exact absurd hc0.symm Bool.false_ne_true | (simp only [nrm] at hc0; omega) | (simp at hc0; done))
  all_goals
   try simp only [nrm] at hc0
   obtain rfl : six = false := hc0
   refine wp_skip ?_
   refine then_n (hK2 _ _ ?_); clear hK2 K2
   refine wp_seq_k ?_; intro K5 hK5
   refine wlit ?_
   refine wl_v (x_fa 0 Try.underlying85 rfl rfl ts_5 (tmP rfl rfl)) ?_
   first
    | refine wl_v (x_load Try.underlying5 rfl (tmP rfl rfl) (cellB hS.ok 0 rfl rfl)) ?_
    | refine wl_v (x_load Try.underlying5 rfl (tmP rfl rfl) (cellB hS.ok 0 rfl (getm (by omega)))) ?_
   refine wl_v (x_eql (tmI rfl rfl) (ev_cN 8)) ?_
   refine wl_v (x_assign (tmB rfl rfl)) ?_
   refine wl_nil ?_
   refine then_n (hK5 _ _ ?_); clear hK5 K5
   refine wp_ret ?_
   refine ret1 rfl (.tmp rfl (show _ = Value.bool _ from rfl)) ?_
   refine ⟨ret_bool ?_, hS.kp⟩
   clear hS
   unfold echoB
   first
     | (symm; apply decide_eq_true; show _ ∨ _; omega)
     | (symm; apply decide_eq_false; show ¬ (_ ∧ _); omega)
     | (apply decide_eq_decide.2; omega)
     | (refine decide_eq_decide.2 ?_; show _ ↔ (_ ∧ _); omega)
     | (refine decide_eq_decide.2 ?_; show _ ↔ (_ ∨ _); omega)
     | (refine decide_eq_decide.2 ?_; show _ ↔ t = 128; omega)
     | (refine decide_eq_decide.2 ?_; show _ ↔ t = 8; omega)

set_option maxRecDepth 100000 in
set_option maxHeartbeats 4000000 in
theorem to08_c (t c s d : Nat) (A : Option Addr) (n k : Nat) (w0 : World) :
    Calls Try.prog 66 #[.agg (msgV t c s d A n k).toArray] w0 fun e w' => e = .returned (.agg (msgV t c s d A n k).toArray) ∧ Kp [] w0 w' := by
  have hS := St.sv w0
  refine ent (n := 14) Try.func66 rfl rfl ?_
  refine wp_seq_k ?_; intro K1 hK1
  refine wlit ?_
  refine wl_e rfl ?_; intro K hK
  refine ow_box hS (tmA rfl rfl) rfl ?_
  clear hS; intro g0_0 w hg0_0 hS
  refine hK _ _ ?_; clear hK K
  refine wl_e rfl ?_; intro K hK
  refine ow_alloc hS tz_85 rfl ?_
  clear hS; intro g0_1 w hg0_1 hS
  refine hK _ _ ?_; clear hK K
  refine wl_nil ?_
  refine then_n (hK1 _ _ ?_); clear hK1 K1
  refine wp_seq_k ?_; intro K2 hK2
  refine wlit ?_
  refine wl_v (x_fa 0 Try.underlying88 rfl rfl ts_5 (tmP rfl rfl)) ?_
  first
   | refine wl_v (x_load Try.underlying5 rfl (tmP rfl rfl) (cellB hS.ok 1 rfl rfl)) ?_
   | refine wl_v (x_load Try.underlying5 rfl (tmP rfl rfl) (cellB hS.ok 1 rfl (getm (by omega)))) ?_
  refine wl_v (x_fa 1 Try.underlying88 rfl rfl ts_5 (tmP rfl rfl)) ?_
  first
   | refine wl_v (x_load Try.underlying5 rfl (tmP rfl rfl) (cellB hS.ok 1 rfl rfl)) ?_
   | refine wl_v (x_load Try.underlying5 rfl (tmP rfl rfl) (cellB hS.ok 1 rfl (getm (by omega)))) ?_
  refine wl_v (x_fa 2 Try.underlying88 rfl rfl ts_24 (tmP rfl rfl)) ?_
  first
   | refine wl_v (x_load Try.underlying24 rfl (tmP rfl rfl) (cellB hS.ok 1 rfl rfl)) ?_
   | refine wl_v (x_load Try.underlying24 rfl (tmP rfl rfl) (cellB hS.ok 1 rfl (getm (by omega)))) ?_
  refine wl_v (x_fa 3 Try.underlying88 rfl rfl ts_50 (tmP rfl rfl)) ?_
  first
   | refine wl_v (x_load Try.underlying50 rfl (tmP rfl rfl) (cellB hS.ok 1 rfl rfl)) ?_
   | refine wl_v (x_load Try.underlying50 rfl (tmP rfl rfl) (cellB hS.ok 1 rfl (getm (by omega)))) ?_
  refine wl_v (x_fa 4 Try.underlying88 rfl rfl ts_22 (tmP rfl rfl)) ?_
  first
   | refine wl_v (x_load Try.underlying22 rfl (tmP rfl rfl) (cellB hS.ok 1 rfl rfl)) ?_
   | refine wl_v (x_load Try.underlying22 rfl (tmP rfl rfl) (cellB hS.ok 1 rfl (getm (by omega)))) ?_
  refine wl_v (x_build (bc_take (tmI rfl rfl) <| bc_take (tmI rfl rfl) <| bc_take (tmI rfl rfl) <| bc_take (tmI rfl rfl) <| bc_take (tmS rfl rfl) <| bc_nil) (by kernel_rfl)) ?_
  refine wl_e rfl ?_; intro K hK
  refine ow_storeA hS 0 rfl ts_85 (tmP rfl rfl) (tmA rfl rfl) rfl rfl rfl ?_
  clear hS; intro w hS
  try replace hS := St.nm (M' := [.blk _ _ [_, _, _, _, _], .blk _ _ [_, _, _, _, _], _]) hS rfl
  refine hK _ _ ?_; clear hK K
  refine wl_nil ?_
  refine then_n (hK2 _ _ ?_); clear hK2 K2
  refine wp_ret ?_
  refine ret1 rfl (.cell rfl rfl (load_rowB (cs := [_, _, _, _, _]) hS.ok 0 rfl Try.underlying85 rfl ts_85 rfl)) ?_
  exact ⟨rfl, hS.kp⟩

set_option maxRecDepth 100000 in
set_option maxHeartbeats 8000000 in
theorem ricmp_bytes_c (t c s d : Nat) (A : Option Addr) (n k : Nat) (l : List Nat) (w0 : World) (hv : View w0 w0.heap.size A (l.map u8v)) (hl : l.length = n) (hn4 : n ≤ 900000) (h1 : t ≤ 255) (h2 : c ≤ 255) (h3 : s ≤ 65535) (h4 : d ≤ 4294967295) :
    Calls Try.prog 68 #[.agg (msgV t c s d A n k).toArray] w0 fun e w' => ∃ A' m c', m = (icmpB t c s d l).length ∧ e = .returned (.slice A' m c') ∧ New w0 w' (.row (.slice A' m c') 5 1 m ((icmpB t c s d l).map u8v)) ∧ Kp [] w0 w' := by
  have hS := (St.sv w0).vcons rfl hv
  have hlen := icmpB_len t c s d l
  have hjo : ∀ (G1 G2 G3 : Option Addr) (j1 j2 j3 : Nat), joined [(G1, [t, c], j1), (G2, be s 2, j2), (G3, be d 4, j3), (A, l, k)] = icmpB t c s d l := by
    intro G1 G2 G3 j1 j2 j3
    have e1 : be t 1 = [t] := by rw [be_one]; congr 1; omega
    have e2 : be c 1 = [c] := by rw [be_one]; congr 1; omega
    simp only [joined, icmpB, e1, e2, List.map_cons, List.map_nil, List.flatten_cons, List.flatten_nil, List.append_nil, List.nil_append, List.append_assoc, List.cons_append]
  refine ent (n := 20) Try.func68 rfl rfl ?_
  refine wp_seq_k ?_; intro K1 hK1
  refine wlit ?_
  refine wl_e rfl ?_; intro K hK
  refine ow_box hS (tmA rfl rfl) rfl ?_
  clear hS; intro g0_0 w hg0_0 hS
  refine hK _ _ ?_; clear hK K
  refine wl_v (x_assign ev_c) ?_
  refine wl_nil ?_
  refine then_n (hK1 _ _ ?_); clear hK1 K1
  refine wp_seq_k ?_; intro K2 hK2
  refine rg_startk 0 hS mixed_ ?_
  clear hS; intro w hS
  refine rg_take 0 rfl rfl (by kernel_rfl) (by kernel_rfl) (by kernel_rfl) (want_0) (fun w hok => x_fa 0 Try.underlying88 rfl rfl ts_5 (tmP rfl rfl)) ?_
  first
   | refine rg_take 1 rfl rfl (by kernel_rfl) (by kernel_rfl) (by kernel_rfl) (want_0) (fun w hok => x_load Try.underlying5 rfl (tmP rfl rfl) (cellB hok 0 rfl rfl)) ?_
   | refine rg_take 1 rfl rfl (by kernel_rfl) (by kernel_rfl) (by kernel_rfl) (want_0) (fun w hok => x_load Try.underlying5 rfl (tmP rfl rfl) (cellB hok 0 rfl (getm (by omega)))) ?_
  refine rg_take 2 rfl rfl (by kernel_rfl) (by kernel_rfl) (by kernel_rfl) (want_0) (fun w hok => x_fa 1 Try.underlying88 rfl rfl ts_5 (tmP rfl rfl)) ?_
  first
   | refine rg_take 3 rfl rfl (by kernel_rfl) (by kernel_rfl) (by kernel_rfl) (want_0) (fun w hok => x_load Try.underlying5 rfl (tmP rfl rfl) (cellB hok 0 rfl rfl)) ?_
   | refine rg_take 3 rfl rfl (by kernel_rfl) (by kernel_rfl) (by kernel_rfl) (want_0) (fun w hok => x_load Try.underlying5 rfl (tmP rfl rfl) (cellB hok 0 rfl (getm (by omega)))) ?_
  refine rg_take 5 rfl rfl (by kernel_rfl) (by kernel_rfl) (by kernel_rfl) (want_0) (fun w hok => x_fa 2 Try.underlying88 rfl rfl ts_24 (tmP rfl rfl)) ?_
  first
   | refine rg_take 6 rfl rfl (by kernel_rfl) (by kernel_rfl) (by kernel_rfl) (want_0) (fun w hok => x_load Try.underlying24 rfl (tmP rfl rfl) (cellB hok 0 rfl rfl)) ?_
   | refine rg_take 6 rfl rfl (by kernel_rfl) (by kernel_rfl) (by kernel_rfl) (want_0) (fun w hok => x_load Try.underlying24 rfl (tmP rfl rfl) (cellB hok 0 rfl (getm (by omega)))) ?_
  first
   | refine rg_take 7 rfl rfl (by kernel_rfl) (by kernel_rfl) (by kernel_rfl) (want_0) (fun w hok => x_convN Try.underlying24 Try.underlying25 (tmI rfl rfl) (fit_u64 (by omega))) ?_
   | refine rg_take 7 rfl rfl (by kernel_rfl) (by kernel_rfl) (by kernel_rfl) (want_0) (fun w hok => x_convU Try.underlying24 Try.underlying25 (tmI rfl rfl) rfl) ?_
   | refine rg_take 7 rfl rfl (by kernel_rfl) (by kernel_rfl) (by kernel_rfl) (want_0) (fun w hok => x_conv Try.underlying24 Try.underlying25 (tmI rfl rfl)) ?_
  refine rg_take 9 rfl rfl (by kernel_rfl) (by kernel_rfl) (by kernel_rfl) (want_0) (fun w hok => x_fa 3 Try.underlying88 rfl rfl ts_50 (tmP rfl rfl)) ?_
  first
   | refine rg_take 10 rfl rfl (by kernel_rfl) (by kernel_rfl) (by kernel_rfl) (want_0) (fun w hok => x_load Try.underlying50 rfl (tmP rfl rfl) (cellB hok 0 rfl rfl)) ?_
   | refine rg_take 10 rfl rfl (by kernel_rfl) (by kernel_rfl) (by kernel_rfl) (want_0) (fun w hok => x_load Try.underlying50 rfl (tmP rfl rfl) (cellB hok 0 rfl (getm (by omega)))) ?_
  first
   | refine rg_take 11 rfl rfl (by kernel_rfl) (by kernel_rfl) (by kernel_rfl) (want_0) (fun w hok => x_convN Try.underlying50 Try.underlying25 (tmI rfl rfl) (fit_u64 (by omega))) ?_
   | refine rg_take 11 rfl rfl (by kernel_rfl) (by kernel_rfl) (by kernel_rfl) (want_0) (fun w hok => x_convU Try.underlying50 Try.underlying25 (tmI rfl rfl) rfl) ?_
   | refine rg_take 11 rfl rfl (by kernel_rfl) (by kernel_rfl) (by kernel_rfl) (want_0) (fun w hok => x_conv Try.underlying50 Try.underlying25 (tmI rfl rfl)) ?_
  refine rg_take 13 rfl rfl (by kernel_rfl) (by kernel_rfl) (by kernel_rfl) (want_0) (fun w hok => x_fa 4 Try.underlying88 rfl rfl ts_22 (tmP rfl rfl)) ?_
  first
   | refine rg_take 14 rfl rfl (by kernel_rfl) (by kernel_rfl) (by kernel_rfl) (want_0) (fun w hok => x_load Try.underlying22 rfl (tmP rfl rfl) (cellB hok 0 rfl rfl)) ?_
   | refine rg_take 14 rfl rfl (by kernel_rfl) (by kernel_rfl) (by kernel_rfl) (want_0) (fun w hok => x_load Try.underlying22 rfl (tmP rfl rfl) (cellB hok 0 rfl (getm (by omega)))) ?_
  refine rg_step2 4 8 rfl rfl (by kernel_rfl) (want_0) (want_0) (oks_drop hS 0 rfl) ?_ ?_
  · intro K hK
    refine ow_build hS Try.underlying22 tz_5 (bc_take (tmI rfl rfl) <| bc_take (tmI rfl rfl) <| bc_nil) rfl rfl (by kernel_rfl) ?_
    clear hS; intro g1_4 w hg1_4 hS
    refine hK _ _ ?_; clear hK K
    refine rg_step 8 rfl (by kernel_rfl) (want_0) (oks_drop hS 1 rfl) ?_; intro K hK
    refine ow_call Try.func115 rfl rfl (evs_cons (tmI rfl rfl) <| evs_cons (ev_cN 2) <| evs_nil) (rbytes_c s 2 _ (by omega) (by omega)) ?_
    rintro e w ⟨ga, rfl, hn, hk⟩
    refine ⟨_, rfl, ?_⟩
    replace hS := hS.add hk hn -- +rowa
    clear hn hk
    refine hK _ _ ?_; clear hK K
    refine rg_step 12 rfl (by kernel_rfl) (want_0) (oks_drop hS 2 rfl) ?_; intro K hK
    refine ow_call Try.func115 rfl rfl (evs_cons (tmI rfl rfl) <| evs_cons (ev_cN 4) <| evs_nil) (rbytes_c d 4 _ (by omega) (by omega)) ?_
    rintro e w ⟨gb, rfl, hn, hk⟩
    refine ⟨_, rfl, ?_⟩
    replace hS := hS.add hk hn -- +rowb
    clear hn hk
    refine hK _ _ ?_; clear hK K
    refine rg_step 15 rfl (by kernel_rfl) (want_0) (oks_drop hS 3 rfl) ?_; intro K hK
    refine ow_build hS Try.underlying117 tz_22 (bc_take (tmS rfl rfl) <| bc_take (tmS rfl rfl) <| bc_take (tmS rfl rfl) <| bc_take (tmS rfl rfl) <| bc_nil) rfl rfl (by kernel_rfl) ?_
    clear hS; intro g1_15 w hg1_15 hS
    refine hK _ _ ?_; clear hK K
    refine rg_step 16 rfl (by kernel_rfl) (want_0) (oks_drop hS 4 rfl) ?_; intro K hK
    refine ow_call Try.func114 rfl rfl (evs_cons (tmS rfl rfl) <| evs_nil) (join_c 4 _ _ [(some ⟨g1_4, 0, none⟩, [t, c], 2), (some ⟨ga, 0, none⟩, be s 2, 2), (some ⟨gb, 0, none⟩, be d 4, 4), (A, l, k)] _ (by have h := viewB hS.ok 0 rfl; simp only [List.map_cons, List.map_nil, rowV, hl]; exact h) (seen_cons (viewB hS.ok 3 rfl) <| seen_cons (viewR hS.ok 2 rfl) <| seen_cons (viewR hS.ok 1 rfl) <| seen_cons (viewV hS.ok 5 rfl) seen_nil) rfl (by omega) (by rw [hjo, hlen]; omega)) ?_
    rintro e w ⟨Aj, mj, cj, hmj, rfl, hn, hk⟩
    refine ⟨_, rfl, ?_⟩
    rw [hjo] at hn hmj
    replace hS := hS.add hk hn -- +rowj
    clear hn hk
    refine hK _ _ ?_; clear hK K
    refine rg_take 17 rfl rfl (by kernel_rfl) (by kernel_rfl) (by kernel_rfl) (want_0) (fun w hok => x_assign (tmS rfl rfl)) ?_
    refine rg_done (oks_drop hS 5 rfl) (by kernel_rfl) ?_
    refine then_n (hK2 _ _ ?_); clear hK2 K2
    refine wp_ret ?_
    refine ret1 rfl (.tmp rfl (show _ = Value.slice _ _ _ from rfl)) ?_
    exact ⟨_, _, _, hmj, rfl, hS.new 0 rfl rfl, hS.kp⟩
  · intro K hK
    refine ow_call Try.func115 rfl rfl (evs_cons (tmI rfl rfl) <| evs_cons (ev_cN 2) <| evs_nil) (rbytes_c s 2 _ (by omega) (by omega)) ?_
    rintro e w ⟨ga, rfl, hn, hk⟩
    refine ⟨_, rfl, ?_⟩
    replace hS := hS.add hk hn -- +rowa
    clear hn hk
    refine hK _ _ ?_; clear hK K
    refine rg_step2 4 12 rfl rfl (by kernel_rfl) (want_0) (want_0) (oks_drop hS 1 rfl) ?_ ?_
    · intro K hK
      refine ow_build hS Try.underlying22 tz_5 (bc_take (tmI rfl rfl) <| bc_take (tmI rfl rfl) <| bc_nil) rfl rfl (by kernel_rfl) ?_
      clear hS; intro g1_4 w hg1_4 hS
      refine hK _ _ ?_; clear hK K
      refine rg_step 12 rfl (by kernel_rfl) (want_0) (oks_drop hS 2 rfl) ?_; intro K hK
      refine ow_call Try.func115 rfl rfl (evs_cons (tmI rfl rfl) <| evs_cons (ev_cN 4) <| evs_nil) (rbytes_c d 4 _ (by omega) (by omega)) ?_
      rintro e w ⟨gb, rfl, hn, hk⟩
      refine ⟨_, rfl, ?_⟩
      replace hS := hS.add hk hn -- +rowb
      clear hn hk
      refine hK _ _ ?_; clear hK K
      refine rg_step 15 rfl (by kernel_rfl) (want_0) (oks_drop hS 3 rfl) ?_; intro K hK
      refine ow_build hS Try.underlying117 tz_22 (bc_take (tmS rfl rfl) <| bc_take (tmS rfl rfl) <| bc_take (tmS rfl rfl) <| bc_take (tmS rfl rfl) <| bc_nil) rfl rfl (by kernel_rfl) ?_
      clear hS; intro g1_15 w hg1_15 hS
      refine hK _ _ ?_; clear hK K
      refine rg_step 16 rfl (by kernel_rfl) (want_0) (oks_drop hS 4 rfl) ?_; intro K hK
      refine ow_call Try.func114 rfl rfl (evs_cons (tmS rfl rfl) <| evs_nil) (join_c 4 _ _ [(some ⟨g1_4, 0, none⟩, [t, c], 2), (some ⟨ga, 0, none⟩, be s 2, 2), (some ⟨gb, 0, none⟩, be d 4, 4), (A, l, k)] _ (by have h := viewB hS.ok 0 rfl; simp only [List.map_cons, List.map_nil, rowV, hl]; exact h) (seen_cons (viewB hS.ok 2 rfl) <| seen_cons (viewR hS.ok 3 rfl) <| seen_cons (viewR hS.ok 1 rfl) <| seen_cons (viewV hS.ok 5 rfl) seen_nil) rfl (by omega) (by rw [hjo, hlen]; omega)) ?_
      rintro e w ⟨Aj, mj, cj, hmj, rfl, hn, hk⟩
      refine ⟨_, rfl, ?_⟩
      rw [hjo] at hn hmj
      replace hS := hS.add hk hn -- +rowj
      clear hn hk
      refine hK _ _ ?_; clear hK K
      refine rg_take 17 rfl rfl (by kernel_rfl) (by kernel_rfl) (by kernel_rfl) (want_0) (fun w hok => x_assign (tmS rfl rfl)) ?_
      refine rg_done (oks_drop hS 5 rfl) (by kernel_rfl) ?_
      refine then_n (hK2 _ _ ?_); clear hK2 K2
      refine wp_ret ?_
      refine ret1 rfl (.tmp rfl (show _ = Value.slice _ _ _ from rfl)) ?_
      exact ⟨_, _, _, hmj, rfl, hS.new 0 rfl rfl, hS.kp⟩
    · intro K hK
      refine ow_call Try.func115 rfl rfl (evs_cons (tmI rfl rfl) <| evs_cons (ev_cN 4) <| evs_nil) (rbytes_c d 4 _ (by omega) (by omega)) ?_
      rintro e w ⟨gb, rfl, hn, hk⟩
      refine ⟨_, rfl, ?_⟩
      replace hS := hS.add hk hn -- +rowb
      clear hn hk
      refine hK _ _ ?_; clear hK K
      refine rg_step 4 rfl (by kernel_rfl) (want_0) (oks_drop hS 2 rfl) ?_; intro K hK
      refine ow_build hS Try.underlying22 tz_5 (bc_take (tmI rfl rfl) <| bc_take (tmI rfl rfl) <| bc_nil) rfl rfl (by kernel_rfl) ?_
      clear hS; intro g1_4 w hg1_4 hS
      refine hK _ _ ?_; clear hK K
      refine rg_step 15 rfl (by kernel_rfl) (want_0) (oks_drop hS 3 rfl) ?_; intro K hK
      refine ow_build hS Try.underlying117 tz_22 (bc_take (tmS rfl rfl) <| bc_take (tmS rfl rfl) <| bc_take (tmS rfl rfl) <| bc_take (tmS rfl rfl) <| bc_nil) rfl rfl (by kernel_rfl) ?_
      clear hS; intro g1_15 w hg1_15 hS
      refine hK _ _ ?_; clear hK K
      refine rg_step 16 rfl (by kernel_rfl) (want_0) (oks_drop hS 4 rfl) ?_; intro K hK
      refine ow_call Try.func114 rfl rfl (evs_cons (tmS rfl rfl) <| evs_nil) (join_c 4 _ _ [(some ⟨g1_4, 0, none⟩, [t, c], 2), (some ⟨ga, 0, none⟩, be s 2, 2), (some ⟨gb, 0, none⟩, be d 4, 4), (A, l, k)] _ (by have h := viewB hS.ok 0 rfl; simp only [List.map_cons, List.map_nil, rowV, hl]; exact h) (seen_cons (viewB hS.ok 1 rfl) <| seen_cons (viewR hS.ok 3 rfl) <| seen_cons (viewR hS.ok 2 rfl) <| seen_cons (viewV hS.ok 5 rfl) seen_nil) rfl (by omega) (by rw [hjo, hlen]; omega)) ?_
      rintro e w ⟨Aj, mj, cj, hmj, rfl, hn, hk⟩
      refine ⟨_, rfl, ?_⟩
      rw [hjo] at hn hmj
      replace hS := hS.add hk hn -- +rowj
      clear hn hk
      refine hK _ _ ?_; clear hK K
      refine rg_take 17 rfl rfl (by kernel_rfl) (by kernel_rfl) (by kernel_rfl) (want_0) (fun w hok => x_assign (tmS rfl rfl)) ?_
      refine rg_done (oks_drop hS 5 rfl) (by kernel_rfl) ?_
      refine then_n (hK2 _ _ ?_); clear hK2 K2
      refine wp_ret ?_
      refine ret1 rfl (.tmp rfl (show _ = Value.slice _ _ _ from rfl)) ?_
      exact ⟨_, _, _, hmj, rfl, hS.new 0 rfl rfl, hS.kp⟩

set_option maxRecDepth 100000 in
set_option maxHeartbeats 8000000 in
theorem ricmp_check_c (t c s d : Nat) (A : Option Addr) (n k : Nat) (l : List Nat) (a b : Ad) (w0 : World) (hv : View w0 w0.heap.size A (l.map u8v)) (hl : l.length = n) (hb : Bytes l) (h6 : a.six = b.six) (hla : adLim a) (hlb : adLim b) (hn4 : n ≤ 60000) (h1 : t ≤ 255) (h2 : c ≤ 255) (h3 : s ≤ 65535) (h4 : d ≤ 4294967295) :
    Calls Try.prog 75 #[.agg (msgV t c s d A n k).toArray, .agg a.V.toArray, .agg b.V.toArray] w0 fun e w' => e = .returned (.int .u16 ((65535 - foldN (icS t c s d l a b) : Nat) : Int)) ∧ Kp [] w0 w' := by
  have hS := (St.sv w0).vcons rfl hv
  have hbl := icmpB_len t c s d l
  have hbb := icmpB_bytes t c s d hb
  refine ent (n := 23) Try.func75 rfl rfl ?_
  refine wp_seq_k ?_; intro K1 hK1
  refine wlit ?_
  refine wl_e rfl ?_; intro K hK
  refine ow_box hS (tmA rfl rfl) rfl ?_
  clear hS; intro g0_0 w hg0_0 hS
  refine hK _ _ ?_; clear hK K
  refine wl_e rfl ?_; intro K hK
  refine ow_box hS (tmA rfl rfl) rfl ?_
  clear hS; intro g0_1 w hg0_1 hS
  refine hK _ _ ?_; clear hK K
  refine wl_e rfl ?_; intro K hK
  refine ow_box hS (tmA rfl rfl) rfl ?_
  clear hS; intro g0_2 w hg0_2 hS
  refine hK _ _ ?_; clear hK K
  refine wl_v (x_assign (ev_cN 0)) ?_
  refine wl_nil ?_
  refine then_n (hK1 _ _ ?_); clear hK1 K1
  refine wp_seq_k ?_; intro K2 hK2
  refine wlit ?_
  refine wl_v (x_loadA (cs := [_, _, _, _, _]) Try.underlying88 rfl ts_88 (tmP rfl rfl) (rangeB hS.ok 2 rfl rfl)) ?_
  refine wl_e rfl ?_; intro K hK
  refine ow_call Try.func68 rfl rfl (evs_cons (tmA rfl rfl) <| evs_nil) (ricmp_bytes_c t c s d A n k l _ (viewV hS.ok 3 rfl) hl (by omega) h1 h2 h3 h4) ?_
  rintro e w ⟨A1, m1, c1, hm1, rfl, hn, hk⟩
  refine ⟨_, rfl, ?_⟩
  subst hm1
  replace hS := hS.add hk hn -- +rowb
  clear hn hk
  refine hK _ _ ?_; clear hK K
  refine wl_v (x_assign (tmS rfl rfl)) ?_
  refine wl_nil ?_
  refine then_n (hK2 _ _ ?_); clear hK2 K2
  refine wp_seq_k ?_; intro K3 hK3
  refine wp_seq_k ?_; intro K4 hK4
  refine wlit ?_
  refine wl_v (x_fa 0 Try.underlying27 rfl rfl ts_4 (tmP rfl rfl)) ?_
  first
   | refine wl_v (x_load Try.underlying4 rfl (tmP rfl rfl) (cellB hS.ok 2 rfl rfl)) ?_
   | refine wl_v (x_load Try.underlying4 rfl (tmP rfl rfl) (cellB hS.ok 2 rfl (getm (by omega)))) ?_
  refine wl_nil ?_
  refine then_n (hK4 _ _ ?_); clear hK4 K4
  refine cnd (tm rfl) (fun hc0 => ?_) (fun hc0 => ?_)
  · try (exfalso; first | with_reducible exact absurd hc0 Bool.false_ne_true | with_reducible exact absurd hc0.symm Bool.false_ne_true | (simp only [nrm] at hc0; omega) | (simp at hc0; done))
    all_goals
     try simp only [nrm] at hc0
     have ha6 : a.six = true := by simpa using hc0
     have hb6 : b.six = true := by rw [← h6]; exact ha6
     have hpl := ps6_len (p := 58) (n := (icmpB t c s d l).length) ha6 hb6
     have hje : ∀ (G1 G2 : Option Addr) (j1 j2 : Nat), joined [(G1, ps6 a b 58 (icmpB t c s d l).length, j1), (G2, icmpB t c s d l, j2)] = psL a b l.length ++ icmpB t c s d l := by
       intro G1 G2 j1 j2
       rw [joined_two, psL_six ha6, hbl]
     have hjl : (psL a b l.length ++ icmpB t c s d l).length = 40 + (8 + n) := by
       rw [List.length_append, psL_six ha6, ps6_len ha6 hb6]; omega
     have hjb : Bytes (psL a b l.length ++ icmpB t c s d l) := (psL_bytes _ _ _).append hbb
     have hsum := icS_joined t c s d l h6 _ rfl
     refine wp_seq_k ?_; intro K5 hK5
     refine wlit ?_
     refine wl_v (x_loadA (cs := [_, _, _]) Try.underlying27 rfl ts_27 (tmP rfl rfl) (rangeB hS.ok 2 rfl rfl)) ?_
     refine wl_v (x_loadA (cs := [_, _, _]) Try.underlying27 rfl ts_27 (tmP rfl rfl) (rangeB hS.ok 1 rfl rfl)) ?_
     refine wl_v (x_move (tmS rfl rfl)) ?_
     refine wl_v (x_len Try.underlying22 (tmS rfl rfl)) ?_
     refine wl_e rfl ?_; intro K hK
     refine ow_call Try.func129 rfl rfl (evs_cons (tmA rfl rfl) <| evs_cons (tmA rfl rfl) <| evs_cons (ev_cN 58) <| evs_cons (tmI rfl rfl) <| evs_nil) (rip6_pseudo6_c a b 58 (icmpB t c s d l).length _ ha6 hb6 hla hlb (by omega) (by omega)) ?_
     rintro e w ⟨A2, m2, c2, hm2, rfl, hn, hk⟩
     refine ⟨_, rfl, ?_⟩
     subst hm2
     replace hS := hS.add hk hn -- +rowp
     clear hn hk
     refine hK _ _ ?_; clear hK K
     refine wl_v (x_move (tmS rfl rfl)) ?_
     refine wl_e rfl ?_; intro K hK
     refine ow_build hS Try.underlying117 tz_22 (bc_take (tmS rfl rfl) <| bc_take (tmS rfl rfl) <| bc_nil) rfl rfl (by kernel_rfl) ?_
     clear hS; intro g3_6 w hg3_6 hS
     refine hK _ _ ?_; clear hK K
     refine wl_e rfl ?_; intro K hK
     refine ow_call Try.func114 rfl rfl (evs_cons (tmS rfl rfl) <| evs_nil) (join_c 2 _ _ [(A2, ps6 a b 58 (icmpB t c s d l).length, c2), (A1, icmpB t c s d l, c1)] _ (viewB hS.ok 0 rfl) (seen_cons (viewR hS.ok 1 rfl) <| seen_cons (viewR hS.ok 2 rfl) seen_nil) rfl (by omega) (by rw [hje, hjl]; omega)) ?_
     rintro e w ⟨A3, m3, c3, hm3, rfl, hn, hk⟩
     refine ⟨_, rfl, ?_⟩
     rw [hje] at hn hm3
     subst hm3
     replace hS := hS.add hk hn -- +rowj
     clear hn hk
     refine hK _ _ ?_; clear hK K
     refine wl_e rfl ?_; intro K hK
     refine ow_call Try.func107 rfl rfl (evs_cons (tmS rfl rfl) <| evs_nil) (rsum_of_c _ _ _ _ _ (viewR hS.ok 0 rfl) rfl hjb (by omega)) ?_
     rintro e w ⟨rfl, hk⟩
     refine ⟨_, rfl, ?_⟩
     rw [hsum]
     replace hS := hS.kept hk
     clear hk
     refine hK _ _ ?_; clear hK K
     refine wl_v (x_assign (tmI rfl rfl)) ?_
     refine wl_nil ?_
     refine then_n (hK5 _ _ ?_); clear hK5 K5
     refine wp_ret ?_
     refine then_r ?_
     refine ret1 rfl (.tmp rfl (show _ = Value.int _ _ from rfl)) ?_
     exact ⟨rfl, hS.kp⟩
  try (exfalso; first | with_reducible exact absurd hc0 Bool.false_ne_true | with_reducible exact absurd hc0.symm Bool.false_ne_true | (simp only [nrm] at hc0; omega) | (simp at hc0; done))
  all_goals
   try simp only [nrm] at hc0
   have hsum := icS_joined t c s d l h6 _ rfl
   rw [psL_four (by simpa using hc0), List.nil_append] at hsum
   refine wp_skip ?_
   refine then_n (hK3 _ _ ?_); clear hK3 K3
   refine wp_seq_k ?_; intro K6 hK6
   refine wlit ?_
   refine wl_v (x_move (tmS rfl rfl)) ?_
   refine wl_e rfl ?_; intro K hK
   refine ow_call Try.func107 rfl rfl (evs_cons (tmS rfl rfl) <| evs_nil) (rsum_of_c _ _ _ _ _ (viewR hS.ok 0 rfl) rfl hbb (by omega)) ?_
   rintro e w ⟨rfl, hk⟩
   refine ⟨_, rfl, ?_⟩
   rw [hsum]
   replace hS := hS.kept hk
   clear hk
   refine hK _ _ ?_; clear hK K
   refine wl_v (x_assign (tmI rfl rfl)) ?_
   refine wl_nil ?_
   refine then_n (hK6 _ _ ?_); clear hK6 K6
   refine wp_ret ?_
   refine ret1 rfl (.tmp rfl (show _ = Value.int _ _ from rfl)) ?_
   exact ⟨rfl, hS.kp⟩

set_option maxRecDepth 100000 in
set_option maxHeartbeats 8000000 in
theorem ricmp_summed_c (t c s d : Nat) (A : Option Addr) (n k : Nat) (l : List Nat) (a b : Ad) (w0 : World) (hv : View w0 w0.heap.size A (l.map u8v)) (hl : l.length = n) (hb : Bytes l) (h6 : a.six = b.six) (hla : adLim a) (hlb : adLim b) (hn4 : n ≤ 60000) (h1 : t ≤ 255) (h2 : c ≤ 255) (h4 : d ≤ 4294967295) :
    Calls Try.prog 73 #[.agg (msgV t c s d A n k).toArray, .agg a.V.toArray, .agg b.V.toArray] w0 fun e w' => e = .returned (.agg (msgV t c (65535 - foldN (icS t c 0 d l a b)) d A n k).toArray) ∧ Kp [] w0 w' := by
  have hS := (St.sv w0).vcons rfl hv
  refine ent (n := 14) Try.func73 rfl rfl ?_
  refine wp_seq_k ?_; intro K1 hK1
  refine wlit ?_
  refine wl_e rfl ?_; intro K hK
  refine ow_box hS (tmA rfl rfl) rfl ?_
  clear hS; intro g0_0 w hg0_0 hS
  refine hK _ _ ?_; clear hK K
  refine wl_e rfl ?_; intro K hK
  refine ow_box hS (tmA rfl rfl) rfl ?_
  clear hS; intro g0_1 w hg0_1 hS
  refine hK _ _ ?_; clear hK K
  refine wl_e rfl ?_; intro K hK
  refine ow_box hS (tmA rfl rfl) rfl ?_
  clear hS; intro g0_2 w hg0_2 hS
  refine hK _ _ ?_; clear hK K
  refine wl_e rfl ?_; intro K hK
  refine ow_alloc hS tz_88 rfl ?_
  clear hS; intro g0_3 w hg0_3 hS
  refine hK _ _ ?_; clear hK K
  refine wl_nil ?_
  refine then_n (hK1 _ _ ?_); clear hK1 K1
  refine wp_seq_k ?_; intro K2 hK2
  refine wlit ?_
  refine wl_v (x_fa 2 Try.underlying88 rfl rfl ts_24 (tmP rfl rfl)) ?_
  refine wl_e rfl ?_; intro K hK
  first
   | refine ow_store hS 3 rfl ts_24 (tmP rfl rfl) (ev_cN 0) rfl rfl ?_
   | refine ow_storeX hS 3 rfl ts_24 (tmP rfl rfl) (ev_cN 0) rfl (by simp; omega) ?_
  clear hS; intro w hS
  try replace hS := St.nm (M' := [.blk _ _ [_, _, _, _, _], .blk _ _ [_, _, _], .blk _ _ [_, _, _], .blk _ _ [_, _, _, _, _], .vw _ _]) hS rfl
  refine hK _ _ ?_; clear hK K
  refine wl_nil ?_
  refine then_n (hK2 _ _ ?_); clear hK2 K2
  refine wp_seq_k ?_; intro K3 hK3
  refine wlit ?_
  refine wl_v (x_loadA (cs := [_, _, _, _, _]) Try.underlying88 rfl ts_88 (tmP rfl rfl) (rangeB hS.ok 3 rfl rfl)) ?_
  refine wl_v (x_loadA (cs := [_, _, _]) Try.underlying27 rfl ts_27 (tmP rfl rfl) (rangeB hS.ok 2 rfl rfl)) ?_
  refine wl_v (x_loadA (cs := [_, _, _]) Try.underlying27 rfl ts_27 (tmP rfl rfl) (rangeB hS.ok 1 rfl rfl)) ?_
  refine wl_e rfl ?_; intro K hK
  refine ow_call Try.func75 rfl rfl (evs_cons (tmA rfl rfl) <| evs_cons (tmA rfl rfl) <| evs_cons (tmA rfl rfl) <| evs_nil) (ricmp_check_c t c 0 d A n k l a b _ (viewV hS.ok 4 rfl) hl hb h6 hla hlb hn4 h1 h2 (by omega) h4) ?_
  rintro e w ⟨rfl, hk⟩
  refine ⟨_, rfl, ?_⟩
  replace hS := hS.kept hk
  clear hk
  refine hK _ _ ?_; clear hK K
  refine wl_v (x_fa 2 Try.underlying88 rfl rfl ts_24 (tmP rfl rfl)) ?_
  refine wl_e rfl ?_; intro K hK
  first
   | refine ow_store hS 3 rfl ts_24 (tmP rfl rfl) (tmI rfl rfl) rfl rfl ?_
   | refine ow_storeX hS 3 rfl ts_24 (tmP rfl rfl) (tmI rfl rfl) rfl (by simp; omega) ?_
  clear hS; intro w hS
  try replace hS := St.nm (M' := [.blk _ _ [_, _, _, _, _], .blk _ _ [_, _, _], .blk _ _ [_, _, _], .blk _ _ [_, _, _, _, _], .vw _ _]) hS rfl
  refine hK _ _ ?_; clear hK K
  refine wl_nil ?_
  refine then_n (hK3 _ _ ?_); clear hK3 K3
  refine wp_seq_k ?_; intro K4 hK4
  refine wlit ?_
  refine wl_v (x_loadA (cs := [_, _, _, _, _]) Try.underlying88 rfl ts_88 (tmP rfl rfl) (rangeB hS.ok 3 rfl rfl)) ?_
  refine wl_e rfl ?_; intro K hK
  refine ow_storeA hS 0 rfl ts_88 (tmP rfl rfl) (tmA rfl rfl) rfl rfl rfl ?_
  clear hS; intro w hS
  try replace hS := St.nm (M' := [.blk _ _ [_, _, _, _, _], .blk _ _ [_, _, _], .blk _ _ [_, _, _], .blk _ _ [_, _, _, _, _], .vw _ _]) hS rfl
  refine hK _ _ ?_; clear hK K
  refine wl_nil ?_
  refine then_n (hK4 _ _ ?_); clear hK4 K4
  refine wp_ret ?_
  refine ret1 rfl (.cell rfl rfl (load_rowB (cs := [_, _, _, _, _]) hS.ok 0 rfl Try.underlying88 rfl ts_88 rfl)) ?_
  exact ⟨rfl, hS.kp⟩
end Go.Proofs.Ytfagblcepibliaa
