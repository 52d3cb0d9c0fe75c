
/- addr's digits and numbers of base 10, by contract. Conditions: none. -/
import Derived.Test.YtocnmcndcdncmaaDoorStr
import Derived.Test.YtocnmcndcdncmaaDoorAd
namespace Go.Proofs.YtocnmcndcdncmaaDoor
open Go.RowKit
set_option maxRecDepth 100000 in
set_option maxHeartbeats 4000000 in
theorem digit_c (q : Nat) (w0 : World) (hq : q ≤ 9) :
    Calls Tryd.prog 42 #[.int .u8 ((48 + q : Nat) : Int), .int .i64 10] w0 fun e w' => e = .returned (.int .i64 (q : Int)) ∧ Kp [] w0 w' := by
  have hS := St.sv w0
  refine ent (n := 31) Tryd.func42 rfl rfl ?_
  refine wp_seq_k ?_; intro K1 hK1
  refine wlit ?_
  refine wl_v (x_assign (ev_cN 0)) ?_
  refine wl_nil ?_
  refine then_n (hK1 _ _ ?_); clear hK1 K1
  refine wp_seq_k ?_; intro K2 hK2
  refine wp_block ?_
  refine wp_seq_k ?_; intro K3 hK3
  refine wlit ?_
  refine wl_v (x_move (tmI rfl rfl)) ?_
  refine wl_v (x_leq (ev_cN 48) (tmI rfl rfl)) ?_
  refine wl_v (x_move (tmB rfl rfl)) ?_
  refine gs_wl (tm (t := 8) rfl) (fun hg1_2 => ?_) (fun hg1_2 => ?_)
  · have hg1_2' := hg1_2; (try simp only [nrm] at hg1_2'); try (exfalso; first | with_reducible exact absurd hg1_2 Bool.false_ne_true | with_reducible exact absurd hg1_2.symm Bool.false_ne_true | omega | (simp at hg1_2; done))
    all_goals
     refine wl_gv (want_y rfl rfl rfl rfl (by rw [hg1_2]; rfl)) (x_move (tmI rfl rfl)) ?_
     refine wl_gv (want_y rfl rfl rfl rfl (by rw [hg1_2]; rfl)) (x_leq (tmI rfl rfl) (ev_cN 57)) ?_
     refine wl_v (x_pickT (tmB rfl rfl) hg1_2 (tmB rfl rfl)) ?_
     refine wl_v (x_assign (tmB rfl rfl)) ?_
     refine wl_nil ?_
     refine then_n (hK3 _ _ ?_); clear hK3 K3
     refine cnd (tm rfl) (fun hc0 => ?_) (fun hc0 => ?_)
     · try (exfalso; first | with_reducible exact absurd hc0 Bool.false_ne_true | with_reducible exact absurd hc0.symm Bool.false_ne_true | (simp only [nrm] at hc0; omega) | (simp at hc0; done))
       all_goals
        try simp only [nrm] at hc0
        refine wp_seq_k ?_; intro K4 hK4
        refine wlit ?_
        refine wl_v (x_move (tmI rfl rfl)) ?_
        first
         | refine wl_v (x_subN (tmI rfl rfl) (ev_cN 48) (fit_u8 (by omega)) (by omega)) ?_
         | refine wl_v (x_subI (tmI rfl rfl) (ev_cN 48) (IntWalk.u8_in _ (by omega))) ?_
         | refine wl_v (x_subU (tmI rfl rfl) (ev_cN 48) rfl (fit_u8 (by omega))) ?_
         | refine wl_v (x_sub (tmI rfl rfl) (ev_cN 48)) ?_
        first
         | refine wl_v (x_convN Tryd.underlying5 Tryd.underlying3 (tmI rfl rfl) (fit_i64 (by omega))) ?_
         | refine wl_v (x_conv Tryd.underlying5 Tryd.underlying3 (tmI rfl rfl)) ?_
        refine wl_v (x_assign (tmI rfl rfl)) ?_
        refine wl_nil ?_
        refine then_n (hK4 _ _ ?_); clear hK4 K4
        refine wp_ret ?_
        refine inb_r ?_
        refine then_r ?_
        refine ret1 rfl (.tmp rfl (show _ = Value.int _ _ from rfl)) ?_
        first
          | exact ⟨congrArg (fun z : Int => Ending.returned (.int .i64 z)) (by omega), hS.kp⟩
          | (exfalso; omega)
          | (exfalso; simp at *; omega)
     try (exfalso; first | with_reducible exact absurd hc0 Bool.false_ne_true | with_reducible exact absurd hc0.symm Bool.false_ne_true | (simp only [nrm] at hc0; omega) | (simp at hc0; done))
     all_goals
      try simp only [nrm] at hc0
      refine wp_seq_k ?_; intro K5 hK5
      refine wlit ?_
      refine wl_v (x_move (tmI rfl rfl)) ?_
      refine wl_v (x_eql (tmI rfl rfl) (ev_cN 16)) ?_
      refine wl_v (x_move (tmB rfl rfl)) ?_
      refine gs_wl (tm (t := 18) rfl) (fun hg3_2 => ?_) (fun hg3_2 => ?_)
      · have hg3_2' := hg3_2; (try simp only [nrm] at hg3_2'); try (exfalso; first | with_reducible exact absurd hg3_2 Bool.false_ne_true | with_reducible exact absurd hg3_2.symm Bool.false_ne_true | omega | (simp at hg3_2; done))
        all_goals
         refine wl_gv (want_y rfl rfl rfl rfl (by rw [hg3_2]; rfl)) (x_move (tmI rfl rfl)) ?_
         refine wl_gv (want_y rfl rfl rfl rfl (by rw [hg3_2]; rfl)) (x_leq (ev_cN 97) (tmI rfl rfl)) ?_
         refine wl_v (x_pickT (tmB rfl rfl) hg3_2 (tmB rfl rfl)) ?_
         refine wl_v (x_move (tmB rfl rfl)) ?_
         refine gs_wl (tm (t := 22) rfl) (fun hg3_6 => ?_) (fun hg3_6 => ?_)
         · have hg3_6' := hg3_6; (try simp only [nrm] at hg3_6'); try (exfalso; first | with_reducible exact absurd hg3_6 Bool.false_ne_true | with_reducible exact absurd hg3_6.symm Bool.false_ne_true | omega | (simp at hg3_6; done))
           all_goals
            refine wl_gv (want_y rfl rfl rfl rfl (by rw [hg3_6]; rfl)) (x_move (tmI rfl rfl)) ?_
            refine wl_gv (want_y rfl rfl rfl rfl (by rw [hg3_6]; rfl)) (x_leq (tmI rfl rfl) (ev_cN 102)) ?_
            refine wl_v (x_pickT (tmB rfl rfl) hg3_6 (tmB rfl rfl)) ?_
            refine wl_v (x_assign (tmB rfl rfl)) ?_
            refine wl_nil ?_
            refine then_n (hK5 _ _ ?_); clear hK5 K5
            refine cnd (tm rfl) (fun hc1 => ?_) (fun hc1 => ?_)
            · try (exfalso; first | with_reducible exact absurd hc1 Bool.false_ne_true | with_reducible exact absurd hc1.symm Bool.false_ne_true | (simp only [nrm] at hc1; omega) | (simp at hc1; done))
              all_goals
               try simp only [nrm] at hc1
               refine wp_seq_k ?_; intro K6 hK6
               refine wlit ?_
               refine wl_v (x_move (tmI rfl rfl)) ?_
               first
                | refine wl_v (x_subN (tmI rfl rfl) (ev_cN 97) (fit_u8 (by omega)) (by omega)) ?_
                | refine wl_v (x_subI (tmI rfl rfl) (ev_cN 97) (IntWalk.u8_in _ (by omega))) ?_
                | refine wl_v (x_subU (tmI rfl rfl) (ev_cN 97) rfl (fit_u8 (by omega))) ?_
                | refine wl_v (x_sub (tmI rfl rfl) (ev_cN 97)) ?_
               first
                | refine wl_v (x_convN Tryd.underlying5 Tryd.underlying3 (tmI rfl rfl) (fit_i64 (by omega))) ?_
                | refine wl_v (x_conv Tryd.underlying5 Tryd.underlying3 (tmI rfl rfl)) ?_
               first
                | refine wl_v (x_addN (tmI rfl rfl) (ev_cN 10) (fit_i64 (by omega))) ?_
                | refine wl_v (x_addI (tmI rfl rfl) (ev_cN 10) (IntWalk.i64_in _ (by omega))) ?_
                | refine wl_v (x_add (tmI rfl rfl) (ev_cN 10)) ?_
               refine wl_v (x_assign (tmI rfl rfl)) ?_
               refine wl_nil ?_
               refine then_n (hK6 _ _ ?_); clear hK6 K6
               refine wp_ret ?_
               refine inb_r ?_
               refine then_r ?_
               refine ret1 rfl (.tmp rfl (show _ = Value.int _ _ from rfl)) ?_
               first
                 | exact ⟨congrArg (fun z : Int => Ending.returned (.int .i64 z)) (by omega), hS.kp⟩
                 | (exfalso; omega)
                 | (exfalso; simp at *; omega)
            try (exfalso; first | with_reducible exact absurd hc1 Bool.false_ne_true | with_reducible exact absurd hc1.symm Bool.false_ne_true | (simp only [nrm] at hc1; omega) | (simp at hc1; done))
            all_goals
             try simp only [nrm] at hc1
             refine wp_skip ?_
             refine inb_n ?_
             refine then_n (hK2 _ _ ?_); clear hK2 K2
             refine wp_seq_k ?_; intro K7 hK7
             refine wlit ?_
             refine wl_v (x_move (tmI rfl rfl)) ?_
             refine wl_v (x_assign (tmI rfl rfl)) ?_
             refine wl_nil ?_
             refine then_n (hK7 _ _ ?_); clear hK7 K7
             refine wp_ret ?_
             refine ret1 rfl (.tmp rfl (show _ = Value.int _ _ from rfl)) ?_
             first
               | exact ⟨congrArg (fun z : Int => Ending.returned (.int .i64 z)) (by omega), hS.kp⟩
               | (exfalso; omega)
               | (exfalso; simp at *; omega)
         have hg3_6' := hg3_6; (try simp only [nrm] at hg3_6'); try (exfalso; first | with_reducible exact absurd hg3_6 Bool.false_ne_true | with_reducible exact absurd hg3_6.symm Bool.false_ne_true | omega | (simp at hg3_6; done))
         all_goals
          refine wl_s rfl (want_n rfl rfl rfl rfl (by rw [hg3_6]; rfl)) ?_
          refine wl_s rfl (want_n rfl rfl rfl rfl (by rw [hg3_6]; rfl)) ?_
          refine wl_v (x_pickF (tmB rfl rfl) hg3_6 ev_c) ?_
          refine wl_v (x_assign (tmB rfl rfl)) ?_
          refine wl_nil ?_
          refine then_n (hK5 _ _ ?_); clear hK5 K5
          refine cnd_f (tmB rfl rfl) rfl ?_
          refine wp_skip ?_
          refine inb_n ?_
          refine then_n (hK2 _ _ ?_); clear hK2 K2
          refine wp_seq_k ?_; intro K8 hK8
          refine wlit ?_
          refine wl_v (x_move (tmI rfl rfl)) ?_
          refine wl_v (x_assign (tmI rfl rfl)) ?_
          refine wl_nil ?_
          refine then_n (hK8 _ _ ?_); clear hK8 K8
          refine wp_ret ?_
          refine ret1 rfl (.tmp rfl (show _ = Value.int _ _ from rfl)) ?_
          first
            | exact ⟨congrArg (fun z : Int => Ending.returned (.int .i64 z)) (by omega), hS.kp⟩
            | (exfalso; omega)
            | (exfalso; simp at *; omega)
      have hg3_2' := hg3_2; (try simp only [nrm] at hg3_2'); try (exfalso; first | with_reducible exact absurd hg3_2 Bool.false_ne_true | with_reducible exact absurd hg3_2.symm Bool.false_ne_true | omega | (simp at hg3_2; done))
      all_goals
       refine wl_s rfl (want_n rfl rfl rfl rfl (by rw [hg3_2]; rfl)) ?_
       refine wl_s rfl (want_n rfl rfl rfl rfl (by rw [hg3_2]; rfl)) ?_
       refine wl_v (x_pickF (tmB rfl rfl) hg3_2 ev_c) ?_
       refine wl_v (x_move (tmB rfl rfl)) ?_
       refine wl_s rfl (want_n rfl rfl rfl rfl rfl) ?_
       refine wl_s rfl (want_n rfl rfl rfl rfl rfl) ?_
       refine wl_v (x_pickF (tmB rfl rfl) rfl ev_c) ?_
       refine wl_v (x_assign (tmB rfl rfl)) ?_
       refine wl_nil ?_
       refine then_n (hK5 _ _ ?_); clear hK5 K5
       refine cnd_f (tmB rfl rfl) rfl ?_
       refine wp_skip ?_
       refine inb_n ?_
       refine then_n (hK2 _ _ ?_); clear hK2 K2
       refine wp_seq_k ?_; intro K9 hK9
       refine wlit ?_
       refine wl_v (x_move (tmI rfl rfl)) ?_
       refine wl_v (x_assign (tmI rfl rfl)) ?_
       refine wl_nil ?_
       refine then_n (hK9 _ _ ?_); clear hK9 K9
       refine wp_ret ?_
       refine ret1 rfl (.tmp rfl (show _ = Value.int _ _ from rfl)) ?_
       first
         | exact ⟨congrArg (fun z : Int => Ending.returned (.int .i64 z)) (by omega), hS.kp⟩
         | (exfalso; omega)
         | (exfalso; simp at *; omega)
  have hg1_2' := hg1_2; (try simp only [nrm] at hg1_2'); try (exfalso; first | with_reducible exact absurd hg1_2 Bool.false_ne_true | with_reducible exact absurd hg1_2.symm Bool.false_ne_true | omega | (simp at hg1_2; done))
  all_goals
   refine wl_s rfl (want_n rfl rfl rfl rfl (by rw [hg1_2]; rfl)) ?_
   refine wl_s rfl (want_n rfl rfl rfl rfl (by rw [hg1_2]; rfl)) ?_
   refine wl_v (x_pickF (tmB rfl rfl) hg1_2 ev_c) ?_
   refine wl_v (x_assign (tmB rfl rfl)) ?_
   refine wl_nil ?_
   refine then_n (hK3 _ _ ?_); clear hK3 K3
   refine cnd_f (tmB rfl rfl) rfl ?_
   refine wp_seq_k ?_; intro K10 hK10
   refine wlit ?_
   refine wl_v (x_move (tmI rfl rfl)) ?_
   refine wl_v (x_eql (tmI rfl rfl) (ev_cN 16)) ?_
   refine wl_v (x_move (tmB rfl rfl)) ?_
   refine gs_wl (tm (t := 18) rfl) (fun hg3_2 => ?_) (fun hg3_2 => ?_)
   · have hg3_2' := hg3_2; (try simp only [nrm] at hg3_2'); try (exfalso; first | with_reducible exact absurd hg3_2 Bool.false_ne_true | with_reducible exact absurd hg3_2.symm Bool.false_ne_true | omega | (simp at hg3_2; done))
     all_goals
      refine wl_gv (want_y rfl rfl rfl rfl (by rw [hg3_2]; rfl)) (x_move (tmI rfl rfl)) ?_
      refine wl_gv (want_y rfl rfl rfl rfl (by rw [hg3_2]; rfl)) (x_leq (ev_cN 97) (tmI rfl rfl)) ?_
      refine wl_v (x_pickT (tmB rfl rfl) hg3_2 (tmB rfl rfl)) ?_
      refine wl_v (x_move (tmB rfl rfl)) ?_
      refine gs_wl (tm (t := 22) rfl) (fun hg3_6 => ?_) (fun hg3_6 => ?_)
      · have hg3_6' := hg3_6; (try simp only [nrm] at hg3_6'); try (exfalso; first | with_reducible exact absurd hg3_6 Bool.false_ne_true | with_reducible exact absurd hg3_6.symm Bool.false_ne_true | omega | (simp at hg3_6; done))
        all_goals
         refine wl_gv (want_y rfl rfl rfl rfl (by rw [hg3_6]; rfl)) (x_move (tmI rfl rfl)) ?_
         refine wl_gv (want_y rfl rfl rfl rfl (by rw [hg3_6]; rfl)) (x_leq (tmI rfl rfl) (ev_cN 102)) ?_
         refine wl_v (x_pickT (tmB rfl rfl) hg3_6 (tmB rfl rfl)) ?_
         refine wl_v (x_assign (tmB rfl rfl)) ?_
         refine wl_nil ?_
         refine then_n (hK10 _ _ ?_); clear hK10 K10
         refine cnd (tm rfl) (fun hc1 => ?_) (fun hc1 => ?_)
         · try (exfalso; first | with_reducible exact absurd hc1 Bool.false_ne_true | with_reducible exact absurd hc1.symm Bool.false_ne_true | (simp only [nrm] at hc1; omega) | (simp at hc1; done))
           all_goals
            try simp only [nrm] at hc1
            refine wp_seq_k ?_; intro K11 hK11
            refine wlit ?_
            refine wl_v (x_move (tmI rfl rfl)) ?_
            first
             | refine wl_v (x_subN (tmI rfl rfl) (ev_cN 97) (fit_u8 (by omega)) (by omega)) ?_
             | refine wl_v (x_subI (tmI rfl rfl) (ev_cN 97) (IntWalk.u8_in _ (by omega))) ?_
             | refine wl_v (x_subU (tmI rfl rfl) (ev_cN 97) rfl (fit_u8 (by omega))) ?_
             | refine wl_v (x_sub (tmI rfl rfl) (ev_cN 97)) ?_
            first
             | refine wl_v (x_convN Tryd.underlying5 Tryd.underlying3 (tmI rfl rfl) (fit_i64 (by omega))) ?_
             | refine wl_v (x_conv Tryd.underlying5 Tryd.underlying3 (tmI rfl rfl)) ?_
            first
             | refine wl_v (x_addN (tmI rfl rfl) (ev_cN 10) (fit_i64 (by omega))) ?_
             | refine wl_v (x_addI (tmI rfl rfl) (ev_cN 10) (IntWalk.i64_in _ (by omega))) ?_
             | refine wl_v (x_add (tmI rfl rfl) (ev_cN 10)) ?_
            refine wl_v (x_assign (tmI rfl rfl)) ?_
            refine wl_nil ?_
            refine then_n (hK11 _ _ ?_); clear hK11 K11
            refine wp_ret ?_
            refine inb_r ?_
            refine then_r ?_
            refine ret1 rfl (.tmp rfl (show _ = Value.int _ _ from rfl)) ?_
            first
              | exact ⟨congrArg (fun z : Int => Ending.returned (.int .i64 z)) (by omega), hS.kp⟩
              | (exfalso; omega)
              | (exfalso; simp at *; omega)
         try (exfalso; first | with_reducible exact absurd hc1 Bool.false_ne_true | with_reducible exact absurd hc1.symm Bool.false_ne_true | (simp only [nrm] at hc1; omega) | (simp at hc1; done))
         all_goals
          try simp only [nrm] at hc1
          refine wp_skip ?_
          refine inb_n ?_
          refine then_n (hK2 _ _ ?_); clear hK2 K2
          refine wp_seq_k ?_; intro K12 hK12
          refine wlit ?_
          refine wl_v (x_move (tmI rfl rfl)) ?_
          refine wl_v (x_assign (tmI rfl rfl)) ?_
          refine wl_nil ?_
          refine then_n (hK12 _ _ ?_); clear hK12 K12
          refine wp_ret ?_
          refine ret1 rfl (.tmp rfl (show _ = Value.int _ _ from rfl)) ?_
          first
            | exact ⟨congrArg (fun z : Int => Ending.returned (.int .i64 z)) (by omega), hS.kp⟩
            | (exfalso; omega)
            | (exfalso; simp at *; omega)
      have hg3_6' := hg3_6; (try simp only [nrm] at hg3_6'); try (exfalso; first | with_reducible exact absurd hg3_6 Bool.false_ne_true | with_reducible exact absurd hg3_6.symm Bool.false_ne_true | omega | (simp at hg3_6; done))
      all_goals
       refine wl_s rfl (want_n rfl rfl rfl rfl (by rw [hg3_6]; rfl)) ?_
       refine wl_s rfl (want_n rfl rfl rfl rfl (by rw [hg3_6]; rfl)) ?_
       refine wl_v (x_pickF (tmB rfl rfl) hg3_6 ev_c) ?_
       refine wl_v (x_assign (tmB rfl rfl)) ?_
       refine wl_nil ?_
       refine then_n (hK10 _ _ ?_); clear hK10 K10
       refine cnd_f (tmB rfl rfl) rfl ?_
       refine wp_skip ?_
       refine inb_n ?_
       refine then_n (hK2 _ _ ?_); clear hK2 K2
       refine wp_seq_k ?_; intro K13 hK13
       refine wlit ?_
       refine wl_v (x_move (tmI rfl rfl)) ?_
       refine wl_v (x_assign (tmI rfl rfl)) ?_
       refine wl_nil ?_
       refine then_n (hK13 _ _ ?_); clear hK13 K13
       refine wp_ret ?_
       refine ret1 rfl (.tmp rfl (show _ = Value.int _ _ from rfl)) ?_
       first
         | exact ⟨congrArg (fun z : Int => Ending.returned (.int .i64 z)) (by omega), hS.kp⟩
         | (exfalso; omega)
         | (exfalso; simp at *; omega)
   have hg3_2' := hg3_2; (try simp only [nrm] at hg3_2'); try (exfalso; first | with_reducible exact absurd hg3_2 Bool.false_ne_true | with_reducible exact absurd hg3_2.symm Bool.false_ne_true | omega | (simp at hg3_2; done))
   all_goals
    refine wl_s rfl (want_n rfl rfl rfl rfl (by rw [hg3_2]; rfl)) ?_
    refine wl_s rfl (want_n rfl rfl rfl rfl (by rw [hg3_2]; rfl)) ?_
    refine wl_v (x_pickF (tmB rfl rfl) hg3_2 ev_c) ?_
    refine wl_v (x_move (tmB rfl rfl)) ?_
    refine wl_s rfl (want_n rfl rfl rfl rfl rfl) ?_
    refine wl_s rfl (want_n rfl rfl rfl rfl rfl) ?_
    refine wl_v (x_pickF (tmB rfl rfl) rfl ev_c) ?_
    refine wl_v (x_assign (tmB rfl rfl)) ?_
    refine wl_nil ?_
    refine then_n (hK10 _ _ ?_); clear hK10 K10
    refine cnd_f (tmB rfl rfl) rfl ?_
    refine wp_skip ?_
    refine inb_n ?_
    refine then_n (hK2 _ _ ?_); clear hK2 K2
    refine wp_seq_k ?_; intro K14 hK14
    refine wlit ?_
    refine wl_v (x_move (tmI rfl rfl)) ?_
    refine wl_v (x_assign (tmI rfl rfl)) ?_
    refine wl_nil ?_
    refine then_n (hK14 _ _ ?_); clear hK14 K14
    refine wp_ret ?_
    refine ret1 rfl (.tmp rfl (show _ = Value.int _ _ from rfl)) ?_
    first
      | exact ⟨congrArg (fun z : Int => Ending.returned (.int .i64 z)) (by omega), hS.kp⟩
      | (exfalso; omega)
      | (exfalso; simp at *; omega)
theorem str_ne (l : List Nat) (hb : Bytes l) (h : l ≠ []) : ((bstr l).toList == (⟨#[]⟩ : ByteArray).toList) = false :=
  (bstr_eql (m := []) hb (by unfold Bytes; simp)).trans (by cases l with | nil => exact absurd rfl h | cons _ _ => rfl)
theorem wrap255 (m : Nat) (h : m ≤ 9) : IntKind.i64.wrap ((255 - (m : Int)).tdiv 10) = (255 - (m : Int)) / 10 := by
  rcases (by omega : m = 0 ∨ m = 1 ∨ m = 2 ∨ m = 3 ∨ m = 4 ∨ m = 5 ∨ m = 6 ∨ m = 7 ∨ m = 8 ∨ m = 9) with rfl | rfl | rfl | rfl | rfl | rfl | rfl | rfl | rfl | rfl <;> decide
set_option maxRecDepth 100000 in
set_option maxHeartbeats 4000000 in
theorem number_c (s : ByteArray) (n : Nat) (q t : Nat → Nat) (w0 : World) (hs0 : (s.toList == (⟨#[]⟩ : ByteArray).toList) = false) (hn : s.size = n) (h1 : 1 ≤ n) (hn4 : n ≤ 1000000) (hz : n = 1 ∨ q 0 ≠ 0) (hd : ∀ k, k < n → q k ≤ 9 ∧ s[k]? = some (UInt8.ofNat (48 + q k))) (ht0 : t 0 = 0) (ht : ∀ k, k < n → t (k + 1) = t k * 10 + q k ∧ t (k + 1) ≤ 255) :
    Calls Tryd.prog 33 #[.string s, .int .i64 10, .int .i64 255] w0 fun e w' => e = .returned (.tuple #[.int .i64 (t n : Int), .bool true]) ∧ Kp [] w0 w' := by
  have hS := St.sv w0
  have hu : ∀ k, k < n → (UInt8.ofNat (48 + q k)).toNat = 48 + q k := fun k hk => by
    have := (hd k hk).1
    simp [UInt8.toNat_ofNat]
    omega
  have h00 := (hd 0 (by omega)).2
  have hu0 := hu 0 (by omega)
  have hd0 := (hd 0 (by omega)).1
  refine ent (n := 65) Tryd.func33 rfl rfl ?_
  refine wp_seq_k ?_; intro K1 hK1
  refine wlit ?_
  refine wl_v (x_assign (ev_cN 0)) ?_
  refine wl_v (x_assign ev_c) ?_
  refine wl_nil ?_
  refine then_n (hK1 _ _ ?_); clear hK1 K1
  refine wp_seq_k ?_; intro K2 hK2
  refine wp_seq_k ?_; intro K3 hK3
  refine wlit ?_
  refine wl_v (x_move (tmI rfl rfl)) ?_
  refine wl_v (x_neq (tmI rfl rfl) (ev_cN 10)) ?_
  refine wl_v (x_move (tmB rfl rfl)) ?_
  refine gs_wl (tm (t := 13) rfl) (fun hg1_2 => ?_) (fun hg1_2 => ?_)
  · have hg1_2' := hg1_2; (try simp only [nrm] at hg1_2'); try (exfalso; first | with_reducible exact absurd hg1_2 Bool.false_ne_true | with_reducible exact absurd hg1_2.symm Bool.false_ne_true | omega | (simp at hg1_2; done))
    all_goals
     refine wl_gv (want_y rfl rfl rfl rfl (by rw [hg1_2]; rfl)) (x_move (tmI rfl rfl)) ?_
     refine wl_gv (want_y rfl rfl rfl rfl (by rw [hg1_2]; rfl)) (x_neq (tmI rfl rfl) (ev_cN 16)) ?_
     refine wl_v (x_pickT (tmB rfl rfl) hg1_2 (tmB rfl rfl)) ?_
     refine wl_v (x_move (tmB rfl rfl)) ?_
     refine gs_wl (tm (t := 17) rfl) (fun hg1_6 => ?_) (fun hg1_6 => ?_)
     · have hg1_6' := hg1_6; (try simp only [nrm] at hg1_6'); try (exfalso; first | with_reducible exact absurd hg1_6 Bool.false_ne_true | with_reducible exact absurd hg1_6.symm Bool.false_ne_true | omega | (simp at hg1_6; done))
       all_goals
        refine wl_s rfl (want_n rfl rfl rfl rfl (by rw [hg1_6]; rfl)) ?_
        refine wl_s rfl (want_n rfl rfl rfl rfl (by rw [hg1_6]; rfl)) ?_
        refine wl_v (x_pickT (tmB rfl rfl) hg1_6 ev_c) ?_
        refine wl_v (x_move (tmB rfl rfl)) ?_
        refine wl_s rfl (want_n rfl rfl rfl rfl rfl) ?_
        refine wl_s rfl (want_n rfl rfl rfl rfl rfl) ?_
        refine wl_s rfl (want_n rfl rfl rfl rfl rfl) ?_
        refine wl_s rfl (want_n rfl rfl rfl rfl rfl) ?_
        refine wl_s rfl (want_u rfl rfl rfl rfl) ?_
        refine wl_s rfl (want_u rfl rfl rfl rfl) ?_
        refine wl_s rfl (want_u rfl rfl rfl rfl) ?_
        refine wl_s rfl (want_n rfl rfl rfl rfl rfl) ?_
        refine wl_v (x_pickT (tmB rfl rfl) rfl ev_c) ?_
        refine wl_nil ?_
        refine then_n (hK3 _ _ ?_); clear hK3 K3
        refine cnd_t (tmB rfl rfl) rfl ?_
        refine wp_seq_k ?_; intro K4 hK4
        refine wlit ?_
        refine wl_v (x_assign (ev_cN 0)) ?_
        refine wl_v (x_assign ev_c) ?_
        refine wl_nil ?_
        refine then_n (hK4 _ _ ?_); clear hK4 K4
        refine wp_ret ?_
        refine then_r ?_
        refine ret2 rfl (.tmp rfl (show _ = Value.int _ _ from rfl)) (.tmp rfl (show _ = Value.bool _ from rfl)) ?_
        first
          | (have hkn : k = n := by omega
             subst hkn
             exact ⟨rfl, hS.kp⟩)
          | (exfalso; rcases hz with h | h <;> simp at * <;> omega)
          | (exfalso; simp at *; omega)
     have hg1_6' := hg1_6; (try simp only [nrm] at hg1_6'); try (exfalso; first | with_reducible exact absurd hg1_6 Bool.false_ne_true | with_reducible exact absurd hg1_6.symm Bool.false_ne_true | omega | (simp at hg1_6; done))
     all_goals
      refine wl_gv (want_y rfl rfl rfl rfl (by rw [hg1_6]; rfl)) (x_move (tmG rfl rfl)) ?_
      refine wl_gv (want_y rfl rfl rfl rfl (by rw [hg1_6]; rfl)) (x_eqv (res := false) (.inl rfl) (tmG rfl rfl) ev_c (fun _ => rfl) (fun w => by rw [run_Geql, hs0])) ?_
      refine wl_v (x_pickF (tmB rfl rfl) hg1_6 (tmB rfl rfl)) ?_
      refine wl_v (x_move (tmB rfl rfl)) ?_
      refine gs_wl (tm (t := 21) rfl) (fun hg1_10 => ?_) (fun hg1_10 => ?_)
      · have hg1_10' := hg1_10; (try simp only [nrm] at hg1_10'); try (exfalso; first | with_reducible exact absurd hg1_10 Bool.false_ne_true | with_reducible exact absurd hg1_10.symm Bool.false_ne_true | omega | (simp at hg1_10; done))
        all_goals
         refine wl_s rfl (want_n rfl rfl rfl rfl (by rw [hg1_10]; rfl)) ?_
         refine wl_s rfl (want_n rfl rfl rfl rfl (by rw [hg1_10]; rfl)) ?_
         refine wl_s rfl (want_n rfl rfl rfl rfl (by rw [hg1_10]; rfl)) ?_
         refine wl_s rfl (want_n rfl rfl rfl rfl (by rw [hg1_10]; rfl)) ?_
         refine wl_s rfl (want_u rfl rfl rfl rfl) ?_
         refine wl_s rfl (want_u rfl rfl rfl rfl) ?_
         refine wl_s rfl (want_u rfl rfl rfl rfl) ?_
         refine wl_s rfl (want_n rfl rfl rfl rfl (by rw [hg1_10]; rfl)) ?_
         refine wl_v (x_pickT (tmB rfl rfl) hg1_10 ev_c) ?_
         refine wl_nil ?_
         refine then_n (hK3 _ _ ?_); clear hK3 K3
         refine cnd_t (tmB rfl rfl) rfl ?_
         refine wp_seq_k ?_; intro K5 hK5
         refine wlit ?_
         refine wl_v (x_assign (ev_cN 0)) ?_
         refine wl_v (x_assign ev_c) ?_
         refine wl_nil ?_
         refine then_n (hK5 _ _ ?_); clear hK5 K5
         refine wp_ret ?_
         refine then_r ?_
         refine ret2 rfl (.tmp rfl (show _ = Value.int _ _ from rfl)) (.tmp rfl (show _ = Value.bool _ from rfl)) ?_
         first
           | (have hkn : k = n := by omega
              subst hkn
              exact ⟨rfl, hS.kp⟩)
           | (exfalso; rcases hz with h | h <;> simp at * <;> omega)
           | (exfalso; simp at *; omega)
      have hg1_10' := hg1_10; (try simp only [nrm] at hg1_10'); try (exfalso; first | with_reducible exact absurd hg1_10 Bool.false_ne_true | with_reducible exact absurd hg1_10.symm Bool.false_ne_true | omega | (simp at hg1_10; done))
      all_goals
       refine wl_gv (want_y rfl rfl rfl rfl (by rw [hg1_10]; rfl)) (x_move (tmG rfl rfl)) ?_
       refine wl_gv (want_y rfl rfl rfl rfl (by rw [hg1_10]; rfl)) (x_lenS Tryd.underlying9 (tmG rfl rfl)) ?_
       refine wl_gv (want_y rfl rfl rfl rfl (by rw [hg1_10]; rfl)) (x_gtr (tmI rfl rfl) (ev_cN 1)) ?_
       refine wl_gv (want_y rfl rfl rfl rfl (by rw [hg1_10]; rfl)) (x_move (tmB rfl rfl)) ?_
       refine gs_wl (tm (t := 25) rfl) (fun hg1_14 => ?_) (fun hg1_14 => ?_)
       · have hg1_14' := hg1_14; (try simp only [nrm] at hg1_14'); try (exfalso; first | with_reducible exact absurd hg1_14 Bool.false_ne_true | with_reducible exact absurd hg1_14.symm Bool.false_ne_true | omega | (simp at hg1_14; done))
         all_goals
          refine wl_gv (want_y rfl rfl rfl rfl (by rw [hg1_14]; rfl)) (x_move (tmG rfl rfl)) ?_
          refine wl_gv (want_y rfl rfl rfl rfl (by rw [hg1_14]; rfl)) (x_ixG (j := 0) Tryd.underlying9 (tmG rfl rfl) (ev_cN 0) h00) ?_
          refine wl_gv (want_y rfl rfl rfl rfl (by rw [hg1_14]; rfl)) (x_eql (tmI rfl rfl) (ev_cN 48)) ?_
          refine wl_gv (want_y rfl rfl rfl rfl (by rw [hg1_10]; rfl)) (x_pickT (tmB rfl rfl) hg1_14 (tmB rfl rfl)) ?_
          refine wl_v (x_pickF (tmB rfl rfl) hg1_10 (tmB rfl rfl)) ?_
          refine wl_nil ?_
          refine then_n (hK3 _ _ ?_); clear hK3 K3
          refine cnd (tm rfl) (fun hc0 => ?_) (fun hc0 => ?_)
          · try (exfalso; first | with_reducible exact absurd hc0 Bool.false_ne_true | with_reducible exact absurd hc0.symm Bool.false_ne_true | (simp only [nrm] at hc0; omega) | (simp at hc0; done))
            all_goals
             try simp only [nrm] at hc0
             refine wp_seq_k ?_; intro K6 hK6
             refine wlit ?_
             refine wl_v (x_assign (ev_cN 0)) ?_
             refine wl_v (x_assign ev_c) ?_
             refine wl_nil ?_
             refine then_n (hK6 _ _ ?_); clear hK6 K6
             refine wp_ret ?_
             refine then_r ?_
             refine ret2 rfl (.tmp rfl (show _ = Value.int _ _ from rfl)) (.tmp rfl (show _ = Value.bool _ from rfl)) ?_
             first
               | (have hkn : k = n := by omega
                  subst hkn
                  exact ⟨rfl, hS.kp⟩)
               | (exfalso; rcases hz with h | h <;> simp at * <;> omega)
               | (exfalso; simp at *; omega)
          try (exfalso; first | with_reducible exact absurd hc0 Bool.false_ne_true | with_reducible exact absurd hc0.symm Bool.false_ne_true | (simp only [nrm] at hc0; omega) | (simp at hc0; done))
          all_goals
           try simp only [nrm] at hc0
           refine wp_skip ?_
           refine then_n (hK2 _ _ ?_); clear hK2 K2
           refine wp_seq_k ?_; intro K7 hK7
           refine wlit ?_
           refine wl_v (x_assign (ev_cN 0)) ?_
           refine wl_nil ?_
           refine then_n (hK7 _ _ ?_); clear hK7 K7
           refine wp_seq_k ?_; intro K8 hK8
           refine wp_seq_k ?_; intro K9 hK9
           refine wlit ?_
           refine wl_v (x_move (tmG rfl rfl)) ?_
           refine wl_v (x_lenS Tryd.underlying9 (tmG rfl rfl)) ?_
           refine wl_v (x_move (ev_cN 0)) ?_
           refine wl_nil ?_
           refine then_n (hK9 _ _ ?_); clear hK9 K9
           refine wp_block ?_
           refine lp [6, 7, 8, 9, 10, 33, 34, 35, 36, 37, 38, 39, 40, 41, 42, 43, 44, 45, 46, 47, 48, 49, 50, 51, 52, 53, 54, 55, 56, 57, 58, 59, 60, 61, 62, 63] (fun mz g w => ∃ (k : Nat), mz = n - k ∧ g 33 = .int .i64 (k : Int) ∧ g 8 = .int .i64 (t k : Int) ∧ St [] w0 [] w ∧ (k ≤ n)) ?_ ?_
           · exact ⟨_, 0, rfl, (by first | rfl | go_num | exact congrArg (Value.int _) (by first | omega | (simp; done) | (simp; omega))), (by first | rfl | go_num | exact congrArg (Value.int _) (by first | omega | (simp; done) | (simp; omega))), hS, (by omega)⟩
           · clear hS; intro mz g w hI
             obtain ⟨k, rfl, hs33, hs8, hS, hk⟩ := hI
             refine fr_know (d := 33) hs33 ?_; clear hs33
             refine fr_know (d := 8) hs8 ?_; clear hs8
             refine wp_seq_k ?_; intro K10 hK10
             refine wlit ?_
             refine wl_v (x_lss (tmI rfl rfl) (tmI rfl rfl)) ?_
             refine wl_nil ?_
             refine then_n (hK10 _ _ ?_); clear hK10 K10
             refine wp_seq_k ?_; intro K11 hK11
             refine cnd (tm rfl) (fun hc1 => ?_) (fun hc1 => ?_)
             · try (exfalso; first | with_reducible exact absurd hc1 Bool.false_ne_true | with_reducible exact absurd hc1.symm Bool.false_ne_true | (simp only [nrm] at hc1; omega) | (simp at hc1; done))
               all_goals
                try simp only [nrm] at hc1
                refine wp_skip ?_
                refine then_n (hK11 _ _ ?_); clear hK11 K11
                refine wp_seq_k ?_; intro K12 hK12
                refine wp_block ?_
                refine wp_seq_k ?_; intro K13 hK13
                refine wlit ?_
                refine wl_v (x_move (tmI rfl rfl)) ?_
                refine wl_v (x_assign (tmI rfl rfl)) ?_
                refine wl_nil ?_
                refine then_n (hK13 _ _ ?_); clear hK13 K13
                refine wp_seq_k ?_; intro K14 hK14
                refine wlit ?_
                have hdk := hd k (by omega); have huk := hu k (by omega); have htk := ht k (by omega); have hw255 := wrap255 (q k) hdk.1
                refine wl_v (x_move (tmG rfl rfl)) ?_
                refine wl_v (x_move (tmI rfl rfl)) ?_
                refine wl_v (x_ixG Tryd.underlying9 (tmG rfl rfl) (tmI rfl rfl) (hd k (by omega)).2) ?_
                refine wl_v (x_move (tmI rfl rfl)) ?_
                refine wl_e rfl ?_; intro K hK
                refine ow_call Tryd.func42 rfl rfl (evs_cons (tmI rfl rfl) <| evs_cons (tmI rfl rfl) <| evs_nil) ((huk ▸ digit_c (q k) _ hdk.1)) ?_
                rintro e w ⟨rfl, hk2⟩
                refine ⟨_, rfl, ?_⟩
                replace hS := hS.kept hk2
                refine hK _ _ ?_; clear hK K
                refine wl_v (x_assign (tmI rfl rfl)) ?_
                refine wl_nil ?_
                refine then_n (hK14 _ _ ?_); clear hK14 K14
                refine wp_seq_k ?_; intro K15 hK15
                refine wp_seq_k ?_; intro K16 hK16
                refine wlit ?_
                refine wl_v (x_move (tmI rfl rfl)) ?_
                refine wl_v (x_move (tmI rfl rfl)) ?_
                refine wl_v (x_eql (tmI rfl rfl) (tmI rfl rfl)) ?_
                refine wl_v (x_move (tmB rfl rfl)) ?_
                refine gs_wl (tm (t := 44) rfl) (fun hg8_3 => ?_) (fun hg8_3 => ?_)
                · have hg8_3' := hg8_3; (try simp only [nrm] at hg8_3'); try (exfalso; first | with_reducible exact absurd hg8_3 Bool.false_ne_true | with_reducible exact absurd hg8_3.symm Bool.false_ne_true | omega | (simp at hg8_3; done))
                  all_goals
                   refine wl_s rfl (want_n rfl rfl rfl rfl (by rw [hg8_3]; rfl)) ?_
                   refine wl_s rfl (want_n rfl rfl rfl rfl (by rw [hg8_3]; rfl)) ?_
                   refine wl_s rfl (want_n rfl rfl rfl rfl (by rw [hg8_3]; rfl)) ?_
                   refine wl_v (x_pickT (tmB rfl rfl) hg8_3 ev_c) ?_
                   refine wl_v (x_move (tmB rfl rfl)) ?_
                   refine wl_s rfl (want_n rfl rfl rfl rfl rfl) ?_
                   refine wl_s rfl (want_n rfl rfl rfl rfl rfl) ?_
                   refine wl_s rfl (want_n rfl rfl rfl rfl rfl) ?_
                   refine wl_s rfl (want_n rfl rfl rfl rfl rfl) ?_
                   refine wl_s rfl (want_n rfl rfl rfl rfl rfl) ?_
                   refine wl_s rfl (want_n rfl rfl rfl rfl rfl) ?_
                   refine wl_s rfl (want_n rfl rfl rfl rfl rfl) ?_
                   refine wl_v (x_pickT (tmB rfl rfl) rfl ev_c) ?_
                   refine wl_nil ?_
                   refine then_n (hK16 _ _ ?_); clear hK16 K16
                   refine cnd_t (tmB rfl rfl) rfl ?_
                   refine wp_seq_k ?_; intro K17 hK17
                   refine wlit ?_
                   refine wl_v (x_assign (ev_cN 0)) ?_
                   refine wl_v (x_assign ev_c) ?_
                   refine wl_nil ?_
                   refine then_n (hK17 _ _ ?_); clear hK17 K17
                   refine wp_ret ?_
                   refine then_r ?_
                   refine inb_r ?_
                   refine then_r ?_
                   refine then_r ?_
                   refine inb_r ?_
                   refine then_r ?_
                   refine ret2 rfl (.tmp rfl (show _ = Value.int _ _ from rfl)) (.tmp rfl (show _ = Value.bool _ from rfl)) ?_
                   first
                     | (have hkn : k = n := by omega
                        subst hkn
                        exact ⟨rfl, hS.kp⟩)
                     | (exfalso; rcases hz with h | h <;> simp at * <;> omega)
                     | (exfalso; simp at *; omega)
                have hg8_3' := hg8_3; (try simp only [nrm] at hg8_3'); try (exfalso; first | with_reducible exact absurd hg8_3 Bool.false_ne_true | with_reducible exact absurd hg8_3.symm Bool.false_ne_true | omega | (simp at hg8_3; done))
                all_goals
                 refine wl_gv (want_y rfl rfl rfl rfl (by rw [hg8_3]; rfl)) (x_move (tmI rfl rfl)) ?_
                 refine wl_gv (want_y rfl rfl rfl rfl (by rw [hg8_3]; rfl)) (x_move (tmI rfl rfl)) ?_
                 refine wl_gv (want_y rfl rfl rfl rfl (by rw [hg8_3]; rfl)) (x_gtr (tmI rfl rfl) (tmI rfl rfl)) ?_
                 refine wl_v (x_pickF (tmB rfl rfl) hg8_3 (tmB rfl rfl)) ?_
                 refine wl_v (x_move (tmB rfl rfl)) ?_
                 refine gs_wl (tm (t := 49) rfl) (fun hg8_8 => ?_) (fun hg8_8 => ?_)
                 · have hg8_8' := hg8_8; (try simp only [nrm] at hg8_8'); try (exfalso; first | with_reducible exact absurd hg8_8 Bool.false_ne_true | with_reducible exact absurd hg8_8.symm Bool.false_ne_true | omega | (simp at hg8_8; done))
                   all_goals
                    refine wl_s rfl (want_n rfl rfl rfl rfl (by rw [hg8_8]; rfl)) ?_
                    refine wl_s rfl (want_n rfl rfl rfl rfl (by rw [hg8_8]; rfl)) ?_
                    refine wl_s rfl (want_n rfl rfl rfl rfl (by rw [hg8_8]; rfl)) ?_
                    refine wl_s rfl (want_n rfl rfl rfl rfl (by rw [hg8_8]; rfl)) ?_
                    refine wl_s rfl (want_n rfl rfl rfl rfl (by rw [hg8_8]; rfl)) ?_
                    refine wl_s rfl (want_n rfl rfl rfl rfl (by rw [hg8_8]; rfl)) ?_
                    refine wl_s rfl (want_n rfl rfl rfl rfl (by rw [hg8_8]; rfl)) ?_
                    refine wl_v (x_pickT (tmB rfl rfl) hg8_8 ev_c) ?_
                    refine wl_nil ?_
                    refine then_n (hK16 _ _ ?_); clear hK16 K16
                    refine cnd_t (tmB rfl rfl) rfl ?_
                    refine wp_seq_k ?_; intro K18 hK18
                    refine wlit ?_
                    refine wl_v (x_assign (ev_cN 0)) ?_
                    refine wl_v (x_assign ev_c) ?_
                    refine wl_nil ?_
                    refine then_n (hK18 _ _ ?_); clear hK18 K18
                    refine wp_ret ?_
                    refine then_r ?_
                    refine inb_r ?_
                    refine then_r ?_
                    refine then_r ?_
                    refine inb_r ?_
                    refine then_r ?_
                    refine ret2 rfl (.tmp rfl (show _ = Value.int _ _ from rfl)) (.tmp rfl (show _ = Value.bool _ from rfl)) ?_
                    first
                      | (have hkn : k = n := by omega
                         subst hkn
                         exact ⟨rfl, hS.kp⟩)
                      | (exfalso; rcases hz with h | h <;> simp at * <;> omega)
                      | (exfalso; simp at *; omega)
                 have hg8_8' := hg8_8; (try simp only [nrm] at hg8_8'); try (exfalso; first | with_reducible exact absurd hg8_8 Bool.false_ne_true | with_reducible exact absurd hg8_8.symm Bool.false_ne_true | omega | (simp at hg8_8; done))
                 all_goals
                  refine wl_gv (want_y rfl rfl rfl rfl (by rw [hg8_8]; rfl)) (x_move (tmI rfl rfl)) ?_
                  refine wl_gv (want_y rfl rfl rfl rfl (by rw [hg8_8]; rfl)) (x_move (tmI rfl rfl)) ?_
                  refine wl_gv (want_y rfl rfl rfl rfl (by rw [hg8_8]; rfl)) (x_move (tmI rfl rfl)) ?_
                  first
                   | refine wl_gv (want_y rfl rfl rfl rfl (by rw [hg8_8]; rfl)) (x_subN (tmI rfl rfl) (tmI rfl rfl) (fit_i64 (by omega)) (by omega)) ?_
                   | refine wl_gv (want_y rfl rfl rfl rfl (by rw [hg8_8]; rfl)) (x_subI (tmI rfl rfl) (tmI rfl rfl) (IntWalk.i64_in _ (by omega))) ?_
                   | refine wl_gv (want_y rfl rfl rfl rfl (by rw [hg8_8]; rfl)) (x_sub (tmI rfl rfl) (tmI rfl rfl)) ?_
                  refine wl_gv (want_y rfl rfl rfl rfl (by rw [hg8_8]; rfl)) (x_move (tmI rfl rfl)) ?_
                  first
                   | refine wl_gv (want_y rfl rfl rfl rfl (by rw [hg8_8]; rfl)) (x_quoN (tmI rfl rfl) (tmI rfl rfl) (by omega) (fit_i64 (by omega))) ?_
                   | refine wl_gv (want_y rfl rfl rfl rfl (by rw [hg8_8]; rfl)) (x_quo (tmI rfl rfl) (tmI rfl rfl) (by omega)) ?_
                  refine wl_gv (want_y rfl rfl rfl rfl (by rw [hg8_8]; rfl)) (x_gtr (tmI rfl rfl) (tmI rfl rfl)) ?_
                  refine wl_v (x_pickF (tmB rfl rfl) hg8_8 (tmB rfl rfl)) ?_
                  refine wl_nil ?_
                  refine then_n (hK16 _ _ ?_); clear hK16 K16
                  refine cnd (tm rfl) (fun hc2 => ?_) (fun hc2 => ?_)
                  · try (exfalso; first | with_reducible exact absurd hc2 Bool.false_ne_true | with_reducible exact absurd hc2.symm Bool.false_ne_true | (simp only [nrm] at hc2; omega) | (simp at hc2; done))
                    all_goals
                     try simp only [nrm] at hc2
                     refine wp_seq_k ?_; intro K19 hK19
                     refine wlit ?_
                     refine wl_v (x_assign (ev_cN 0)) ?_
                     refine wl_v (x_assign ev_c) ?_
                     refine wl_nil ?_
                     refine then_n (hK19 _ _ ?_); clear hK19 K19
                     refine wp_ret ?_
                     refine then_r ?_
                     refine inb_r ?_
                     refine then_r ?_
                     refine then_r ?_
                     refine inb_r ?_
                     refine then_r ?_
                     refine ret2 rfl (.tmp rfl (show _ = Value.int _ _ from rfl)) (.tmp rfl (show _ = Value.bool _ from rfl)) ?_
                     first
                       | (have hkn : k = n := by omega
                          subst hkn
                          exact ⟨rfl, hS.kp⟩)
                       | (exfalso; rcases hz with h | h <;> simp at * <;> omega)
                       | (exfalso; simp at *; omega)
                  try (exfalso; first | with_reducible exact absurd hc2 Bool.false_ne_true | with_reducible exact absurd hc2.symm Bool.false_ne_true | (simp only [nrm] at hc2; omega) | (simp at hc2; done))
                  all_goals
                   try simp only [nrm] at hc2
                   refine wp_skip ?_
                   refine then_n (hK15 _ _ ?_); clear hK15 K15
                   refine wlit ?_
                   refine wl_v (x_move (tmI rfl rfl)) ?_
                   refine wl_v (x_move (tmI rfl rfl)) ?_
                   first
                    | refine wl_v (x_mulN (tmI rfl rfl) (tmI rfl rfl) (fit_i64 (by omega))) ?_
                    | refine wl_v (x_mulI (tmI rfl rfl) (tmI rfl rfl) (IntWalk.i64_in _ (by omega))) ?_
                    | refine wl_v (x_mul (tmI rfl rfl) (tmI rfl rfl)) ?_
                   refine wl_v (x_move (tmI rfl rfl)) ?_
                   first
                    | refine wl_v (x_addN (tmI rfl rfl) (tmI rfl rfl) (fit_i64 (by omega))) ?_
                    | refine wl_v (x_addI (tmI rfl rfl) (tmI rfl rfl) (IntWalk.i64_in _ (by omega))) ?_
                    | refine wl_v (x_add (tmI rfl rfl) (tmI rfl rfl)) ?_
                   refine wl_v (x_assign (tmI rfl rfl)) ?_
                   refine wl_nil ?_
                   refine inb_n ?_
                   refine then_n (hK12 _ _ ?_); clear hK12 K12
                   refine wlit ?_
                   first
                    | refine wl_v (x_addN (tmI rfl rfl) (ev_cN 1) (fit_i64 (by omega))) ?_
                    | refine wl_v (x_addI (tmI rfl rfl) (ev_cN 1) (IntWalk.i64_in _ (by omega))) ?_
                    | refine wl_v (x_add (tmI rfl rfl) (ev_cN 1)) ?_
                   refine wl_v (x_move (tmI rfl rfl)) ?_
                   refine wl_nil ?_
                   exact then_n ⟨_, _, rfl, (by show _ < _; omega), (by repeat (first | exact agree_self | exact agree_refl | refine agree_upd rfl ?_ | refine agree_mix rfl ?_)), k + 1, rfl, (by first | rfl | go_num | exact congrArg (Value.int _) (by first | omega | (simp; done) | (simp; omega))), (by first | rfl | go_num | exact congrArg (Value.int _) (by first | omega | (simp; done) | (simp; omega))), hS, (by omega)⟩
             try (exfalso; first | with_reducible exact absurd hc1 Bool.false_ne_true | with_reducible exact absurd hc1.symm Bool.false_ne_true | (simp only [nrm] at hc1; omega) | (simp at hc1; done))
             all_goals
              try simp only [nrm] at hc1
              refine wp_exit ?_
              refine then_x ?_; clear hK11 K11
              refine then_x ?_
              refine inb_x ?_
              refine then_n (hK8 _ _ ?_); clear hK8 K8
              refine wp_seq_k ?_; intro K20 hK20
              refine wlit ?_
              refine wl_v (x_move (tmI rfl rfl)) ?_
              refine wl_v (x_assign (tmI rfl rfl)) ?_
              refine wl_v (x_assign ev_c) ?_
              refine wl_nil ?_
              refine then_n (hK20 _ _ ?_); clear hK20 K20
              refine wp_ret ?_
              refine ret2 rfl (.tmp rfl (show _ = Value.int _ _ from rfl)) (.tmp rfl (show _ = Value.bool _ from rfl)) ?_
              first
                | (have hkn : k = n := by omega
                   subst hkn
                   exact ⟨rfl, hS.kp⟩)
                | (exfalso; rcases hz with h | h <;> simp at * <;> omega)
                | (exfalso; simp at *; omega)
       have hg1_14' := hg1_14; (try simp only [nrm] at hg1_14'); try (exfalso; first | with_reducible exact absurd hg1_14 Bool.false_ne_true | with_reducible exact absurd hg1_14.symm Bool.false_ne_true | omega | (simp at hg1_14; done))
       all_goals
        refine wl_s rfl (want_n rfl rfl rfl rfl (by rw [hg1_14]; rfl)) ?_
        refine wl_s rfl (want_n rfl rfl rfl rfl (by rw [hg1_14]; rfl)) ?_
        refine wl_s rfl (want_n rfl rfl rfl rfl (by rw [hg1_14]; rfl)) ?_
        refine wl_gv (want_y rfl rfl rfl rfl (by rw [hg1_10]; rfl)) (x_pickF (tmB rfl rfl) hg1_14 ev_c) ?_
        refine wl_v (x_pickF (tmB rfl rfl) hg1_10 (tmB rfl rfl)) ?_
        refine wl_nil ?_
        refine then_n (hK3 _ _ ?_); clear hK3 K3
        refine cnd_f (tmB rfl rfl) rfl ?_
        refine wp_skip ?_
        refine then_n (hK2 _ _ ?_); clear hK2 K2
        refine wp_seq_k ?_; intro K21 hK21
        refine wlit ?_
        refine wl_v (x_assign (ev_cN 0)) ?_
        refine wl_nil ?_
        refine then_n (hK21 _ _ ?_); clear hK21 K21
        refine wp_seq_k ?_; intro K22 hK22
        refine wp_seq_k ?_; intro K23 hK23
        refine wlit ?_
        refine wl_v (x_move (tmG rfl rfl)) ?_
        refine wl_v (x_lenS Tryd.underlying9 (tmG rfl rfl)) ?_
        refine wl_v (x_move (ev_cN 0)) ?_
        refine wl_nil ?_
        refine then_n (hK23 _ _ ?_); clear hK23 K23
        refine wp_block ?_
        refine lp [6, 7, 8, 9, 10, 33, 34, 35, 36, 37, 38, 39, 40, 41, 42, 43, 44, 45, 46, 47, 48, 49, 50, 51, 52, 53, 54, 55, 56, 57, 58, 59, 60, 61, 62, 63] (fun mz g w => ∃ (k : Nat), mz = n - k ∧ g 33 = .int .i64 (k : Int) ∧ g 8 = .int .i64 (t k : Int) ∧ St [] w0 [] w ∧ (k ≤ n)) ?_ ?_
        · exact ⟨_, 0, rfl, (by first | rfl | go_num | exact congrArg (Value.int _) (by first | omega | (simp; done) | (simp; omega))), (by first | rfl | go_num | exact congrArg (Value.int _) (by first | omega | (simp; done) | (simp; omega))), hS, (by omega)⟩
        · clear hS; intro mz g w hI
          obtain ⟨k, rfl, hs33, hs8, hS, hk⟩ := hI
          refine fr_know (d := 33) hs33 ?_; clear hs33
          refine fr_know (d := 8) hs8 ?_; clear hs8
          refine wp_seq_k ?_; intro K24 hK24
          refine wlit ?_
          refine wl_v (x_lss (tmI rfl rfl) (tmI rfl rfl)) ?_
          refine wl_nil ?_
          refine then_n (hK24 _ _ ?_); clear hK24 K24
          refine wp_seq_k ?_; intro K25 hK25
          refine cnd (tm rfl) (fun hc1 => ?_) (fun hc1 => ?_)
          · try (exfalso; first | with_reducible exact absurd hc1 Bool.false_ne_true | with_reducible exact absurd hc1.symm Bool.false_ne_true | (simp only [nrm] at hc1; omega) | (simp at hc1; done))
            all_goals
             try simp only [nrm] at hc1
             refine wp_skip ?_
             refine then_n (hK25 _ _ ?_); clear hK25 K25
             refine wp_seq_k ?_; intro K26 hK26
             refine wp_block ?_
             refine wp_seq_k ?_; intro K27 hK27
             refine wlit ?_
             refine wl_v (x_move (tmI rfl rfl)) ?_
             refine wl_v (x_assign (tmI rfl rfl)) ?_
             refine wl_nil ?_
             refine then_n (hK27 _ _ ?_); clear hK27 K27
             refine wp_seq_k ?_; intro K28 hK28
             refine wlit ?_
             have hdk := hd k (by omega); have huk := hu k (by omega); have htk := ht k (by omega); have hw255 := wrap255 (q k) hdk.1
             refine wl_v (x_move (tmG rfl rfl)) ?_
             refine wl_v (x_move (tmI rfl rfl)) ?_
             refine wl_v (x_ixG Tryd.underlying9 (tmG rfl rfl) (tmI rfl rfl) (hd k (by omega)).2) ?_
             refine wl_v (x_move (tmI rfl rfl)) ?_
             refine wl_e rfl ?_; intro K hK
             refine ow_call Tryd.func42 rfl rfl (evs_cons (tmI rfl rfl) <| evs_cons (tmI rfl rfl) <| evs_nil) ((huk ▸ digit_c (q k) _ hdk.1)) ?_
             rintro e w ⟨rfl, hk2⟩
             refine ⟨_, rfl, ?_⟩
             replace hS := hS.kept hk2
             refine hK _ _ ?_; clear hK K
             refine wl_v (x_assign (tmI rfl rfl)) ?_
             refine wl_nil ?_
             refine then_n (hK28 _ _ ?_); clear hK28 K28
             refine wp_seq_k ?_; intro K29 hK29
             refine wp_seq_k ?_; intro K30 hK30
             refine wlit ?_
             refine wl_v (x_move (tmI rfl rfl)) ?_
             refine wl_v (x_move (tmI rfl rfl)) ?_
             refine wl_v (x_eql (tmI rfl rfl) (tmI rfl rfl)) ?_
             refine wl_v (x_move (tmB rfl rfl)) ?_
             refine gs_wl (tm (t := 44) rfl) (fun hg8_3 => ?_) (fun hg8_3 => ?_)
             · have hg8_3' := hg8_3; (try simp only [nrm] at hg8_3'); try (exfalso; first | with_reducible exact absurd hg8_3 Bool.false_ne_true | with_reducible exact absurd hg8_3.symm Bool.false_ne_true | omega | (simp at hg8_3; done))
               all_goals
                refine wl_s rfl (want_n rfl rfl rfl rfl (by rw [hg8_3]; rfl)) ?_
                refine wl_s rfl (want_n rfl rfl rfl rfl (by rw [hg8_3]; rfl)) ?_
                refine wl_s rfl (want_n rfl rfl rfl rfl (by rw [hg8_3]; rfl)) ?_
                refine wl_v (x_pickT (tmB rfl rfl) hg8_3 ev_c) ?_
                refine wl_v (x_move (tmB rfl rfl)) ?_
                refine wl_s rfl (want_n rfl rfl rfl rfl rfl) ?_
                refine wl_s rfl (want_n rfl rfl rfl rfl rfl) ?_
                refine wl_s rfl (want_n rfl rfl rfl rfl rfl) ?_
                refine wl_s rfl (want_n rfl rfl rfl rfl rfl) ?_
                refine wl_s rfl (want_n rfl rfl rfl rfl rfl) ?_
                refine wl_s rfl (want_n rfl rfl rfl rfl rfl) ?_
                refine wl_s rfl (want_n rfl rfl rfl rfl rfl) ?_
                refine wl_v (x_pickT (tmB rfl rfl) rfl ev_c) ?_
                refine wl_nil ?_
                refine then_n (hK30 _ _ ?_); clear hK30 K30
                refine cnd_t (tmB rfl rfl) rfl ?_
                refine wp_seq_k ?_; intro K31 hK31
                refine wlit ?_
                refine wl_v (x_assign (ev_cN 0)) ?_
                refine wl_v (x_assign ev_c) ?_
                refine wl_nil ?_
                refine then_n (hK31 _ _ ?_); clear hK31 K31
                refine wp_ret ?_
                refine then_r ?_
                refine inb_r ?_
                refine then_r ?_
                refine then_r ?_
                refine inb_r ?_
                refine then_r ?_
                refine ret2 rfl (.tmp rfl (show _ = Value.int _ _ from rfl)) (.tmp rfl (show _ = Value.bool _ from rfl)) ?_
                first
                  | (have hkn : k = n := by omega
                     subst hkn
                     exact ⟨rfl, hS.kp⟩)
                  | (exfalso; rcases hz with h | h <;> simp at * <;> omega)
                  | (exfalso; simp at *; omega)
             have hg8_3' := hg8_3; (try simp only [nrm] at hg8_3'); try (exfalso; first | with_reducible exact absurd hg8_3 Bool.false_ne_true | with_reducible exact absurd hg8_3.symm Bool.false_ne_true | omega | (simp at hg8_3; done))
             all_goals
              refine wl_gv (want_y rfl rfl rfl rfl (by rw [hg8_3]; rfl)) (x_move (tmI rfl rfl)) ?_
              refine wl_gv (want_y rfl rfl rfl rfl (by rw [hg8_3]; rfl)) (x_move (tmI rfl rfl)) ?_
              refine wl_gv (want_y rfl rfl rfl rfl (by rw [hg8_3]; rfl)) (x_gtr (tmI rfl rfl) (tmI rfl rfl)) ?_
              refine wl_v (x_pickF (tmB rfl rfl) hg8_3 (tmB rfl rfl)) ?_
              refine wl_v (x_move (tmB rfl rfl)) ?_
              refine gs_wl (tm (t := 49) rfl) (fun hg8_8 => ?_) (fun hg8_8 => ?_)
              · have hg8_8' := hg8_8; (try simp only [nrm] at hg8_8'); try (exfalso; first | with_reducible exact absurd hg8_8 Bool.false_ne_true | with_reducible exact absurd hg8_8.symm Bool.false_ne_true | omega | (simp at hg8_8; done))
                all_goals
                 refine wl_s rfl (want_n rfl rfl rfl rfl (by rw [hg8_8]; rfl)) ?_
                 refine wl_s rfl (want_n rfl rfl rfl rfl (by rw [hg8_8]; rfl)) ?_
                 refine wl_s rfl (want_n rfl rfl rfl rfl (by rw [hg8_8]; rfl)) ?_
                 refine wl_s rfl (want_n rfl rfl rfl rfl (by rw [hg8_8]; rfl)) ?_
                 refine wl_s rfl (want_n rfl rfl rfl rfl (by rw [hg8_8]; rfl)) ?_
                 refine wl_s rfl (want_n rfl rfl rfl rfl (by rw [hg8_8]; rfl)) ?_
                 refine wl_s rfl (want_n rfl rfl rfl rfl (by rw [hg8_8]; rfl)) ?_
                 refine wl_v (x_pickT (tmB rfl rfl) hg8_8 ev_c) ?_
                 refine wl_nil ?_
                 refine then_n (hK30 _ _ ?_); clear hK30 K30
                 refine cnd_t (tmB rfl rfl) rfl ?_
                 refine wp_seq_k ?_; intro K32 hK32
                 refine wlit ?_
                 refine wl_v (x_assign (ev_cN 0)) ?_
                 refine wl_v (x_assign ev_c) ?_
                 refine wl_nil ?_
                 refine then_n (hK32 _ _ ?_); clear hK32 K32
                 refine wp_ret ?_
                 refine then_r ?_
                 refine inb_r ?_
                 refine then_r ?_
                 refine then_r ?_
                 refine inb_r ?_
                 refine then_r ?_
                 refine ret2 rfl (.tmp rfl (show _ = Value.int _ _ from rfl)) (.tmp rfl (show _ = Value.bool _ from rfl)) ?_
                 first
                   | (have hkn : k = n := by omega
                      subst hkn
                      exact ⟨rfl, hS.kp⟩)
                   | (exfalso; rcases hz with h | h <;> simp at * <;> omega)
                   | (exfalso; simp at *; omega)
              have hg8_8' := hg8_8; (try simp only [nrm] at hg8_8'); try (exfalso; first | with_reducible exact absurd hg8_8 Bool.false_ne_true | with_reducible exact absurd hg8_8.symm Bool.false_ne_true | omega | (simp at hg8_8; done))
              all_goals
               refine wl_gv (want_y rfl rfl rfl rfl (by rw [hg8_8]; rfl)) (x_move (tmI rfl rfl)) ?_
               refine wl_gv (want_y rfl rfl rfl rfl (by rw [hg8_8]; rfl)) (x_move (tmI rfl rfl)) ?_
               refine wl_gv (want_y rfl rfl rfl rfl (by rw [hg8_8]; rfl)) (x_move (tmI rfl rfl)) ?_
               first
                | refine wl_gv (want_y rfl rfl rfl rfl (by rw [hg8_8]; rfl)) (x_subN (tmI rfl rfl) (tmI rfl rfl) (fit_i64 (by omega)) (by omega)) ?_
                | refine wl_gv (want_y rfl rfl rfl rfl (by rw [hg8_8]; rfl)) (x_subI (tmI rfl rfl) (tmI rfl rfl) (IntWalk.i64_in _ (by omega))) ?_
                | refine wl_gv (want_y rfl rfl rfl rfl (by rw [hg8_8]; rfl)) (x_sub (tmI rfl rfl) (tmI rfl rfl)) ?_
               refine wl_gv (want_y rfl rfl rfl rfl (by rw [hg8_8]; rfl)) (x_move (tmI rfl rfl)) ?_
               first
                | refine wl_gv (want_y rfl rfl rfl rfl (by rw [hg8_8]; rfl)) (x_quoN (tmI rfl rfl) (tmI rfl rfl) (by omega) (fit_i64 (by omega))) ?_
                | refine wl_gv (want_y rfl rfl rfl rfl (by rw [hg8_8]; rfl)) (x_quo (tmI rfl rfl) (tmI rfl rfl) (by omega)) ?_
               refine wl_gv (want_y rfl rfl rfl rfl (by rw [hg8_8]; rfl)) (x_gtr (tmI rfl rfl) (tmI rfl rfl)) ?_
               refine wl_v (x_pickF (tmB rfl rfl) hg8_8 (tmB rfl rfl)) ?_
               refine wl_nil ?_
               refine then_n (hK30 _ _ ?_); clear hK30 K30
               refine cnd (tm rfl) (fun hc2 => ?_) (fun hc2 => ?_)
               · try (exfalso; first | with_reducible exact absurd hc2 Bool.false_ne_true | with_reducible exact absurd hc2.symm Bool.false_ne_true | (simp only [nrm] at hc2; omega) | (simp at hc2; done))
                 all_goals
                  try simp only [nrm] at hc2
                  refine wp_seq_k ?_; intro K33 hK33
                  refine wlit ?_
                  refine wl_v (x_assign (ev_cN 0)) ?_
                  refine wl_v (x_assign ev_c) ?_
                  refine wl_nil ?_
                  refine then_n (hK33 _ _ ?_); clear hK33 K33
                  refine wp_ret ?_
                  refine then_r ?_
                  refine inb_r ?_
                  refine then_r ?_
                  refine then_r ?_
                  refine inb_r ?_
                  refine then_r ?_
                  refine ret2 rfl (.tmp rfl (show _ = Value.int _ _ from rfl)) (.tmp rfl (show _ = Value.bool _ from rfl)) ?_
                  first
                    | (have hkn : k = n := by omega
                       subst hkn
                       exact ⟨rfl, hS.kp⟩)
                    | (exfalso; rcases hz with h | h <;> simp at * <;> omega)
                    | (exfalso; simp at *; omega)
               try (exfalso; first | with_reducible exact absurd hc2 Bool.false_ne_true | with_reducible exact absurd hc2.symm Bool.false_ne_true | (simp only [nrm] at hc2; omega) | (simp at hc2; done))
               all_goals
                try simp only [nrm] at hc2
                refine wp_skip ?_
                refine then_n (hK29 _ _ ?_); clear hK29 K29
                refine wlit ?_
                refine wl_v (x_move (tmI rfl rfl)) ?_
                refine wl_v (x_move (tmI rfl rfl)) ?_
                first
                 | refine wl_v (x_mulN (tmI rfl rfl) (tmI rfl rfl) (fit_i64 (by omega))) ?_
                 | refine wl_v (x_mulI (tmI rfl rfl) (tmI rfl rfl) (IntWalk.i64_in _ (by omega))) ?_
                 | refine wl_v (x_mul (tmI rfl rfl) (tmI rfl rfl)) ?_
                refine wl_v (x_move (tmI rfl rfl)) ?_
                first
                 | refine wl_v (x_addN (tmI rfl rfl) (tmI rfl rfl) (fit_i64 (by omega))) ?_
                 | refine wl_v (x_addI (tmI rfl rfl) (tmI rfl rfl) (IntWalk.i64_in _ (by omega))) ?_
                 | refine wl_v (x_add (tmI rfl rfl) (tmI rfl rfl)) ?_
                refine wl_v (x_assign (tmI rfl rfl)) ?_
                refine wl_nil ?_
                refine inb_n ?_
                refine then_n (hK26 _ _ ?_); clear hK26 K26
                refine wlit ?_
                first
                 | refine wl_v (x_addN (tmI rfl rfl) (ev_cN 1) (fit_i64 (by omega))) ?_
                 | refine wl_v (x_addI (tmI rfl rfl) (ev_cN 1) (IntWalk.i64_in _ (by omega))) ?_
                 | refine wl_v (x_add (tmI rfl rfl) (ev_cN 1)) ?_
                refine wl_v (x_move (tmI rfl rfl)) ?_
                refine wl_nil ?_
                exact then_n ⟨_, _, rfl, (by show _ < _; omega), (by repeat (first | exact agree_self | exact agree_refl | refine agree_upd rfl ?_ | refine agree_mix rfl ?_)), k + 1, rfl, (by first | rfl | go_num | exact congrArg (Value.int _) (by first | omega | (simp; done) | (simp; omega))), (by first | rfl | go_num | exact congrArg (Value.int _) (by first | omega | (simp; done) | (simp; omega))), hS, (by omega)⟩
          try (exfalso; first | with_reducible exact absurd hc1 Bool.false_ne_true | with_reducible exact absurd hc1.symm Bool.false_ne_true | (simp only [nrm] at hc1; omega) | (simp at hc1; done))
          all_goals
           try simp only [nrm] at hc1
           refine wp_exit ?_
           refine then_x ?_; clear hK25 K25
           refine then_x ?_
           refine inb_x ?_
           refine then_n (hK22 _ _ ?_); clear hK22 K22
           refine wp_seq_k ?_; intro K34 hK34
           refine wlit ?_
           refine wl_v (x_move (tmI rfl rfl)) ?_
           refine wl_v (x_assign (tmI rfl rfl)) ?_
           refine wl_v (x_assign ev_c) ?_
           refine wl_nil ?_
           refine then_n (hK34 _ _ ?_); clear hK34 K34
           refine wp_ret ?_
           refine ret2 rfl (.tmp rfl (show _ = Value.int _ _ from rfl)) (.tmp rfl (show _ = Value.bool _ from rfl)) ?_
           first
             | (have hkn : k = n := by omega
                subst hkn
                exact ⟨rfl, hS.kp⟩)
             | (exfalso; rcases hz with h | h <;> simp at * <;> omega)
             | (exfalso; simp at *; omega)
  have hg1_2' := hg1_2; (try simp only [nrm] at hg1_2'); try (exfalso; first | with_reducible exact absurd hg1_2 Bool.false_ne_true | with_reducible exact absurd hg1_2.symm Bool.false_ne_true | omega | (simp at hg1_2; done))
  all_goals
   refine wl_s rfl (want_n rfl rfl rfl rfl (by rw [hg1_2]; rfl)) ?_
   refine wl_s rfl (want_n rfl rfl rfl rfl (by rw [hg1_2]; rfl)) ?_
   refine wl_v (x_pickF (tmB rfl rfl) hg1_2 ev_c) ?_
   refine wl_v (x_move (tmB rfl rfl)) ?_
   refine wl_gv (want_y rfl rfl rfl rfl rfl) (x_move (tmG rfl rfl)) ?_
   refine wl_gv (want_y rfl rfl rfl rfl rfl) (x_eqv (res := false) (.inl rfl) (tmG rfl rfl) ev_c (fun _ => rfl) (fun w => by rw [run_Geql, hs0])) ?_
   refine wl_v (x_pickF (tmB rfl rfl) rfl (tmB rfl rfl)) ?_
   refine wl_v (x_move (tmB rfl rfl)) ?_
   refine gs_wl (tm (t := 21) rfl) (fun hg1_10 => ?_) (fun hg1_10 => ?_)
   · have hg1_10' := hg1_10; (try simp only [nrm] at hg1_10'); try (exfalso; first | with_reducible exact absurd hg1_10 Bool.false_ne_true | with_reducible exact absurd hg1_10.symm Bool.false_ne_true | omega | (simp at hg1_10; done))
     all_goals
      refine wl_s rfl (want_n rfl rfl rfl rfl (by rw [hg1_10]; rfl)) ?_
      refine wl_s rfl (want_n rfl rfl rfl rfl (by rw [hg1_10]; rfl)) ?_
      refine wl_s rfl (want_n rfl rfl rfl rfl (by rw [hg1_10]; rfl)) ?_
      refine wl_s rfl (want_n rfl rfl rfl rfl (by rw [hg1_10]; rfl)) ?_
      refine wl_s rfl (want_u rfl rfl rfl rfl) ?_
      refine wl_s rfl (want_u rfl rfl rfl rfl) ?_
      refine wl_s rfl (want_u rfl rfl rfl rfl) ?_
      refine wl_s rfl (want_n rfl rfl rfl rfl (by rw [hg1_10]; rfl)) ?_
      refine wl_v (x_pickT (tmB rfl rfl) hg1_10 ev_c) ?_
      refine wl_nil ?_
      refine then_n (hK3 _ _ ?_); clear hK3 K3
      refine cnd_t (tmB rfl rfl) rfl ?_
      refine wp_seq_k ?_; intro K35 hK35
      refine wlit ?_
      refine wl_v (x_assign (ev_cN 0)) ?_
      refine wl_v (x_assign ev_c) ?_
      refine wl_nil ?_
      refine then_n (hK35 _ _ ?_); clear hK35 K35
      refine wp_ret ?_
      refine then_r ?_
      refine ret2 rfl (.tmp rfl (show _ = Value.int _ _ from rfl)) (.tmp rfl (show _ = Value.bool _ from rfl)) ?_
      first
        | (have hkn : k = n := by omega
           subst hkn
           exact ⟨rfl, hS.kp⟩)
        | (exfalso; rcases hz with h | h <;> simp at * <;> omega)
        | (exfalso; simp at *; omega)
   have hg1_10' := hg1_10; (try simp only [nrm] at hg1_10'); try (exfalso; first | with_reducible exact absurd hg1_10 Bool.false_ne_true | with_reducible exact absurd hg1_10.symm Bool.false_ne_true | omega | (simp at hg1_10; done))
   all_goals
    refine wl_gv (want_y rfl rfl rfl rfl (by rw [hg1_10]; rfl)) (x_move (tmG rfl rfl)) ?_
    refine wl_gv (want_y rfl rfl rfl rfl (by rw [hg1_10]; rfl)) (x_lenS Tryd.underlying9 (tmG rfl rfl)) ?_
    refine wl_gv (want_y rfl rfl rfl rfl (by rw [hg1_10]; rfl)) (x_gtr (tmI rfl rfl) (ev_cN 1)) ?_
    refine wl_gv (want_y rfl rfl rfl rfl (by rw [hg1_10]; rfl)) (x_move (tmB rfl rfl)) ?_
    refine gs_wl (tm (t := 25) rfl) (fun hg1_14 => ?_) (fun hg1_14 => ?_)
    · have hg1_14' := hg1_14; (try simp only [nrm] at hg1_14'); try (exfalso; first | with_reducible exact absurd hg1_14 Bool.false_ne_true | with_reducible exact absurd hg1_14.symm Bool.false_ne_true | omega | (simp at hg1_14; done))
      all_goals
       refine wl_gv (want_y rfl rfl rfl rfl (by rw [hg1_14]; rfl)) (x_move (tmG rfl rfl)) ?_
       refine wl_gv (want_y rfl rfl rfl rfl (by rw [hg1_14]; rfl)) (x_ixG (j := 0) Tryd.underlying9 (tmG rfl rfl) (ev_cN 0) h00) ?_
       refine wl_gv (want_y rfl rfl rfl rfl (by rw [hg1_14]; rfl)) (x_eql (tmI rfl rfl) (ev_cN 48)) ?_
       refine wl_gv (want_y rfl rfl rfl rfl (by rw [hg1_10]; rfl)) (x_pickT (tmB rfl rfl) hg1_14 (tmB rfl rfl)) ?_
       refine wl_v (x_pickF (tmB rfl rfl) hg1_10 (tmB rfl rfl)) ?_
       refine wl_nil ?_
       refine then_n (hK3 _ _ ?_); clear hK3 K3
       refine cnd (tm rfl) (fun hc0 => ?_) (fun hc0 => ?_)
       · try (exfalso; first | with_reducible exact absurd hc0 Bool.false_ne_true | with_reducible exact absurd hc0.symm Bool.false_ne_true | (simp only [nrm] at hc0; omega) | (simp at hc0; done))
         all_goals
          try simp only [nrm] at hc0
          refine wp_seq_k ?_; intro K36 hK36
          refine wlit ?_
          refine wl_v (x_assign (ev_cN 0)) ?_
          refine wl_v (x_assign ev_c) ?_
          refine wl_nil ?_
          refine then_n (hK36 _ _ ?_); clear hK36 K36
          refine wp_ret ?_
          refine then_r ?_
          refine ret2 rfl (.tmp rfl (show _ = Value.int _ _ from rfl)) (.tmp rfl (show _ = Value.bool _ from rfl)) ?_
          first
            | (have hkn : k = n := by omega
               subst hkn
               exact ⟨rfl, hS.kp⟩)
            | (exfalso; rcases hz with h | h <;> simp at * <;> omega)
            | (exfalso; simp at *; omega)
       try (exfalso; first | with_reducible exact absurd hc0 Bool.false_ne_true | with_reducible exact absurd hc0.symm Bool.false_ne_true | (simp only [nrm] at hc0; omega) | (simp at hc0; done))
       all_goals
        try simp only [nrm] at hc0
        refine wp_skip ?_
        refine then_n (hK2 _ _ ?_); clear hK2 K2
        refine wp_seq_k ?_; intro K37 hK37
        refine wlit ?_
        refine wl_v (x_assign (ev_cN 0)) ?_
        refine wl_nil ?_
        refine then_n (hK37 _ _ ?_); clear hK37 K37
        refine wp_seq_k ?_; intro K38 hK38
        refine wp_seq_k ?_; intro K39 hK39
        refine wlit ?_
        refine wl_v (x_move (tmG rfl rfl)) ?_
        refine wl_v (x_lenS Tryd.underlying9 (tmG rfl rfl)) ?_
        refine wl_v (x_move (ev_cN 0)) ?_
        refine wl_nil ?_
        refine then_n (hK39 _ _ ?_); clear hK39 K39
        refine wp_block ?_
        refine lp [6, 7, 8, 9, 10, 33, 34, 35, 36, 37, 38, 39, 40, 41, 42, 43, 44, 45, 46, 47, 48, 49, 50, 51, 52, 53, 54, 55, 56, 57, 58, 59, 60, 61, 62, 63] (fun mz g w => ∃ (k : Nat), mz = n - k ∧ g 33 = .int .i64 (k : Int) ∧ g 8 = .int .i64 (t k : Int) ∧ St [] w0 [] w ∧ (k ≤ n)) ?_ ?_
        · exact ⟨_, 0, rfl, (by first | rfl | go_num | exact congrArg (Value.int _) (by first | omega | (simp; done) | (simp; omega))), (by first | rfl | go_num | exact congrArg (Value.int _) (by first | omega | (simp; done) | (simp; omega))), hS, (by omega)⟩
        · clear hS; intro mz g w hI
          obtain ⟨k, rfl, hs33, hs8, hS, hk⟩ := hI
          refine fr_know (d := 33) hs33 ?_; clear hs33
          refine fr_know (d := 8) hs8 ?_; clear hs8
          refine wp_seq_k ?_; intro K40 hK40
          refine wlit ?_
          refine wl_v (x_lss (tmI rfl rfl) (tmI rfl rfl)) ?_
          refine wl_nil ?_
          refine then_n (hK40 _ _ ?_); clear hK40 K40
          refine wp_seq_k ?_; intro K41 hK41
          refine cnd (tm rfl) (fun hc1 => ?_) (fun hc1 => ?_)
          · try (exfalso; first | with_reducible exact absurd hc1 Bool.false_ne_true | with_reducible exact absurd hc1.symm Bool.false_ne_true | (simp only [nrm] at hc1; omega) | (simp at hc1; done))
            all_goals
             try simp only [nrm] at hc1
             refine wp_skip ?_
             refine then_n (hK41 _ _ ?_); clear hK41 K41
             refine wp_seq_k ?_; intro K42 hK42
             refine wp_block ?_
             refine wp_seq_k ?_; intro K43 hK43
             refine wlit ?_
             refine wl_v (x_move (tmI rfl rfl)) ?_
             refine wl_v (x_assign (tmI rfl rfl)) ?_
             refine wl_nil ?_
             refine then_n (hK43 _ _ ?_); clear hK43 K43
             refine wp_seq_k ?_; intro K44 hK44
             refine wlit ?_
             have hdk := hd k (by omega); have huk := hu k (by omega); have htk := ht k (by omega); have hw255 := wrap255 (q k) hdk.1
             refine wl_v (x_move (tmG rfl rfl)) ?_
             refine wl_v (x_move (tmI rfl rfl)) ?_
             refine wl_v (x_ixG Tryd.underlying9 (tmG rfl rfl) (tmI rfl rfl) (hd k (by omega)).2) ?_
             refine wl_v (x_move (tmI rfl rfl)) ?_
             refine wl_e rfl ?_; intro K hK
             refine ow_call Tryd.func42 rfl rfl (evs_cons (tmI rfl rfl) <| evs_cons (tmI rfl rfl) <| evs_nil) ((huk ▸ digit_c (q k) _ hdk.1)) ?_
             rintro e w ⟨rfl, hk2⟩
             refine ⟨_, rfl, ?_⟩
             replace hS := hS.kept hk2
             refine hK _ _ ?_; clear hK K
             refine wl_v (x_assign (tmI rfl rfl)) ?_
             refine wl_nil ?_
             refine then_n (hK44 _ _ ?_); clear hK44 K44
             refine wp_seq_k ?_; intro K45 hK45
             refine wp_seq_k ?_; intro K46 hK46
             refine wlit ?_
             refine wl_v (x_move (tmI rfl rfl)) ?_
             refine wl_v (x_move (tmI rfl rfl)) ?_
             refine wl_v (x_eql (tmI rfl rfl) (tmI rfl rfl)) ?_
             refine wl_v (x_move (tmB rfl rfl)) ?_
             refine gs_wl (tm (t := 44) rfl) (fun hg8_3 => ?_) (fun hg8_3 => ?_)
             · have hg8_3' := hg8_3; (try simp only [nrm] at hg8_3'); try (exfalso; first | with_reducible exact absurd hg8_3 Bool.false_ne_true | with_reducible exact absurd hg8_3.symm Bool.false_ne_true | omega | (simp at hg8_3; done))
               all_goals
                refine wl_s rfl (want_n rfl rfl rfl rfl (by rw [hg8_3]; rfl)) ?_
                refine wl_s rfl (want_n rfl rfl rfl rfl (by rw [hg8_3]; rfl)) ?_
                refine wl_s rfl (want_n rfl rfl rfl rfl (by rw [hg8_3]; rfl)) ?_
                refine wl_v (x_pickT (tmB rfl rfl) hg8_3 ev_c) ?_
                refine wl_v (x_move (tmB rfl rfl)) ?_
                refine wl_s rfl (want_n rfl rfl rfl rfl rfl) ?_
                refine wl_s rfl (want_n rfl rfl rfl rfl rfl) ?_
                refine wl_s rfl (want_n rfl rfl rfl rfl rfl) ?_
                refine wl_s rfl (want_n rfl rfl rfl rfl rfl) ?_
                refine wl_s rfl (want_n rfl rfl rfl rfl rfl) ?_
                refine wl_s rfl (want_n rfl rfl rfl rfl rfl) ?_
                refine wl_s rfl (want_n rfl rfl rfl rfl rfl) ?_
                refine wl_v (x_pickT (tmB rfl rfl) rfl ev_c) ?_
                refine wl_nil ?_
                refine then_n (hK46 _ _ ?_); clear hK46 K46
                refine cnd_t (tmB rfl rfl) rfl ?_
                refine wp_seq_k ?_; intro K47 hK47
                refine wlit ?_
                refine wl_v (x_assign (ev_cN 0)) ?_
                refine wl_v (x_assign ev_c) ?_
                refine wl_nil ?_
                refine then_n (hK47 _ _ ?_); clear hK47 K47
                refine wp_ret ?_
                refine then_r ?_
                refine inb_r ?_
                refine then_r ?_
                refine then_r ?_
                refine inb_r ?_
                refine then_r ?_
                refine ret2 rfl (.tmp rfl (show _ = Value.int _ _ from rfl)) (.tmp rfl (show _ = Value.bool _ from rfl)) ?_
                first
                  | (have hkn : k = n := by omega
                     subst hkn
                     exact ⟨rfl, hS.kp⟩)
                  | (exfalso; rcases hz with h | h <;> simp at * <;> omega)
                  | (exfalso; simp at *; omega)
             have hg8_3' := hg8_3; (try simp only [nrm] at hg8_3'); try (exfalso; first | with_reducible exact absurd hg8_3 Bool.false_ne_true | with_reducible exact absurd hg8_3.symm Bool.false_ne_true | omega | (simp at hg8_3; done))
             all_goals
              refine wl_gv (want_y rfl rfl rfl rfl (by rw [hg8_3]; rfl)) (x_move (tmI rfl rfl)) ?_
              refine wl_gv (want_y rfl rfl rfl rfl (by rw [hg8_3]; rfl)) (x_move (tmI rfl rfl)) ?_
              refine wl_gv (want_y rfl rfl rfl rfl (by rw [hg8_3]; rfl)) (x_gtr (tmI rfl rfl) (tmI rfl rfl)) ?_
              refine wl_v (x_pickF (tmB rfl rfl) hg8_3 (tmB rfl rfl)) ?_
              refine wl_v (x_move (tmB rfl rfl)) ?_
              refine gs_wl (tm (t := 49) rfl) (fun hg8_8 => ?_) (fun hg8_8 => ?_)
              · have hg8_8' := hg8_8; (try simp only [nrm] at hg8_8'); try (exfalso; first | with_reducible exact absurd hg8_8 Bool.false_ne_true | with_reducible exact absurd hg8_8.symm Bool.false_ne_true | omega | (simp at hg8_8; done))
                all_goals
                 refine wl_s rfl (want_n rfl rfl rfl rfl (by rw [hg8_8]; rfl)) ?_
                 refine wl_s rfl (want_n rfl rfl rfl rfl (by rw [hg8_8]; rfl)) ?_
                 refine wl_s rfl (want_n rfl rfl rfl rfl (by rw [hg8_8]; rfl)) ?_
                 refine wl_s rfl (want_n rfl rfl rfl rfl (by rw [hg8_8]; rfl)) ?_
                 refine wl_s rfl (want_n rfl rfl rfl rfl (by rw [hg8_8]; rfl)) ?_
                 refine wl_s rfl (want_n rfl rfl rfl rfl (by rw [hg8_8]; rfl)) ?_
                 refine wl_s rfl (want_n rfl rfl rfl rfl (by rw [hg8_8]; rfl)) ?_
                 refine wl_v (x_pickT (tmB rfl rfl) hg8_8 ev_c) ?_
                 refine wl_nil ?_
                 refine then_n (hK46 _ _ ?_); clear hK46 K46
                 refine cnd_t (tmB rfl rfl) rfl ?_
                 refine wp_seq_k ?_; intro K48 hK48
                 refine wlit ?_
                 refine wl_v (x_assign (ev_cN 0)) ?_
                 refine wl_v (x_assign ev_c) ?_
                 refine wl_nil ?_
                 refine then_n (hK48 _ _ ?_); clear hK48 K48
                 refine wp_ret ?_
                 refine then_r ?_
                 refine inb_r ?_
                 refine then_r ?_
                 refine then_r ?_
                 refine inb_r ?_
                 refine then_r ?_
                 refine ret2 rfl (.tmp rfl (show _ = Value.int _ _ from rfl)) (.tmp rfl (show _ = Value.bool _ from rfl)) ?_
                 first
                   | (have hkn : k = n := by omega
                      subst hkn
                      exact ⟨rfl, hS.kp⟩)
                   | (exfalso; rcases hz with h | h <;> simp at * <;> omega)
                   | (exfalso; simp at *; omega)
              have hg8_8' := hg8_8; (try simp only [nrm] at hg8_8'); try (exfalso; first | with_reducible exact absurd hg8_8 Bool.false_ne_true | with_reducible exact absurd hg8_8.symm Bool.false_ne_true | omega | (simp at hg8_8; done))
              all_goals
               refine wl_gv (want_y rfl rfl rfl rfl (by rw [hg8_8]; rfl)) (x_move (tmI rfl rfl)) ?_
               refine wl_gv (want_y rfl rfl rfl rfl (by rw [hg8_8]; rfl)) (x_move (tmI rfl rfl)) ?_
               refine wl_gv (want_y rfl rfl rfl rfl (by rw [hg8_8]; rfl)) (x_move (tmI rfl rfl)) ?_
               first
                | refine wl_gv (want_y rfl rfl rfl rfl (by rw [hg8_8]; rfl)) (x_subN (tmI rfl rfl) (tmI rfl rfl) (fit_i64 (by omega)) (by omega)) ?_
                | refine wl_gv (want_y rfl rfl rfl rfl (by rw [hg8_8]; rfl)) (x_subI (tmI rfl rfl) (tmI rfl rfl) (IntWalk.i64_in _ (by omega))) ?_
                | refine wl_gv (want_y rfl rfl rfl rfl (by rw [hg8_8]; rfl)) (x_sub (tmI rfl rfl) (tmI rfl rfl)) ?_
               refine wl_gv (want_y rfl rfl rfl rfl (by rw [hg8_8]; rfl)) (x_move (tmI rfl rfl)) ?_
               first
                | refine wl_gv (want_y rfl rfl rfl rfl (by rw [hg8_8]; rfl)) (x_quoN (tmI rfl rfl) (tmI rfl rfl) (by omega) (fit_i64 (by omega))) ?_
                | refine wl_gv (want_y rfl rfl rfl rfl (by rw [hg8_8]; rfl)) (x_quo (tmI rfl rfl) (tmI rfl rfl) (by omega)) ?_
               refine wl_gv (want_y rfl rfl rfl rfl (by rw [hg8_8]; rfl)) (x_gtr (tmI rfl rfl) (tmI rfl rfl)) ?_
               refine wl_v (x_pickF (tmB rfl rfl) hg8_8 (tmB rfl rfl)) ?_
               refine wl_nil ?_
               refine then_n (hK46 _ _ ?_); clear hK46 K46
               refine cnd (tm rfl) (fun hc2 => ?_) (fun hc2 => ?_)
               · try (exfalso; first | with_reducible exact absurd hc2 Bool.false_ne_true | with_reducible exact absurd hc2.symm Bool.false_ne_true | (simp only [nrm] at hc2; omega) | (simp at hc2; done))
                 all_goals
                  try simp only [nrm] at hc2
                  refine wp_seq_k ?_; intro K49 hK49
                  refine wlit ?_
                  refine wl_v (x_assign (ev_cN 0)) ?_
                  refine wl_v (x_assign ev_c) ?_
                  refine wl_nil ?_
                  refine then_n (hK49 _ _ ?_); clear hK49 K49
                  refine wp_ret ?_
                  refine then_r ?_
                  refine inb_r ?_
                  refine then_r ?_
                  refine then_r ?_
                  refine inb_r ?_
                  refine then_r ?_
                  refine ret2 rfl (.tmp rfl (show _ = Value.int _ _ from rfl)) (.tmp rfl (show _ = Value.bool _ from rfl)) ?_
                  first
                    | (have hkn : k = n := by omega
                       subst hkn
                       exact ⟨rfl, hS.kp⟩)
                    | (exfalso; rcases hz with h | h <;> simp at * <;> omega)
                    | (exfalso; simp at *; omega)
               try (exfalso; first | with_reducible exact absurd hc2 Bool.false_ne_true | with_reducible exact absurd hc2.symm Bool.false_ne_true | (simp only [nrm] at hc2; omega) | (simp at hc2; done))
               all_goals
                try simp only [nrm] at hc2
                refine wp_skip ?_
                refine then_n (hK45 _ _ ?_); clear hK45 K45
                refine wlit ?_
                refine wl_v (x_move (tmI rfl rfl)) ?_
                refine wl_v (x_move (tmI rfl rfl)) ?_
                first
                 | refine wl_v (x_mulN (tmI rfl rfl) (tmI rfl rfl) (fit_i64 (by omega))) ?_
                 | refine wl_v (x_mulI (tmI rfl rfl) (tmI rfl rfl) (IntWalk.i64_in _ (by omega))) ?_
                 | refine wl_v (x_mul (tmI rfl rfl) (tmI rfl rfl)) ?_
                refine wl_v (x_move (tmI rfl rfl)) ?_
                first
                 | refine wl_v (x_addN (tmI rfl rfl) (tmI rfl rfl) (fit_i64 (by omega))) ?_
                 | refine wl_v (x_addI (tmI rfl rfl) (tmI rfl rfl) (IntWalk.i64_in _ (by omega))) ?_
                 | refine wl_v (x_add (tmI rfl rfl) (tmI rfl rfl)) ?_
                refine wl_v (x_assign (tmI rfl rfl)) ?_
                refine wl_nil ?_
                refine inb_n ?_
                refine then_n (hK42 _ _ ?_); clear hK42 K42
                refine wlit ?_
                first
                 | refine wl_v (x_addN (tmI rfl rfl) (ev_cN 1) (fit_i64 (by omega))) ?_
                 | refine wl_v (x_addI (tmI rfl rfl) (ev_cN 1) (IntWalk.i64_in _ (by omega))) ?_
                 | refine wl_v (x_add (tmI rfl rfl) (ev_cN 1)) ?_
                refine wl_v (x_move (tmI rfl rfl)) ?_
                refine wl_nil ?_
                exact then_n ⟨_, _, rfl, (by show _ < _; omega), (by repeat (first | exact agree_self | exact agree_refl | refine agree_upd rfl ?_ | refine agree_mix rfl ?_)), k + 1, rfl, (by first | rfl | go_num | exact congrArg (Value.int _) (by first | omega | (simp; done) | (simp; omega))), (by first | rfl | go_num | exact congrArg (Value.int _) (by first | omega | (simp; done) | (simp; omega))), hS, (by omega)⟩
          try (exfalso; first | with_reducible exact absurd hc1 Bool.false_ne_true | with_reducible exact absurd hc1.symm Bool.false_ne_true | (simp only [nrm] at hc1; omega) | (simp at hc1; done))
          all_goals
           try simp only [nrm] at hc1
           refine wp_exit ?_
           refine then_x ?_; clear hK41 K41
           refine then_x ?_
           refine inb_x ?_
           refine then_n (hK38 _ _ ?_); clear hK38 K38
           refine wp_seq_k ?_; intro K50 hK50
           refine wlit ?_
           refine wl_v (x_move (tmI rfl rfl)) ?_
           refine wl_v (x_assign (tmI rfl rfl)) ?_
           refine wl_v (x_assign ev_c) ?_
           refine wl_nil ?_
           refine then_n (hK50 _ _ ?_); clear hK50 K50
           refine wp_ret ?_
           refine ret2 rfl (.tmp rfl (show _ = Value.int _ _ from rfl)) (.tmp rfl (show _ = Value.bool _ from rfl)) ?_
           first
             | (have hkn : k = n := by omega
                subst hkn
                exact ⟨rfl, hS.kp⟩)
             | (exfalso; rcases hz with h | h <;> simp at * <;> omega)
             | (exfalso; simp at *; omega)
    have hg1_14' := hg1_14; (try simp only [nrm] at hg1_14'); try (exfalso; first | with_reducible exact absurd hg1_14 Bool.false_ne_true | with_reducible exact absurd hg1_14.symm Bool.false_ne_true | omega | (simp at hg1_14; done))
    all_goals
     refine wl_s rfl (want_n rfl rfl rfl rfl (by rw [hg1_14]; rfl)) ?_
     refine wl_s rfl (want_n rfl rfl rfl rfl (by rw [hg1_14]; rfl)) ?_
     refine wl_s rfl (want_n rfl rfl rfl rfl (by rw [hg1_14]; rfl)) ?_
     refine wl_gv (want_y rfl rfl rfl rfl (by rw [hg1_10]; rfl)) (x_pickF (tmB rfl rfl) hg1_14 ev_c) ?_
     refine wl_v (x_pickF (tmB rfl rfl) hg1_10 (tmB rfl rfl)) ?_
     refine wl_nil ?_
     refine then_n (hK3 _ _ ?_); clear hK3 K3
     refine cnd_f (tmB rfl rfl) rfl ?_
     refine wp_skip ?_
     refine then_n (hK2 _ _ ?_); clear hK2 K2
     refine wp_seq_k ?_; intro K51 hK51
     refine wlit ?_
     refine wl_v (x_assign (ev_cN 0)) ?_
     refine wl_nil ?_
     refine then_n (hK51 _ _ ?_); clear hK51 K51
     refine wp_seq_k ?_; intro K52 hK52
     refine wp_seq_k ?_; intro K53 hK53
     refine wlit ?_
     refine wl_v (x_move (tmG rfl rfl)) ?_
     refine wl_v (x_lenS Tryd.underlying9 (tmG rfl rfl)) ?_
     refine wl_v (x_move (ev_cN 0)) ?_
     refine wl_nil ?_
     refine then_n (hK53 _ _ ?_); clear hK53 K53
     refine wp_block ?_
     refine lp [6, 7, 8, 9, 10, 33, 34, 35, 36, 37, 38, 39, 40, 41, 42, 43, 44, 45, 46, 47, 48, 49, 50, 51, 52, 53, 54, 55, 56, 57, 58, 59, 60, 61, 62, 63] (fun mz g w => ∃ (k : Nat), mz = n - k ∧ g 33 = .int .i64 (k : Int) ∧ g 8 = .int .i64 (t k : Int) ∧ St [] w0 [] w ∧ (k ≤ n)) ?_ ?_
     · exact ⟨_, 0, rfl, (by first | rfl | go_num | exact congrArg (Value.int _) (by first | omega | (simp; done) | (simp; omega))), (by first | rfl | go_num | exact congrArg (Value.int _) (by first | omega | (simp; done) | (simp; omega))), hS, (by omega)⟩
     · clear hS; intro mz g w hI
       obtain ⟨k, rfl, hs33, hs8, hS, hk⟩ := hI
       refine fr_know (d := 33) hs33 ?_; clear hs33
       refine fr_know (d := 8) hs8 ?_; clear hs8
       refine wp_seq_k ?_; intro K54 hK54
       refine wlit ?_
       refine wl_v (x_lss (tmI rfl rfl) (tmI rfl rfl)) ?_
       refine wl_nil ?_
       refine then_n (hK54 _ _ ?_); clear hK54 K54
       refine wp_seq_k ?_; intro K55 hK55
       refine cnd (tm rfl) (fun hc1 => ?_) (fun hc1 => ?_)
       · try (exfalso; first | with_reducible exact absurd hc1 Bool.false_ne_true | with_reducible exact absurd hc1.symm Bool.false_ne_true | (simp only [nrm] at hc1; omega) | (simp at hc1; done))
         all_goals
          try simp only [nrm] at hc1
          refine wp_skip ?_
          refine then_n (hK55 _ _ ?_); clear hK55 K55
          refine wp_seq_k ?_; intro K56 hK56
          refine wp_block ?_
          refine wp_seq_k ?_; intro K57 hK57
          refine wlit ?_
          refine wl_v (x_move (tmI rfl rfl)) ?_
          refine wl_v (x_assign (tmI rfl rfl)) ?_
          refine wl_nil ?_
          refine then_n (hK57 _ _ ?_); clear hK57 K57
          refine wp_seq_k ?_; intro K58 hK58
          refine wlit ?_
          have hdk := hd k (by omega); have huk := hu k (by omega); have htk := ht k (by omega); have hw255 := wrap255 (q k) hdk.1
          refine wl_v (x_move (tmG rfl rfl)) ?_
          refine wl_v (x_move (tmI rfl rfl)) ?_
          refine wl_v (x_ixG Tryd.underlying9 (tmG rfl rfl) (tmI rfl rfl) (hd k (by omega)).2) ?_
          refine wl_v (x_move (tmI rfl rfl)) ?_
          refine wl_e rfl ?_; intro K hK
          refine ow_call Tryd.func42 rfl rfl (evs_cons (tmI rfl rfl) <| evs_cons (tmI rfl rfl) <| evs_nil) ((huk ▸ digit_c (q k) _ hdk.1)) ?_
          rintro e w ⟨rfl, hk2⟩
          refine ⟨_, rfl, ?_⟩
          replace hS := hS.kept hk2
          refine hK _ _ ?_; clear hK K
          refine wl_v (x_assign (tmI rfl rfl)) ?_
          refine wl_nil ?_
          refine then_n (hK58 _ _ ?_); clear hK58 K58
          refine wp_seq_k ?_; intro K59 hK59
          refine wp_seq_k ?_; intro K60 hK60
          refine wlit ?_
          refine wl_v (x_move (tmI rfl rfl)) ?_
          refine wl_v (x_move (tmI rfl rfl)) ?_
          refine wl_v (x_eql (tmI rfl rfl) (tmI rfl rfl)) ?_
          refine wl_v (x_move (tmB rfl rfl)) ?_
          refine gs_wl (tm (t := 44) rfl) (fun hg8_3 => ?_) (fun hg8_3 => ?_)
          · have hg8_3' := hg8_3; (try simp only [nrm] at hg8_3'); try (exfalso; first | with_reducible exact absurd hg8_3 Bool.false_ne_true | with_reducible exact absurd hg8_3.symm Bool.false_ne_true | omega | (simp at hg8_3; done))
            all_goals
             refine wl_s rfl (want_n rfl rfl rfl rfl (by rw [hg8_3]; rfl)) ?_
             refine wl_s rfl (want_n rfl rfl rfl rfl (by rw [hg8_3]; rfl)) ?_
             refine wl_s rfl (want_n rfl rfl rfl rfl (by rw [hg8_3]; rfl)) ?_
             refine wl_v (x_pickT (tmB rfl rfl) hg8_3 ev_c) ?_
             refine wl_v (x_move (tmB rfl rfl)) ?_
             refine wl_s rfl (want_n rfl rfl rfl rfl rfl) ?_
             refine wl_s rfl (want_n rfl rfl rfl rfl rfl) ?_
             refine wl_s rfl (want_n rfl rfl rfl rfl rfl) ?_
             refine wl_s rfl (want_n rfl rfl rfl rfl rfl) ?_
             refine wl_s rfl (want_n rfl rfl rfl rfl rfl) ?_
             refine wl_s rfl (want_n rfl rfl rfl rfl rfl) ?_
             refine wl_s rfl (want_n rfl rfl rfl rfl rfl) ?_
             refine wl_v (x_pickT (tmB rfl rfl) rfl ev_c) ?_
             refine wl_nil ?_
             refine then_n (hK60 _ _ ?_); clear hK60 K60
             refine cnd_t (tmB rfl rfl) rfl ?_
             refine wp_seq_k ?_; intro K61 hK61
             refine wlit ?_
             refine wl_v (x_assign (ev_cN 0)) ?_
             refine wl_v (x_assign ev_c) ?_
             refine wl_nil ?_
             refine then_n (hK61 _ _ ?_); clear hK61 K61
             refine wp_ret ?_
             refine then_r ?_
             refine inb_r ?_
             refine then_r ?_
             refine then_r ?_
             refine inb_r ?_
             refine then_r ?_
             refine ret2 rfl (.tmp rfl (show _ = Value.int _ _ from rfl)) (.tmp rfl (show _ = Value.bool _ from rfl)) ?_
             first
               | (have hkn : k = n := by omega
                  subst hkn
                  exact ⟨rfl, hS.kp⟩)
               | (exfalso; rcases hz with h | h <;> simp at * <;> omega)
               | (exfalso; simp at *; omega)
          have hg8_3' := hg8_3; (try simp only [nrm] at hg8_3'); try (exfalso; first | with_reducible exact absurd hg8_3 Bool.false_ne_true | with_reducible exact absurd hg8_3.symm Bool.false_ne_true | omega | (simp at hg8_3; done))
          all_goals
           refine wl_gv (want_y rfl rfl rfl rfl (by rw [hg8_3]; rfl)) (x_move (tmI rfl rfl)) ?_
           refine wl_gv (want_y rfl rfl rfl rfl (by rw [hg8_3]; rfl)) (x_move (tmI rfl rfl)) ?_
           refine wl_gv (want_y rfl rfl rfl rfl (by rw [hg8_3]; rfl)) (x_gtr (tmI rfl rfl) (tmI rfl rfl)) ?_
           refine wl_v (x_pickF (tmB rfl rfl) hg8_3 (tmB rfl rfl)) ?_
           refine wl_v (x_move (tmB rfl rfl)) ?_
           refine gs_wl (tm (t := 49) rfl) (fun hg8_8 => ?_) (fun hg8_8 => ?_)
           · have hg8_8' := hg8_8; (try simp only [nrm] at hg8_8'); try (exfalso; first | with_reducible exact absurd hg8_8 Bool.false_ne_true | with_reducible exact absurd hg8_8.symm Bool.false_ne_true | omega | (simp at hg8_8; done))
             all_goals
              refine wl_s rfl (want_n rfl rfl rfl rfl (by rw [hg8_8]; rfl)) ?_
              refine wl_s rfl (want_n rfl rfl rfl rfl (by rw [hg8_8]; rfl)) ?_
              refine wl_s rfl (want_n rfl rfl rfl rfl (by rw [hg8_8]; rfl)) ?_
              refine wl_s rfl (want_n rfl rfl rfl rfl (by rw [hg8_8]; rfl)) ?_
              refine wl_s rfl (want_n rfl rfl rfl rfl (by rw [hg8_8]; rfl)) ?_
              refine wl_s rfl (want_n rfl rfl rfl rfl (by rw [hg8_8]; rfl)) ?_
              refine wl_s rfl (want_n rfl rfl rfl rfl (by rw [hg8_8]; rfl)) ?_
              refine wl_v (x_pickT (tmB rfl rfl) hg8_8 ev_c) ?_
              refine wl_nil ?_
              refine then_n (hK60 _ _ ?_); clear hK60 K60
              refine cnd_t (tmB rfl rfl) rfl ?_
              refine wp_seq_k ?_; intro K62 hK62
              refine wlit ?_
              refine wl_v (x_assign (ev_cN 0)) ?_
              refine wl_v (x_assign ev_c) ?_
              refine wl_nil ?_
              refine then_n (hK62 _ _ ?_); clear hK62 K62
              refine wp_ret ?_
              refine then_r ?_
              refine inb_r ?_
              refine then_r ?_
              refine then_r ?_
              refine inb_r ?_
              refine then_r ?_
              refine ret2 rfl (.tmp rfl (show _ = Value.int _ _ from rfl)) (.tmp rfl (show _ = Value.bool _ from rfl)) ?_
              first
                | (have hkn : k = n := by omega
                   subst hkn
                   exact ⟨rfl, hS.kp⟩)
                | (exfalso; rcases hz with h | h <;> simp at * <;> omega)
                | (exfalso; simp at *; omega)
           have hg8_8' := hg8_8; (try simp only [nrm] at hg8_8'); try (exfalso; first | with_reducible exact absurd hg8_8 Bool.false_ne_true | with_reducible exact absurd hg8_8.symm Bool.false_ne_true | omega | (simp at hg8_8; done))
           all_goals
            refine wl_gv (want_y rfl rfl rfl rfl (by rw [hg8_8]; rfl)) (x_move (tmI rfl rfl)) ?_
            refine wl_gv (want_y rfl rfl rfl rfl (by rw [hg8_8]; rfl)) (x_move (tmI rfl rfl)) ?_
            refine wl_gv (want_y rfl rfl rfl rfl (by rw [hg8_8]; rfl)) (x_move (tmI rfl rfl)) ?_
            first
             | refine wl_gv (want_y rfl rfl rfl rfl (by rw [hg8_8]; rfl)) (x_subN (tmI rfl rfl) (tmI rfl rfl) (fit_i64 (by omega)) (by omega)) ?_
             | refine wl_gv (want_y rfl rfl rfl rfl (by rw [hg8_8]; rfl)) (x_subI (tmI rfl rfl) (tmI rfl rfl) (IntWalk.i64_in _ (by omega))) ?_
             | refine wl_gv (want_y rfl rfl rfl rfl (by rw [hg8_8]; rfl)) (x_sub (tmI rfl rfl) (tmI rfl rfl)) ?_
            refine wl_gv (want_y rfl rfl rfl rfl (by rw [hg8_8]; rfl)) (x_move (tmI rfl rfl)) ?_
            first
             | refine wl_gv (want_y rfl rfl rfl rfl (by rw [hg8_8]; rfl)) (x_quoN (tmI rfl rfl) (tmI rfl rfl) (by omega) (fit_i64 (by omega))) ?_
             | refine wl_gv (want_y rfl rfl rfl rfl (by rw [hg8_8]; rfl)) (x_quo (tmI rfl rfl) (tmI rfl rfl) (by omega)) ?_
            refine wl_gv (want_y rfl rfl rfl rfl (by rw [hg8_8]; rfl)) (x_gtr (tmI rfl rfl) (tmI rfl rfl)) ?_
            refine wl_v (x_pickF (tmB rfl rfl) hg8_8 (tmB rfl rfl)) ?_
            refine wl_nil ?_
            refine then_n (hK60 _ _ ?_); clear hK60 K60
            refine cnd (tm rfl) (fun hc2 => ?_) (fun hc2 => ?_)
            · try (exfalso; first | with_reducible exact absurd hc2 Bool.false_ne_true | with_reducible exact absurd hc2.symm Bool.false_ne_true | (simp only [nrm] at hc2; omega) | (simp at hc2; done))
              all_goals
               try simp only [nrm] at hc2
               refine wp_seq_k ?_; intro K63 hK63
               refine wlit ?_
               refine wl_v (x_assign (ev_cN 0)) ?_
               refine wl_v (x_assign ev_c) ?_
               refine wl_nil ?_
               refine then_n (hK63 _ _ ?_); clear hK63 K63
               refine wp_ret ?_
               refine then_r ?_
               refine inb_r ?_
               refine then_r ?_
               refine then_r ?_
               refine inb_r ?_
               refine then_r ?_
               refine ret2 rfl (.tmp rfl (show _ = Value.int _ _ from rfl)) (.tmp rfl (show _ = Value.bool _ from rfl)) ?_
               first
                 | (have hkn : k = n := by omega
                    subst hkn
                    exact ⟨rfl, hS.kp⟩)
                 | (exfalso; rcases hz with h | h <;> simp at * <;> omega)
                 | (exfalso; simp at *; omega)
            try (exfalso; first | with_reducible exact absurd hc2 Bool.false_ne_true | with_reducible exact absurd hc2.symm Bool.false_ne_true | (simp only [nrm] at hc2; omega) | (simp at hc2; done))
            all_goals
             try simp only [nrm] at hc2
             refine wp_skip ?_
             refine then_n (hK59 _ _ ?_); clear hK59 K59
             refine wlit ?_
             refine wl_v (x_move (tmI rfl rfl)) ?_
             refine wl_v (x_move (tmI rfl rfl)) ?_
             first
              | refine wl_v (x_mulN (tmI rfl rfl) (tmI rfl rfl) (fit_i64 (by omega))) ?_
              | refine wl_v (x_mulI (tmI rfl rfl) (tmI rfl rfl) (IntWalk.i64_in _ (by omega))) ?_
              | refine wl_v (x_mul (tmI rfl rfl) (tmI rfl rfl)) ?_
             refine wl_v (x_move (tmI rfl rfl)) ?_
             first
              | refine wl_v (x_addN (tmI rfl rfl) (tmI rfl rfl) (fit_i64 (by omega))) ?_
              | refine wl_v (x_addI (tmI rfl rfl) (tmI rfl rfl) (IntWalk.i64_in _ (by omega))) ?_
              | refine wl_v (x_add (tmI rfl rfl) (tmI rfl rfl)) ?_
             refine wl_v (x_assign (tmI rfl rfl)) ?_
             refine wl_nil ?_
             refine inb_n ?_
             refine then_n (hK56 _ _ ?_); clear hK56 K56
             refine wlit ?_
             first
              | refine wl_v (x_addN (tmI rfl rfl) (ev_cN 1) (fit_i64 (by omega))) ?_
              | refine wl_v (x_addI (tmI rfl rfl) (ev_cN 1) (IntWalk.i64_in _ (by omega))) ?_
              | refine wl_v (x_add (tmI rfl rfl) (ev_cN 1)) ?_
             refine wl_v (x_move (tmI rfl rfl)) ?_
             refine wl_nil ?_
             exact then_n ⟨_, _, rfl, (by show _ < _; omega), (by repeat (first | exact agree_self | exact agree_refl | refine agree_upd rfl ?_ | refine agree_mix rfl ?_)), k + 1, rfl, (by first | rfl | go_num | exact congrArg (Value.int _) (by first | omega | (simp; done) | (simp; omega))), (by first | rfl | go_num | exact congrArg (Value.int _) (by first | omega | (simp; done) | (simp; omega))), hS, (by omega)⟩
       try (exfalso; first | with_reducible exact absurd hc1 Bool.false_ne_true | with_reducible exact absurd hc1.symm Bool.false_ne_true | (simp only [nrm] at hc1; omega) | (simp at hc1; done))
       all_goals
        try simp only [nrm] at hc1
        refine wp_exit ?_
        refine then_x ?_; clear hK55 K55
        refine then_x ?_
        refine inb_x ?_
        refine then_n (hK52 _ _ ?_); clear hK52 K52
        refine wp_seq_k ?_; intro K64 hK64
        refine wlit ?_
        refine wl_v (x_move (tmI rfl rfl)) ?_
        refine wl_v (x_assign (tmI rfl rfl)) ?_
        refine wl_v (x_assign ev_c) ?_
        refine wl_nil ?_
        refine then_n (hK64 _ _ ?_); clear hK64 K64
        refine wp_ret ?_
        refine ret2 rfl (.tmp rfl (show _ = Value.int _ _ from rfl)) (.tmp rfl (show _ = Value.bool _ from rfl)) ?_
        first
          | (have hkn : k = n := by omega
             subst hkn
             exact ⟨rfl, hS.kp⟩)
          | (exfalso; rcases hz with h | h <;> simp at * <;> omega)
          | (exfalso; simp at *; omega)
set_option maxRecDepth 100000 in
set_option maxHeartbeats 4000000 in
theorem number_no (w0 : World) :
    Calls Tryd.prog 33 #[.string ⟨#[48, 49]⟩, .int .i64 10, .int .i64 255] w0 fun e w' => e = .returned (.tuple #[.int .i64 0, .bool false]) ∧ Kp [] w0 w' := by
  have hS := St.sv w0
  have hs0 : ((⟨#[48, 49]⟩ : ByteArray).toList == (⟨#[]⟩ : ByteArray).toList) = false := str_ne [48, 49] (by unfold Bytes; simp) (by simp)
  refine ent (n := 65) Tryd.func33 rfl rfl ?_
  refine wp_seq_k ?_; intro K1 hK1
  refine wlit ?_
  refine wl_v (x_assign (ev_cN 0)) ?_
  refine wl_v (x_assign ev_c) ?_
  refine wl_nil ?_
  refine then_n (hK1 _ _ ?_); clear hK1 K1
  refine wp_seq_k ?_; intro K2 hK2
  refine wp_seq_k ?_; intro K3 hK3
  refine wlit ?_
  refine wl_v (x_move (tmI rfl rfl)) ?_
  refine wl_v (x_neq (tmI rfl rfl) (ev_cN 10)) ?_
  refine wl_v (x_move (tmB rfl rfl)) ?_
  refine gs_wl (tm (t := 13) rfl) (fun hg1_2 => ?_) (fun hg1_2 => ?_)
  · have hg1_2' := hg1_2; (try simp only [nrm] at hg1_2'); try (exfalso; first | with_reducible exact absurd hg1_2 Bool.false_ne_true | with_reducible exact absurd hg1_2.symm Bool.false_ne_true | omega | (simp at hg1_2; done))
    all_goals
     refine wl_gv (want_y rfl rfl rfl rfl (by rw [hg1_2]; rfl)) (x_move (tmI rfl rfl)) ?_
     refine wl_gv (want_y rfl rfl rfl rfl (by rw [hg1_2]; rfl)) (x_neq (tmI rfl rfl) (ev_cN 16)) ?_
     refine wl_v (x_pickT (tmB rfl rfl) hg1_2 (tmB rfl rfl)) ?_
     refine wl_v (x_move (tmB rfl rfl)) ?_
     refine gs_wl (tm (t := 17) rfl) (fun hg1_6 => ?_) (fun hg1_6 => ?_)
     · have hg1_6' := hg1_6; (try simp only [nrm] at hg1_6'); try (exfalso; first | with_reducible exact absurd hg1_6 Bool.false_ne_true | with_reducible exact absurd hg1_6.symm Bool.false_ne_true | omega | (simp at hg1_6; done))
       all_goals
        refine wl_s rfl (want_n rfl rfl rfl rfl (by rw [hg1_6]; rfl)) ?_
        refine wl_s rfl (want_n rfl rfl rfl rfl (by rw [hg1_6]; rfl)) ?_
        refine wl_v (x_pickT (tmB rfl rfl) hg1_6 ev_c) ?_
        refine wl_v (x_move (tmB rfl rfl)) ?_
        refine wl_s rfl (want_n rfl rfl rfl rfl rfl) ?_
        refine wl_s rfl (want_n rfl rfl rfl rfl rfl) ?_
        refine wl_s rfl (want_n rfl rfl rfl rfl rfl) ?_
        refine wl_s rfl (want_n rfl rfl rfl rfl rfl) ?_
        refine wl_s rfl (want_u rfl rfl rfl rfl) ?_
        refine wl_s rfl (want_u rfl rfl rfl rfl) ?_
        refine wl_s rfl (want_u rfl rfl rfl rfl) ?_
        refine wl_s rfl (want_n rfl rfl rfl rfl rfl) ?_
        refine wl_v (x_pickT (tmB rfl rfl) rfl ev_c) ?_
        refine wl_nil ?_
        refine then_n (hK3 _ _ ?_); clear hK3 K3
        refine cnd_t (tmB rfl rfl) rfl ?_
        refine wp_seq_k ?_; intro K4 hK4
        refine wlit ?_
        refine wl_v (x_assign (ev_cN 0)) ?_
        refine wl_v (x_assign ev_c) ?_
        refine wl_nil ?_
        refine then_n (hK4 _ _ ?_); clear hK4 K4
        refine wp_ret ?_
        refine then_r ?_
        refine ret2 rfl (.tmp rfl (show _ = Value.int _ _ from rfl)) (.tmp rfl (show _ = Value.bool _ from rfl)) ?_
        exact ⟨rfl, hS.kp⟩
     have hg1_6' := hg1_6; (try simp only [nrm] at hg1_6'); try (exfalso; first | with_reducible exact absurd hg1_6 Bool.false_ne_true | with_reducible exact absurd hg1_6.symm Bool.false_ne_true | omega | (simp at hg1_6; done))
     all_goals
      refine wl_gv (want_y rfl rfl rfl rfl (by rw [hg1_6]; rfl)) (x_move (tmG rfl rfl)) ?_
      refine wl_gv (want_y rfl rfl rfl rfl (by rw [hg1_6]; rfl)) (x_eqv (res := false) (.inl rfl) (tmG rfl rfl) ev_c (fun _ => rfl) (fun w => by rw [run_Geql, hs0])) ?_
      refine wl_v (x_pickF (tmB rfl rfl) hg1_6 (tmB rfl rfl)) ?_
      refine wl_v (x_move (tmB rfl rfl)) ?_
      refine gs_wl (tm (t := 21) rfl) (fun hg1_10 => ?_) (fun hg1_10 => ?_)
      · have hg1_10' := hg1_10; (try simp only [nrm] at hg1_10'); try (exfalso; first | with_reducible exact absurd hg1_10 Bool.false_ne_true | with_reducible exact absurd hg1_10.symm Bool.false_ne_true | omega | (simp at hg1_10; done))
        all_goals
         refine wl_s rfl (want_n rfl rfl rfl rfl (by rw [hg1_10]; rfl)) ?_
         refine wl_s rfl (want_n rfl rfl rfl rfl (by rw [hg1_10]; rfl)) ?_
         refine wl_s rfl (want_n rfl rfl rfl rfl (by rw [hg1_10]; rfl)) ?_
         refine wl_s rfl (want_n rfl rfl rfl rfl (by rw [hg1_10]; rfl)) ?_
         refine wl_s rfl (want_u rfl rfl rfl rfl) ?_
         refine wl_s rfl (want_u rfl rfl rfl rfl) ?_
         refine wl_s rfl (want_u rfl rfl rfl rfl) ?_
         refine wl_s rfl (want_n rfl rfl rfl rfl (by rw [hg1_10]; rfl)) ?_
         refine wl_v (x_pickT (tmB rfl rfl) hg1_10 ev_c) ?_
         refine wl_nil ?_
         refine then_n (hK3 _ _ ?_); clear hK3 K3
         refine cnd_t (tmB rfl rfl) rfl ?_
         refine wp_seq_k ?_; intro K5 hK5
         refine wlit ?_
         refine wl_v (x_assign (ev_cN 0)) ?_
         refine wl_v (x_assign ev_c) ?_
         refine wl_nil ?_
         refine then_n (hK5 _ _ ?_); clear hK5 K5
         refine wp_ret ?_
         refine then_r ?_
         refine ret2 rfl (.tmp rfl (show _ = Value.int _ _ from rfl)) (.tmp rfl (show _ = Value.bool _ from rfl)) ?_
         exact ⟨rfl, hS.kp⟩
      have hg1_10' := hg1_10; (try simp only [nrm] at hg1_10'); try (exfalso; first | with_reducible exact absurd hg1_10 Bool.false_ne_true | with_reducible exact absurd hg1_10.symm Bool.false_ne_true | omega | (simp at hg1_10; done))
      all_goals
       refine wl_gv (want_y rfl rfl rfl rfl (by rw [hg1_10]; rfl)) (x_move (tmG rfl rfl)) ?_
       refine wl_gv (want_y rfl rfl rfl rfl (by rw [hg1_10]; rfl)) (x_lenS Tryd.underlying9 (tmG rfl rfl)) ?_
       refine wl_gv (want_y rfl rfl rfl rfl (by rw [hg1_10]; rfl)) (x_gtr (tmI rfl rfl) (ev_cN 1)) ?_
       refine wl_gv (want_y rfl rfl rfl rfl (by rw [hg1_10]; rfl)) (x_move (tmB rfl rfl)) ?_
       refine gs_wls (tm (t := 25) rfl) (fun hg1_14 => ?_) (fun hg1_14 => ?_)
       · exfalso
         exact absurd hg1_14 (by decide)
       have hg1_14' := hg1_14; (try simp only [nrm] at hg1_14'); try (exfalso; first | with_reducible exact absurd hg1_14 Bool.false_ne_true | with_reducible exact absurd hg1_14.symm Bool.false_ne_true | omega | (simp at hg1_14; done))
       all_goals
        refine wl_gv (want_y rfl rfl rfl rfl (by rw [hg1_14]; rfl)) (x_move (tmG rfl rfl)) ?_
        refine wl_gv (want_y rfl rfl rfl rfl (by rw [hg1_14]; rfl)) (x_ixG (j := 0) (u := 48) Tryd.underlying9 (tmG rfl rfl) (ev_cN 0) rfl) ?_
        refine wl_gv (want_y rfl rfl rfl rfl (by rw [hg1_14]; rfl)) (x_eql (tmI rfl rfl) (ev_cN 48)) ?_
        refine wl_gv (want_y rfl rfl rfl rfl (by rw [hg1_10]; rfl)) (x_pickT (tmB rfl rfl) hg1_14 (tmB rfl rfl)) ?_
        refine wl_v (x_pickF (tmB rfl rfl) hg1_10 (tmB rfl rfl)) ?_
        refine wl_nil ?_
        refine then_n (hK3 _ _ ?_); clear hK3 K3
        refine cnd (tm rfl) (fun hc0 => ?_) (fun hc0 => ?_)
        · try (exfalso; first | with_reducible exact absurd hc0 Bool.false_ne_true | with_reducible exact absurd hc0.symm Bool.false_ne_true | (simp only [nrm] at hc0; omega) | (simp at hc0; done))
          all_goals
           try simp only [nrm] at hc0
           refine wp_seq_k ?_; intro K6 hK6
           refine wlit ?_
           refine wl_v (x_assign (ev_cN 0)) ?_
           refine wl_v (x_assign ev_c) ?_
           refine wl_nil ?_
           refine then_n (hK6 _ _ ?_); clear hK6 K6
           refine wp_ret ?_
           refine then_r ?_
           refine ret2 rfl (.tmp rfl (show _ = Value.int _ _ from rfl)) (.tmp rfl (show _ = Value.bool _ from rfl)) ?_
           exact ⟨rfl, hS.kp⟩
        try (exfalso; first | with_reducible exact absurd hc0 Bool.false_ne_true | with_reducible exact absurd hc0.symm Bool.false_ne_true | (simp only [nrm] at hc0; omega) | (simp at hc0; done))
        all_goals
         try simp only [nrm] at hc0
         refine wp_skip ?_
         refine then_n (hK2 _ _ ?_); clear hK2 K2
         refine wp_seq_k ?_; intro K7 hK7
         refine wlit ?_
         refine wl_v (x_assign (ev_cN 0)) ?_
         refine wl_nil ?_
         refine then_n (hK7 _ _ ?_); clear hK7 K7
         refine wp_seq_k ?_; intro K8 hK8
         refine wp_seq_k ?_; intro K9 hK9
         refine wlit ?_
         refine wl_v (x_move (tmG rfl rfl)) ?_
         refine wl_v (x_lenS Tryd.underlying9 (tmG rfl rfl)) ?_
         refine wl_v (x_move (ev_cN 0)) ?_
         refine wl_nil ?_
         refine then_n (hK9 _ _ ?_); clear hK9 K9
         refine wp_block ?_
         fail "no invariant for loop 0 (writes [6, 7, 8, 9, 10, 33, 34, 35, 36, 37, 38, 39, 40, 41, 42, 43, 44, 45, 46, 47, 48, 49, 50, 51, 52, 53, 54, 55, 56, 57, 58, 59, 60, 61, 62, 63])"
  have hg1_2' := hg1_2; (try simp only [nrm] at hg1_2'); try (exfalso; first | with_reducible exact absurd hg1_2 Bool.false_ne_true | with_reducible exact absurd hg1_2.symm Bool.false_ne_true | omega | (simp at hg1_2; done))
  all_goals
   refine wl_s rfl (want_n rfl rfl rfl rfl (by rw [hg1_2]; rfl)) ?_
   refine wl_s rfl (want_n rfl rfl rfl rfl (by rw [hg1_2]; rfl)) ?_
   refine wl_v (x_pickF (tmB rfl rfl) hg1_2 ev_c) ?_
   refine wl_v (x_move (tmB rfl rfl)) ?_
   refine wl_gv (want_y rfl rfl rfl rfl rfl) (x_move (tmG rfl rfl)) ?_
   refine wl_gv (want_y rfl rfl rfl rfl rfl) (x_eqv (res := false) (.inl rfl) (tmG rfl rfl) ev_c (fun _ => rfl) (fun w => by rw [run_Geql, hs0])) ?_
   refine wl_v (x_pickF (tmB rfl rfl) rfl (tmB rfl rfl)) ?_
   refine wl_v (x_move (tmB rfl rfl)) ?_
   refine gs_wl (tm (t := 21) rfl) (fun hg1_10 => ?_) (fun hg1_10 => ?_)
   · have hg1_10' := hg1_10; (try simp only [nrm] at hg1_10'); try (exfalso; first | with_reducible exact absurd hg1_10 Bool.false_ne_true | with_reducible exact absurd hg1_10.symm Bool.false_ne_true | omega | (simp at hg1_10; done))
     all_goals
      refine wl_s rfl (want_n rfl rfl rfl rfl (by rw [hg1_10]; rfl)) ?_
      refine wl_s rfl (want_n rfl rfl rfl rfl (by rw [hg1_10]; rfl)) ?_
      refine wl_s rfl (want_n rfl rfl rfl rfl (by rw [hg1_10]; rfl)) ?_
      refine wl_s rfl (want_n rfl rfl rfl rfl (by rw [hg1_10]; rfl)) ?_
      refine wl_s rfl (want_u rfl rfl rfl rfl) ?_
      refine wl_s rfl (want_u rfl rfl rfl rfl) ?_
      refine wl_s rfl (want_u rfl rfl rfl rfl) ?_
      refine wl_s rfl (want_n rfl rfl rfl rfl (by rw [hg1_10]; rfl)) ?_
      refine wl_v (x_pickT (tmB rfl rfl) hg1_10 ev_c) ?_
      refine wl_nil ?_
      refine then_n (hK3 _ _ ?_); clear hK3 K3
      refine cnd_t (tmB rfl rfl) rfl ?_
      refine wp_seq_k ?_; intro K10 hK10
      refine wlit ?_
      refine wl_v (x_assign (ev_cN 0)) ?_
      refine wl_v (x_assign ev_c) ?_
      refine wl_nil ?_
      refine then_n (hK10 _ _ ?_); clear hK10 K10
      refine wp_ret ?_
      refine then_r ?_
      refine ret2 rfl (.tmp rfl (show _ = Value.int _ _ from rfl)) (.tmp rfl (show _ = Value.bool _ from rfl)) ?_
      exact ⟨rfl, hS.kp⟩
   have hg1_10' := hg1_10; (try simp only [nrm] at hg1_10'); try (exfalso; first | with_reducible exact absurd hg1_10 Bool.false_ne_true | with_reducible exact absurd hg1_10.symm Bool.false_ne_true | omega | (simp at hg1_10; done))
   all_goals
    refine wl_gv (want_y rfl rfl rfl rfl (by rw [hg1_10]; rfl)) (x_move (tmG rfl rfl)) ?_
    refine wl_gv (want_y rfl rfl rfl rfl (by rw [hg1_10]; rfl)) (x_lenS Tryd.underlying9 (tmG rfl rfl)) ?_
    refine wl_gv (want_y rfl rfl rfl rfl (by rw [hg1_10]; rfl)) (x_gtr (tmI rfl rfl) (ev_cN 1)) ?_
    refine wl_gv (want_y rfl rfl rfl rfl (by rw [hg1_10]; rfl)) (x_move (tmB rfl rfl)) ?_
    refine gs_wls (tm (t := 25) rfl) (fun hg1_14 => ?_) (fun hg1_14 => ?_)
    · exfalso
      exact absurd hg1_14 (by decide)
    have hg1_14' := hg1_14; (try simp only [nrm] at hg1_14'); try (exfalso; first | with_reducible exact absurd hg1_14 Bool.false_ne_true | with_reducible exact absurd hg1_14.symm Bool.false_ne_true | omega | (simp at hg1_14; done))
    all_goals
     refine wl_gv (want_y rfl rfl rfl rfl (by rw [hg1_14]; rfl)) (x_move (tmG rfl rfl)) ?_
     refine wl_gv (want_y rfl rfl rfl rfl (by rw [hg1_14]; rfl)) (x_ixG (j := 0) (u := 48) Tryd.underlying9 (tmG rfl rfl) (ev_cN 0) rfl) ?_
     refine wl_gv (want_y rfl rfl rfl rfl (by rw [hg1_14]; rfl)) (x_eql (tmI rfl rfl) (ev_cN 48)) ?_
     refine wl_gv (want_y rfl rfl rfl rfl (by rw [hg1_10]; rfl)) (x_pickT (tmB rfl rfl) hg1_14 (tmB rfl rfl)) ?_
     refine wl_v (x_pickF (tmB rfl rfl) hg1_10 (tmB rfl rfl)) ?_
     refine wl_nil ?_
     refine then_n (hK3 _ _ ?_); clear hK3 K3
     refine cnd (tm rfl) (fun hc0 => ?_) (fun hc0 => ?_)
     · try (exfalso; first | with_reducible exact absurd hc0 Bool.false_ne_true | with_reducible exact absurd hc0.symm Bool.false_ne_true | (simp only [nrm] at hc0; omega) | (simp at hc0; done))
       all_goals
        try simp only [nrm] at hc0
        refine wp_seq_k ?_; intro K11 hK11
        refine wlit ?_
        refine wl_v (x_assign (ev_cN 0)) ?_
        refine wl_v (x_assign ev_c) ?_
        refine wl_nil ?_
        refine then_n (hK11 _ _ ?_); clear hK11 K11
        refine wp_ret ?_
        refine then_r ?_
        refine ret2 rfl (.tmp rfl (show _ = Value.int _ _ from rfl)) (.tmp rfl (show _ = Value.bool _ from rfl)) ?_
        exact ⟨rfl, hS.kp⟩
     try (exfalso; first | with_reducible exact absurd hc0 Bool.false_ne_true | with_reducible exact absurd hc0.symm Bool.false_ne_true | (simp only [nrm] at hc0; omega) | (simp at hc0; done))
     all_goals
      try simp only [nrm] at hc0
      refine wp_skip ?_
      refine then_n (hK2 _ _ ?_); clear hK2 K2
      refine wp_seq_k ?_; intro K12 hK12
      refine wlit ?_
      refine wl_v (x_assign (ev_cN 0)) ?_
      refine wl_nil ?_
      refine then_n (hK12 _ _ ?_); clear hK12 K12
      refine wp_seq_k ?_; intro K13 hK13
      refine wp_seq_k ?_; intro K14 hK14
      refine wlit ?_
      refine wl_v (x_move (tmG rfl rfl)) ?_
      refine wl_v (x_lenS Tryd.underlying9 (tmG rfl rfl)) ?_
      refine wl_v (x_move (ev_cN 0)) ?_
      refine wl_nil ?_
      refine then_n (hK14 _ _ ?_); clear hK14 K14
      refine wp_block ?_
      fail "no invariant for loop 0 (writes [6, 7, 8, 9, 10, 33, 34, 35, 36, 37, 38, 39, 40, 41, 42, 43, 44, 45, 46, 47, 48, 49, 50, 51, 52, 53, 54, 55, 56, 57, 58, 59, 60, 61, 62, 63])"
set_option maxRecDepth 100000 in
set_option maxHeartbeats 4000000 in
theorem ad_v4_c (w0 : World) :
    Calls Tryd.prog 16 #[.int .u8 10, .int .u8 0, .int .u8 0, .int .u8 1] w0 fun e w' => e = .returned (.agg (Ad.V ⟨false, 0, 167772161⟩).toArray) ∧ Kp [] w0 w' := by
  have hS := St.sv w0
  refine ent (n := 24) Tryd.func16 rfl rfl ?_
  refine wp_seq_k ?_; intro K1 hK1
  refine wlit ?_
  refine wl_e rfl ?_; intro K hK
  refine ow_alloc hS tz_24 rfl ?_
  clear hS; intro g0_0 w hg0_0 hS
  refine hK _ _ ?_; clear hK K
  refine wl_nil ?_
  refine then_n (hK1 _ _ ?_); clear hK1 K1
  refine wp_seq_k ?_; intro K2 hK2
  refine wlit ?_
  refine wl_v (x_move (tmI rfl rfl)) ?_
  refine wl_v (x_convN (m := 10) Tryd.underlying5 Tryd.underlying22 (tmI rfl rfl) (fit_u64 (by decide))) ?_
  refine wl_v (x_shlN (m := 10) (tmI rfl rfl) (ev_cN 24) (by decide) (fit_u64 (by decide))) ?_
  refine wl_v (x_move (tmI rfl rfl)) ?_
  refine wl_v (x_convN (m := 0) Tryd.underlying5 Tryd.underlying22 (tmI rfl rfl) (fit_u64 (by decide))) ?_
  refine wl_v (x_shlN (m := 0) (tmI rfl rfl) (ev_cN 16) (by decide) (fit_u64 (by decide))) ?_
  refine wl_v (x_orN (m := 10 * 2 ^ 24) (n := 0 * 2 ^ 16) (tmI rfl rfl) (tmI rfl rfl) (fit_u64 (by decide)) (fit_u64 (by decide))) ?_
  refine wl_v (x_move (tmI rfl rfl)) ?_
  refine wl_v (x_convN (m := 0) Tryd.underlying5 Tryd.underlying22 (tmI rfl rfl) (fit_u64 (by decide))) ?_
  refine wl_v (x_shlN (m := 0) (tmI rfl rfl) (ev_cN 8) (by decide) (fit_u64 (by decide))) ?_
  refine wl_v (x_orN (m := 10 * 2 ^ 24 ||| 0 * 2 ^ 16) (n := 0 * 2 ^ 8) (tmI rfl rfl) (tmI rfl rfl) (fit_u64 (by decide)) (fit_u64 (by decide))) ?_
  refine wl_v (x_move (tmI rfl rfl)) ?_
  refine wl_v (x_convN (m := 1) Tryd.underlying5 Tryd.underlying22 (tmI rfl rfl) (fit_u64 (by decide))) ?_
  refine wl_v (x_orN (m := (10 * 2 ^ 24 ||| 0 * 2 ^ 16) ||| 0 * 2 ^ 8) (n := 1) (tmI rfl rfl) (tmI rfl rfl) (fit_u64 (by decide)) (fit_u64 (by decide))) ?_
  refine wl_v (x_build (bc_skip (.bool false) <| bc_skip (.int .u64 0) <| bc_take (tmI rfl rfl) <| bc_nil) (by kernel_rfl)) ?_
  refine wl_e rfl ?_; intro K hK
  refine ow_storeA hS 0 rfl ts_24 (tmP rfl rfl) (tmA rfl rfl) rfl rfl rfl ?_
  clear hS; intro w hS
  try replace hS := St.nm (M' := [.blk _ _ [_, _, _], _]) hS rfl
  refine hK _ _ ?_; clear hK K
  refine wl_nil ?_
  refine then_n (hK2 _ _ ?_); clear hK2 K2
  refine wp_ret ?_
  refine ret1 rfl (.cell rfl rfl (load_rowB (cs := [_, _, _]) hS.ok 0 rfl Tryd.underlying24 rfl ts_24 rfl)) ?_
  exact ⟨rfl, hS.kp⟩
end Go.Proofs.YtocnmcndcdncmaaDoor
