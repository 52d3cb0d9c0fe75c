
/- lpm: both Right, by contract. Conditions: none but bounds. -/
import Derived.Test.YtlpgedncnefaoaaLpE
namespace Go.Proofs.Ytlpgedncnefaoaa
open Go.ChangeShapes Go.WideShapes Go.ChangeAt Go.RowKit
theorem lcut_c (a : Ad) (z : Int) (m : Nat) (w0 : World) (hl : adLim a) (hz : min (max z 0) (adBits a : Int) = (m : Int)) : Calls Try.prog 21 #[.agg a.V.toArray, .int .i64 z] w0 fun e w' => e = .returned (.agg (cutM a m).V.toArray) ∧ Kp [] w0 w' := by
  obtain ⟨six, high, low⟩ := a
  cases six with
  | false => exact lcut4_c high low m z w0 hl.1 hl.2 hz
  | true => exact lcut6_c high low m z w0 hl.1 hl.2 hz
theorem rcut_c (a : Ad) (z : Int) (m : Nat) (w0 : World) (hl : adLim a) (hr : adRight a) (hz : min (max z 0) (adBits a : Int) = (m : Int)) : Calls Try.prog 23 #[.agg a.V.toArray, .int .i64 z] w0 fun e w' => e = .returned (.agg (cutM a m).V.toArray) ∧ Kp [] w0 w' := by
  have hb : adBits a = 8 * adN a := by unfold adBits adN; cases a.six <;> rfl
  rw [cut_same a m hr hl (by omega)]
  exact rlcut_c a z m (adN a) rfl w0 hl (by rw [← hb]; exact hz)
def eqA (x y : Ad) : Bool := x.six == y.six && (decide ((x.high : Int) = (y.high : Int)) && (decide ((x.low : Int) = (y.low : Int)) && true))
def rgtB (a : Ad) (z : Int) (m : Nat) : Bool := decide (adRight a) && (decide (0 ≤ z) && (decide (z ≤ (adBits a : Int)) && eqA (cutM a m) a))
set_option maxRecDepth 100000 in
set_option maxHeartbeats 8000000 in
theorem rlright_c (a : Ad) (z : Int) (m : Nat) (w0 : World) (hl : adLim a) (hz : min (max z 0) (adBits a : Int) = (m : Int)) : Calls Try.prog 29 #[.agg a.V.toArray, .int .i64 z] w0 fun e w' => e = .returned (.bool (rgtB a z m)) ∧ Kp [] w0 w' := by
  have hS := St.sv w0
  refine ent (n := 24) Try.func29 rfl rfl ?_
  refine wp_seq_k ?_; intro K1 hK1
  refine wlit ?_
  refine wl_e rfl ?_; intro K hK
  refine ow_box hS (tmA rfl rfl) rfl ?_
  clear hS; intro g0_0 w hg0_0 hS
  refine hK _ _ ?_; clear hK K
  refine wl_v (x_assign ev_c) ?_
  refine wl_nil ?_
  refine then_n (hK1 _ _ ?_); clear hK1 K1
  refine wp_seq_k ?_; intro K2 hK2
  refine rg_startk 0 hS mixed_ ?_
  clear hS; intro w hS
  refine rg_take 0 rfl rfl (by kernel_rfl) (by kernel_rfl) (by kernel_rfl) (want_0) (fun w hok => x_loadA (cs := [_, _, _]) Try.underlying25 rfl ts_25 (tmP rfl rfl) (rangeB hok 0 rfl rfl)) ?_
  refine rg_step 1 rfl (by kernel_rfl) (want_0) (oks_drop hS 0 rfl) ?_; intro K hK
  refine ow_call Try.func22 rfl rfl (evs_cons (tmA rfl rfl) <| evs_nil) (rad_right_c a _) ?_
  rintro e w ⟨rfl, hk⟩
  refine ⟨_, rfl, ?_⟩
  replace hS := hS.kept hk
  clear hk
  refine hK _ _ ?_; clear hK K
  refine rg_take 2 rfl rfl (by kernel_rfl) (by kernel_rfl) (by kernel_rfl) (want_0) (fun w hok => x_move (tmB rfl rfl)) ?_
  refine gs_rg (tm (t := 7) rfl) (fun hg1_2 => ?_) (fun hg1_2 => ?_)
  · have hg1_2' := hg1_2; (try simp only [nrm] at hg1_2'); try (exfalso; first | with_reducible exact absurd hg1_2 Bool.false_ne_true | with_reducible exact absurd hg1_2.symm Bool.false_ne_true | omega | (simp at hg1_2; done))
    all_goals
     refine rg_take 3 rfl rfl (by kernel_rfl) (by kernel_rfl) (by kernel_rfl) (want_y rfl rfl rfl rfl (by rw [hg1_2]; rfl)) (fun w hok => x_move (tmI rfl rfl)) ?_
     refine rg_take 4 rfl rfl (by kernel_rfl) (by kernel_rfl) (by kernel_rfl) (want_y rfl rfl rfl rfl (by rw [hg1_2]; rfl)) (fun w hok => x_geq (tmI rfl rfl) (ev_cN 0)) ?_
     refine rg_take 5 rfl rfl (by kernel_rfl) (by kernel_rfl) (by kernel_rfl) (want_0) (fun w hok => x_pickT (tmB rfl rfl) hg1_2 (tmB rfl rfl)) ?_
     refine rg_take 6 rfl rfl (by kernel_rfl) (by kernel_rfl) (by kernel_rfl) (want_0) (fun w hok => x_move (tmB rfl rfl)) ?_
     refine gs_rg (tm (t := 11) rfl) (fun hg1_6 => ?_) (fun hg1_6 => ?_)
     · have hg1_6' := hg1_6; (try simp only [nrm] at hg1_6'); try (exfalso; first | with_reducible exact absurd hg1_6 Bool.false_ne_true | with_reducible exact absurd hg1_6.symm Bool.false_ne_true | omega | (simp at hg1_6; done))
       all_goals
        refine rg_take 7 rfl rfl (by kernel_rfl) (by kernel_rfl) (by kernel_rfl) (want_y rfl rfl rfl rfl (by rw [hg1_6]; rfl)) (fun w hok => x_move (tmI rfl rfl)) ?_
        refine rg_take 8 rfl rfl (by kernel_rfl) (by kernel_rfl) (by kernel_rfl) (want_y rfl rfl rfl rfl (by rw [hg1_6]; rfl)) (fun w hok => x_loadA (cs := [_, _, _]) Try.underlying25 rfl ts_25 (tmP rfl rfl) (rangeB hok 0 rfl rfl)) ?_
        refine rg_step 9 rfl (by kernel_rfl) (want_y rfl rfl rfl rfl (by rw [hg1_6]; rfl)) (oks_drop hS 0 rfl) ?_; intro K hK
        refine ow_call Try.func34 rfl rfl (evs_cons (tmA rfl rfl) <| evs_nil) (rlbits_c a _) ?_
        rintro e w ⟨rfl, hk⟩
        refine ⟨_, rfl, ?_⟩
        replace hS := hS.kept hk
        clear hk
        refine hK _ _ ?_; clear hK K
        refine rg_take 10 rfl rfl (by kernel_rfl) (by kernel_rfl) (by kernel_rfl) (want_y rfl rfl rfl rfl (by rw [hg1_6]; rfl)) (fun w hok => x_leq (tmI rfl rfl) (tmI rfl rfl)) ?_
        refine rg_take 11 rfl rfl (by kernel_rfl) (by kernel_rfl) (by kernel_rfl) (want_0) (fun w hok => x_pickT (tmB rfl rfl) hg1_6 (tmB rfl rfl)) ?_
        refine rg_take 12 rfl rfl (by kernel_rfl) (by kernel_rfl) (by kernel_rfl) (want_0) (fun w hok => x_move (tmB rfl rfl)) ?_
        refine gs_rg (tm (t := 17) rfl) (fun hg1_12 => ?_) (fun hg1_12 => ?_)
        · have hg1_12' := hg1_12; (try simp only [nrm] at hg1_12'); try (exfalso; first | with_reducible exact absurd hg1_12 Bool.false_ne_true | with_reducible exact absurd hg1_12.symm Bool.false_ne_true | omega | (simp at hg1_12; done))
          all_goals
           refine rg_take 13 rfl rfl (by kernel_rfl) (by kernel_rfl) (by kernel_rfl) (want_y rfl rfl rfl rfl (by rw [hg1_12]; rfl)) (fun w hok => x_loadA (cs := [_, _, _]) Try.underlying25 rfl ts_25 (tmP rfl rfl) (rangeB hok 0 rfl rfl)) ?_
           refine rg_take 14 rfl rfl (by kernel_rfl) (by kernel_rfl) (by kernel_rfl) (want_y rfl rfl rfl rfl (by rw [hg1_12]; rfl)) (fun w hok => x_move (tmI rfl rfl)) ?_
           refine rg_take 16 rfl rfl (by kernel_rfl) (by kernel_rfl) (by kernel_rfl) (want_y rfl rfl rfl rfl (by rw [hg1_12]; rfl)) (fun w hok => x_loadA (cs := [_, _, _]) Try.underlying25 rfl ts_25 (tmP rfl rfl) (rangeB hok 0 rfl rfl)) ?_
           refine rg_step 15 rfl (by kernel_rfl) (want_y rfl rfl rfl rfl (by rw [hg1_12]; rfl)) (oks_drop hS 0 rfl) ?_; intro K hK
           refine ow_call Try.func23 rfl rfl (evs_cons (tmA rfl rfl) <| evs_cons (tmI rfl rfl) <| evs_nil) (rcut_c a z m _ hl (of_decide_eq_true hg1_2) hz) ?_
           rintro e w ⟨rfl, hk⟩
           refine ⟨_, rfl, ?_⟩
           replace hS := hS.kept hk
           clear hk
           refine hK _ _ ?_; clear hK K
           refine rg_take 17 rfl rfl (by kernel_rfl) (by kernel_rfl) (by kernel_rfl) (want_y rfl rfl rfl rfl (by rw [hg1_12]; rfl)) (fun w hok => x_Aeql (by kernel_rfl) (tmA rfl rfl) (tmA rfl rfl) (eqv_A Try.underlying25 (by kernel_rfl) (fe_cons rfl (pt_1 Try.underlying4 rfl rfl) (pt_1 Try.underlying4 rfl rfl) (eqv_b Try.underlying4) <| fe_cons rfl (pt_1 Try.underlying23 rfl rfl) (pt_1 Try.underlying23 rfl rfl) (eqv_i Try.underlying23) <| fe_cons rfl (pt_1 Try.underlying23 rfl rfl) (pt_1 Try.underlying23 rfl rfl) (eqv_i Try.underlying23) <| fe_nil))) ?_
           refine rg_take 18 rfl rfl (by kernel_rfl) (by kernel_rfl) (by kernel_rfl) (want_0) (fun w hok => x_pickT (tmB rfl rfl) hg1_12 (tmB rfl rfl)) ?_
           refine rg_take 19 rfl rfl (by kernel_rfl) (by kernel_rfl) (by kernel_rfl) (want_0) (fun w hok => x_assign (tmB rfl rfl)) ?_
           refine rg_done (oks_drop hS 0 rfl) (by kernel_rfl) ?_
           refine then_n (hK2 _ _ ?_); clear hK2 K2
           refine wp_ret ?_
           refine ret1 rfl (.tmp rfl (show _ = Value.bool _ from rfl)) ?_
           unfold rgtB
           refine ⟨?_, hS.kp⟩
           first
             | (rw [hg1_2]; rfl)
             | (rw [hg1_2, show decide ((0 : Int) ≤ z) = true from hg1_6, hg1_12]; rfl)
             | (rw [hg1_2, show decide ((0 : Int) ≤ z) = false from hg1_6]; rfl)
        have hg1_12' := hg1_12; (try simp only [nrm] at hg1_12'); try (exfalso; first | with_reducible exact absurd hg1_12 Bool.false_ne_true | with_reducible exact absurd hg1_12.symm Bool.false_ne_true | omega | (simp at hg1_12; done))
        all_goals
         refine rg_skip 13 rfl rfl (by kernel_rfl) (by kernel_rfl) (by kernel_rfl) (want_n rfl rfl rfl rfl (by rw [hg1_12]; rfl)) ?_
         refine rg_skip 14 rfl rfl (by kernel_rfl) (by kernel_rfl) (by kernel_rfl) (want_n rfl rfl rfl rfl (by rw [hg1_12]; rfl)) ?_
         refine rg_skip 15 rfl rfl (by kernel_rfl) (by kernel_rfl) (by kernel_rfl) (want_n rfl rfl rfl rfl (by rw [hg1_12]; rfl)) ?_
         refine rg_skip 16 rfl rfl (by kernel_rfl) (by kernel_rfl) (by kernel_rfl) (want_n rfl rfl rfl rfl (by rw [hg1_12]; rfl)) ?_
         refine rg_skip 17 rfl rfl (by kernel_rfl) (by kernel_rfl) (by kernel_rfl) (want_n rfl rfl rfl rfl (by rw [hg1_12]; rfl)) ?_
         refine rg_take 18 rfl rfl (by kernel_rfl) (by kernel_rfl) (by kernel_rfl) (want_0) (fun w hok => x_pickF (tmB rfl rfl) hg1_12 ev_c) ?_
         refine rg_take 19 rfl rfl (by kernel_rfl) (by kernel_rfl) (by kernel_rfl) (want_0) (fun w hok => x_assign (tmB rfl rfl)) ?_
         refine rg_done (oks_drop hS 0 rfl) (by kernel_rfl) ?_
         refine then_n (hK2 _ _ ?_); clear hK2 K2
         refine wp_ret ?_
         refine ret1 rfl (.tmp rfl (show _ = Value.bool _ from rfl)) ?_
         unfold rgtB
         refine ⟨?_, hS.kp⟩
         first
           | (rw [hg1_2]; rfl)
           | (rw [hg1_2, show decide ((0 : Int) ≤ z) = true from hg1_6, hg1_12]; rfl)
           | (rw [hg1_2, show decide ((0 : Int) ≤ z) = false from hg1_6]; rfl)
     have hg1_6' := hg1_6; (try simp only [nrm] at hg1_6'); try (exfalso; first | with_reducible exact absurd hg1_6 Bool.false_ne_true | with_reducible exact absurd hg1_6.symm Bool.false_ne_true | omega | (simp at hg1_6; done))
     all_goals
      refine rg_skip 7 rfl rfl (by kernel_rfl) (by kernel_rfl) (by kernel_rfl) (want_n rfl rfl rfl rfl (by rw [hg1_6]; rfl)) ?_
      refine rg_skip 8 rfl rfl (by kernel_rfl) (by kernel_rfl) (by kernel_rfl) (want_n rfl rfl rfl rfl (by rw [hg1_6]; rfl)) ?_
      refine rg_skip 9 rfl rfl (by kernel_rfl) (by kernel_rfl) (by kernel_rfl) (want_n rfl rfl rfl rfl (by rw [hg1_6]; rfl)) ?_
      refine rg_skip 10 rfl rfl (by kernel_rfl) (by kernel_rfl) (by kernel_rfl) (want_n rfl rfl rfl rfl (by rw [hg1_6]; rfl)) ?_
      refine rg_take 11 rfl rfl (by kernel_rfl) (by kernel_rfl) (by kernel_rfl) (want_0) (fun w hok => x_pickF (tmB rfl rfl) hg1_6 ev_c) ?_
      refine rg_take 12 rfl rfl (by kernel_rfl) (by kernel_rfl) (by kernel_rfl) (want_0) (fun w hok => x_move (tmB rfl rfl)) ?_
      refine rg_skip 13 rfl rfl (by kernel_rfl) (by kernel_rfl) (by kernel_rfl) (want_n rfl rfl rfl rfl rfl) ?_
      refine rg_skip 14 rfl rfl (by kernel_rfl) (by kernel_rfl) (by kernel_rfl) (want_n rfl rfl rfl rfl rfl) ?_
      refine rg_skip 15 rfl rfl (by kernel_rfl) (by kernel_rfl) (by kernel_rfl) (want_n rfl rfl rfl rfl rfl) ?_
      refine rg_skip 16 rfl rfl (by kernel_rfl) (by kernel_rfl) (by kernel_rfl) (want_n rfl rfl rfl rfl rfl) ?_
      refine rg_skip 17 rfl rfl (by kernel_rfl) (by kernel_rfl) (by kernel_rfl) (want_n rfl rfl rfl rfl rfl) ?_
      refine rg_take 18 rfl rfl (by kernel_rfl) (by kernel_rfl) (by kernel_rfl) (want_0) (fun w hok => x_pickF (tmB rfl rfl) rfl ev_c) ?_
      refine rg_take 19 rfl rfl (by kernel_rfl) (by kernel_rfl) (by kernel_rfl) (want_0) (fun w hok => x_assign (tmB rfl rfl)) ?_
      refine rg_done (oks_drop hS 0 rfl) (by kernel_rfl) ?_
      refine then_n (hK2 _ _ ?_); clear hK2 K2
      refine wp_ret ?_
      refine ret1 rfl (.tmp rfl (show _ = Value.bool _ from rfl)) ?_
      unfold rgtB
      refine ⟨?_, hS.kp⟩
      first
        | (rw [hg1_2]; rfl)
        | (rw [hg1_2, show decide ((0 : Int) ≤ z) = true from hg1_6, hg1_12]; rfl)
        | (rw [hg1_2, show decide ((0 : Int) ≤ z) = false from hg1_6]; rfl)
  have hg1_2' := hg1_2; (try simp only [nrm] at hg1_2'); try (exfalso; first | with_reducible exact absurd hg1_2 Bool.false_ne_true | with_reducible exact absurd hg1_2.symm Bool.false_ne_true | omega | (simp at hg1_2; done))
  all_goals
   refine rg_skip 3 rfl rfl (by kernel_rfl) (by kernel_rfl) (by kernel_rfl) (want_n rfl rfl rfl rfl (by rw [hg1_2]; rfl)) ?_
   refine rg_skip 4 rfl rfl (by kernel_rfl) (by kernel_rfl) (by kernel_rfl) (want_n rfl rfl rfl rfl (by rw [hg1_2]; rfl)) ?_
   refine rg_take 5 rfl rfl (by kernel_rfl) (by kernel_rfl) (by kernel_rfl) (want_0) (fun w hok => x_pickF (tmB rfl rfl) hg1_2 ev_c) ?_
   refine rg_take 6 rfl rfl (by kernel_rfl) (by kernel_rfl) (by kernel_rfl) (want_0) (fun w hok => x_move (tmB rfl rfl)) ?_
   refine rg_skip 7 rfl rfl (by kernel_rfl) (by kernel_rfl) (by kernel_rfl) (want_n rfl rfl rfl rfl rfl) ?_
   refine rg_skip 8 rfl rfl (by kernel_rfl) (by kernel_rfl) (by kernel_rfl) (want_n rfl rfl rfl rfl rfl) ?_
   refine rg_skip 9 rfl rfl (by kernel_rfl) (by kernel_rfl) (by kernel_rfl) (want_n rfl rfl rfl rfl rfl) ?_
   refine rg_skip 10 rfl rfl (by kernel_rfl) (by kernel_rfl) (by kernel_rfl) (want_n rfl rfl rfl rfl rfl) ?_
   refine rg_take 11 rfl rfl (by kernel_rfl) (by kernel_rfl) (by kernel_rfl) (want_0) (fun w hok => x_pickF (tmB rfl rfl) rfl ev_c) ?_
   refine rg_take 12 rfl rfl (by kernel_rfl) (by kernel_rfl) (by kernel_rfl) (want_0) (fun w hok => x_move (tmB rfl rfl)) ?_
   refine rg_skip 13 rfl rfl (by kernel_rfl) (by kernel_rfl) (by kernel_rfl) (want_n rfl rfl rfl rfl rfl) ?_
   refine rg_skip 14 rfl rfl (by kernel_rfl) (by kernel_rfl) (by kernel_rfl) (want_n rfl rfl rfl rfl rfl) ?_
   refine rg_skip 15 rfl rfl (by kernel_rfl) (by kernel_rfl) (by kernel_rfl) (want_n rfl rfl rfl rfl rfl) ?_
   refine rg_skip 16 rfl rfl (by kernel_rfl) (by kernel_rfl) (by kernel_rfl) (want_n rfl rfl rfl rfl rfl) ?_
   refine rg_skip 17 rfl rfl (by kernel_rfl) (by kernel_rfl) (by kernel_rfl) (want_n rfl rfl rfl rfl rfl) ?_
   refine rg_take 18 rfl rfl (by kernel_rfl) (by kernel_rfl) (by kernel_rfl) (want_0) (fun w hok => x_pickF (tmB rfl rfl) rfl ev_c) ?_
   refine rg_take 19 rfl rfl (by kernel_rfl) (by kernel_rfl) (by kernel_rfl) (want_0) (fun w hok => x_assign (tmB rfl rfl)) ?_
   refine rg_done (oks_drop hS 0 rfl) (by kernel_rfl) ?_
   refine then_n (hK2 _ _ ?_); clear hK2 K2
   refine wp_ret ?_
   refine ret1 rfl (.tmp rfl (show _ = Value.bool _ from rfl)) ?_
   unfold rgtB
   refine ⟨?_, hS.kp⟩
   first
     | (rw [hg1_2]; rfl)
     | (rw [hg1_2, show decide ((0 : Int) ≤ z) = true from hg1_6, hg1_12]; rfl)
     | (rw [hg1_2, show decide ((0 : Int) ≤ z) = false from hg1_6]; rfl)
set_option maxRecDepth 100000 in
set_option maxHeartbeats 8000000 in
theorem lright_c (a : Ad) (z : Int) (m : Nat) (w0 : World) (hl : adLim a) (hz : min (max z 0) (adBits a : Int) = (m : Int)) : Calls Try.prog 26 #[.agg #[.bool a.six, .int .u64 (a.high : Int), .int .u64 (a.low : Int), .int .i64 z]] w0 fun e w' => e = .returned (.bool (rgtB a z m)) ∧ Kp [] w0 w' := by
  have hS := St.sv w0
  refine ent (n := 29) Try.func26 rfl rfl ?_
  refine wp_seq_k ?_; intro K1 hK1
  refine wlit ?_
  refine wl_e rfl ?_; intro K hK
  refine ow_box hS (tmA rfl rfl) rfl ?_
  clear hS; intro g0_0 w hg0_0 hS
  refine hK _ _ ?_; clear hK K
  refine wl_v (x_assign ev_c) ?_
  refine wl_nil ?_
  refine then_n (hK1 _ _ ?_); clear hK1 K1
  refine wp_seq_k ?_; intro K2 hK2
  refine rg_startk 0 hS mixed_ ?_
  clear hS; intro w hS
  refine rg_take 0 rfl rfl (by kernel_rfl) (by kernel_rfl) (by kernel_rfl) (want_0) (fun w hok => x_fa 0 Try.underlying32 rfl rfl ts_25 (tmP rfl rfl)) ?_
  refine rg_take 1 rfl rfl (by kernel_rfl) (by kernel_rfl) (by kernel_rfl) (want_0) (fun w hok => x_loadA (cs := [_, _, _]) Try.underlying25 rfl ts_25 (tmP rfl rfl) (rangeB hok 0 rfl rfl)) ?_
  refine rg_step 2 rfl (by kernel_rfl) (want_0) (oks_drop hS 0 rfl) ?_; intro K hK
  refine ow_call Try.func17 rfl rfl (evs_cons (tmA rfl rfl) <| evs_nil) (ad_right_c a _) ?_
  rintro e w ⟨rfl, hk⟩
  refine ⟨_, rfl, ?_⟩
  replace hS := hS.kept hk
  clear hk
  refine hK _ _ ?_; clear hK K
  refine rg_take 3 rfl rfl (by kernel_rfl) (by kernel_rfl) (by kernel_rfl) (want_0) (fun w hok => x_move (tmB rfl rfl)) ?_
  refine gs_rg (tm (t := 6) rfl) (fun hg1_3 => ?_) (fun hg1_3 => ?_)
  · have hg1_3' := hg1_3; (try simp only [nrm] at hg1_3'); try (exfalso; first | with_reducible exact absurd hg1_3 Bool.false_ne_true | with_reducible exact absurd hg1_3.symm Bool.false_ne_true | omega | (simp at hg1_3; done))
    all_goals
     refine rg_take 4 rfl rfl (by kernel_rfl) (by kernel_rfl) (by kernel_rfl) (want_y rfl rfl rfl rfl (by rw [hg1_3]; rfl)) (fun w hok => x_fa 3 Try.underlying32 rfl rfl ts_3 (tmP rfl rfl)) ?_
     first
      | refine rg_take 5 rfl rfl (by kernel_rfl) (by kernel_rfl) (by kernel_rfl) (want_y rfl rfl rfl rfl (by rw [hg1_3]; rfl)) (fun w hok => x_load Try.underlying3 rfl (tmP rfl rfl) (cellB hok 0 rfl rfl)) ?_
      | refine rg_take 5 rfl rfl (by kernel_rfl) (by kernel_rfl) (by kernel_rfl) (want_y rfl rfl rfl rfl (by rw [hg1_3]; rfl)) (fun w hok => x_load Try.underlying3 rfl (tmP rfl rfl) (cellB hok 0 rfl (getm (by omega)))) ?_
     refine rg_take 6 rfl rfl (by kernel_rfl) (by kernel_rfl) (by kernel_rfl) (want_y rfl rfl rfl rfl (by rw [hg1_3]; rfl)) (fun w hok => x_geq (tmI rfl rfl) (ev_cN 0)) ?_
     refine rg_take 7 rfl rfl (by kernel_rfl) (by kernel_rfl) (by kernel_rfl) (want_0) (fun w hok => x_pickT (tmB rfl rfl) hg1_3 (tmB rfl rfl)) ?_
     refine rg_take 8 rfl rfl (by kernel_rfl) (by kernel_rfl) (by kernel_rfl) (want_0) (fun w hok => x_move (tmB rfl rfl)) ?_
     refine gs_rg (tm (t := 11) rfl) (fun hg1_8 => ?_) (fun hg1_8 => ?_)
     · have hg1_8' := hg1_8; (try simp only [nrm] at hg1_8'); try (exfalso; first | with_reducible exact absurd hg1_8 Bool.false_ne_true | with_reducible exact absurd hg1_8.symm Bool.false_ne_true | omega | (simp at hg1_8; done))
       all_goals
        refine rg_take 9 rfl rfl (by kernel_rfl) (by kernel_rfl) (by kernel_rfl) (want_y rfl rfl rfl rfl (by rw [hg1_8]; rfl)) (fun w hok => x_fa 3 Try.underlying32 rfl rfl ts_3 (tmP rfl rfl)) ?_
        first
         | refine rg_take 10 rfl rfl (by kernel_rfl) (by kernel_rfl) (by kernel_rfl) (want_y rfl rfl rfl rfl (by rw [hg1_8]; rfl)) (fun w hok => x_load Try.underlying3 rfl (tmP rfl rfl) (cellB hok 0 rfl rfl)) ?_
         | refine rg_take 10 rfl rfl (by kernel_rfl) (by kernel_rfl) (by kernel_rfl) (want_y rfl rfl rfl rfl (by rw [hg1_8]; rfl)) (fun w hok => x_load Try.underlying3 rfl (tmP rfl rfl) (cellB hok 0 rfl (getm (by omega)))) ?_
        refine rg_take 11 rfl rfl (by kernel_rfl) (by kernel_rfl) (by kernel_rfl) (want_y rfl rfl rfl rfl (by rw [hg1_8]; rfl)) (fun w hok => x_fa 0 Try.underlying32 rfl rfl ts_25 (tmP rfl rfl)) ?_
        refine rg_take 12 rfl rfl (by kernel_rfl) (by kernel_rfl) (by kernel_rfl) (want_y rfl rfl rfl rfl (by rw [hg1_8]; rfl)) (fun w hok => x_loadA (cs := [_, _, _]) Try.underlying25 rfl ts_25 (tmP rfl rfl) (rangeB hok 0 rfl rfl)) ?_
        refine rg_step 13 rfl (by kernel_rfl) (want_y rfl rfl rfl rfl (by rw [hg1_8]; rfl)) (oks_drop hS 0 rfl) ?_; intro K hK
        refine ow_call Try.func19 rfl rfl (evs_cons (tmA rfl rfl) <| evs_nil) (lbits_c a _) ?_
        rintro e w ⟨rfl, hk⟩
        refine ⟨_, rfl, ?_⟩
        replace hS := hS.kept hk
        clear hk
        refine hK _ _ ?_; clear hK K
        refine rg_take 14 rfl rfl (by kernel_rfl) (by kernel_rfl) (by kernel_rfl) (want_y rfl rfl rfl rfl (by rw [hg1_8]; rfl)) (fun w hok => x_leq (tmI rfl rfl) (tmI rfl rfl)) ?_
        refine rg_take 15 rfl rfl (by kernel_rfl) (by kernel_rfl) (by kernel_rfl) (want_0) (fun w hok => x_pickT (tmB rfl rfl) hg1_8 (tmB rfl rfl)) ?_
        refine rg_take 16 rfl rfl (by kernel_rfl) (by kernel_rfl) (by kernel_rfl) (want_0) (fun w hok => x_move (tmB rfl rfl)) ?_
        refine gs_rg (tm (t := 19) rfl) (fun hg1_16 => ?_) (fun hg1_16 => ?_)
        · have hg1_16' := hg1_16; (try simp only [nrm] at hg1_16'); try (exfalso; first | with_reducible exact absurd hg1_16 Bool.false_ne_true | with_reducible exact absurd hg1_16.symm Bool.false_ne_true | omega | (simp at hg1_16; done))
          all_goals
           refine rg_take 17 rfl rfl (by kernel_rfl) (by kernel_rfl) (by kernel_rfl) (want_y rfl rfl rfl rfl (by rw [hg1_16]; rfl)) (fun w hok => x_fa 0 Try.underlying32 rfl rfl ts_25 (tmP rfl rfl)) ?_
           refine rg_take 18 rfl rfl (by kernel_rfl) (by kernel_rfl) (by kernel_rfl) (want_y rfl rfl rfl rfl (by rw [hg1_16]; rfl)) (fun w hok => x_loadA (cs := [_, _, _]) Try.underlying25 rfl ts_25 (tmP rfl rfl) (rangeB hok 0 rfl rfl)) ?_
           refine rg_take 19 rfl rfl (by kernel_rfl) (by kernel_rfl) (by kernel_rfl) (want_y rfl rfl rfl rfl (by rw [hg1_16]; rfl)) (fun w hok => x_fa 3 Try.underlying32 rfl rfl ts_3 (tmP rfl rfl)) ?_
           first
            | refine rg_take 20 rfl rfl (by kernel_rfl) (by kernel_rfl) (by kernel_rfl) (want_y rfl rfl rfl rfl (by rw [hg1_16]; rfl)) (fun w hok => x_load Try.underlying3 rfl (tmP rfl rfl) (cellB hok 0 rfl rfl)) ?_
            | refine rg_take 20 rfl rfl (by kernel_rfl) (by kernel_rfl) (by kernel_rfl) (want_y rfl rfl rfl rfl (by rw [hg1_16]; rfl)) (fun w hok => x_load Try.underlying3 rfl (tmP rfl rfl) (cellB hok 0 rfl (getm (by omega)))) ?_
           refine rg_take 22 rfl rfl (by kernel_rfl) (by kernel_rfl) (by kernel_rfl) (want_y rfl rfl rfl rfl (by rw [hg1_16]; rfl)) (fun w hok => x_fa 0 Try.underlying32 rfl rfl ts_25 (tmP rfl rfl)) ?_
           refine rg_take 23 rfl rfl (by kernel_rfl) (by kernel_rfl) (by kernel_rfl) (want_y rfl rfl rfl rfl (by rw [hg1_16]; rfl)) (fun w hok => x_loadA (cs := [_, _, _]) Try.underlying25 rfl ts_25 (tmP rfl rfl) (rangeB hok 0 rfl rfl)) ?_
           refine rg_step 21 rfl (by kernel_rfl) (want_y rfl rfl rfl rfl (by rw [hg1_16]; rfl)) (oks_drop hS 0 rfl) ?_; intro K hK
           refine ow_call Try.func21 rfl rfl (evs_cons (tmA rfl rfl) <| evs_cons (tmI rfl rfl) <| evs_nil) (lcut_c a z m _ hl hz) ?_
           rintro e w ⟨rfl, hk⟩
           refine ⟨_, rfl, ?_⟩
           replace hS := hS.kept hk
           clear hk
           refine hK _ _ ?_; clear hK K
           refine rg_take 24 rfl rfl (by kernel_rfl) (by kernel_rfl) (by kernel_rfl) (want_y rfl rfl rfl rfl (by rw [hg1_16]; rfl)) (fun w hok => x_Aeql (by kernel_rfl) (tmA rfl rfl) (tmA rfl rfl) (eqv_A Try.underlying25 (by kernel_rfl) (fe_cons rfl (pt_1 Try.underlying4 rfl rfl) (pt_1 Try.underlying4 rfl rfl) (eqv_b Try.underlying4) <| fe_cons rfl (pt_1 Try.underlying23 rfl rfl) (pt_1 Try.underlying23 rfl rfl) (eqv_i Try.underlying23) <| fe_cons rfl (pt_1 Try.underlying23 rfl rfl) (pt_1 Try.underlying23 rfl rfl) (eqv_i Try.underlying23) <| fe_nil))) ?_
           refine rg_take 25 rfl rfl (by kernel_rfl) (by kernel_rfl) (by kernel_rfl) (want_0) (fun w hok => x_pickT (tmB rfl rfl) hg1_16 (tmB rfl rfl)) ?_
           refine rg_take 26 rfl rfl (by kernel_rfl) (by kernel_rfl) (by kernel_rfl) (want_0) (fun w hok => x_assign (tmB rfl rfl)) ?_
           refine rg_done (oks_drop hS 0 rfl) (by kernel_rfl) ?_
           refine then_n (hK2 _ _ ?_); clear hK2 K2
           refine wp_ret ?_
           refine ret1 rfl (.tmp rfl (show _ = Value.bool _ from rfl)) ?_
           unfold rgtB
           refine ⟨?_, hS.kp⟩
           first
             | (rw [hg1_3]; rfl)
             | (rw [hg1_3, show decide ((0 : Int) ≤ z) = true from hg1_8, hg1_16]; rfl)
             | (rw [hg1_3, show decide ((0 : Int) ≤ z) = false from hg1_8]; rfl)
        have hg1_16' := hg1_16; (try simp only [nrm] at hg1_16'); try (exfalso; first | with_reducible exact absurd hg1_16 Bool.false_ne_true | with_reducible exact absurd hg1_16.symm Bool.false_ne_true | omega | (simp at hg1_16; done))
        all_goals
         refine rg_skip 17 rfl rfl (by kernel_rfl) (by kernel_rfl) (by kernel_rfl) (want_n rfl rfl rfl rfl (by rw [hg1_16]; rfl)) ?_
         refine rg_skip 18 rfl rfl (by kernel_rfl) (by kernel_rfl) (by kernel_rfl) (want_n rfl rfl rfl rfl (by rw [hg1_16]; rfl)) ?_
         refine rg_skip 19 rfl rfl (by kernel_rfl) (by kernel_rfl) (by kernel_rfl) (want_n rfl rfl rfl rfl (by rw [hg1_16]; rfl)) ?_
         refine rg_skip 20 rfl rfl (by kernel_rfl) (by kernel_rfl) (by kernel_rfl) (want_n rfl rfl rfl rfl (by rw [hg1_16]; rfl)) ?_
         refine rg_skip 21 rfl rfl (by kernel_rfl) (by kernel_rfl) (by kernel_rfl) (want_n rfl rfl rfl rfl (by rw [hg1_16]; rfl)) ?_
         refine rg_skip 22 rfl rfl (by kernel_rfl) (by kernel_rfl) (by kernel_rfl) (want_n rfl rfl rfl rfl (by rw [hg1_16]; rfl)) ?_
         refine rg_skip 23 rfl rfl (by kernel_rfl) (by kernel_rfl) (by kernel_rfl) (want_n rfl rfl rfl rfl (by rw [hg1_16]; rfl)) ?_
         refine rg_skip 24 rfl rfl (by kernel_rfl) (by kernel_rfl) (by kernel_rfl) (want_n rfl rfl rfl rfl (by rw [hg1_16]; rfl)) ?_
         refine rg_take 25 rfl rfl (by kernel_rfl) (by kernel_rfl) (by kernel_rfl) (want_0) (fun w hok => x_pickF (tmB rfl rfl) hg1_16 ev_c) ?_
         refine rg_take 26 rfl rfl (by kernel_rfl) (by kernel_rfl) (by kernel_rfl) (want_0) (fun w hok => x_assign (tmB rfl rfl)) ?_
         refine rg_done (oks_drop hS 0 rfl) (by kernel_rfl) ?_
         refine then_n (hK2 _ _ ?_); clear hK2 K2
         refine wp_ret ?_
         refine ret1 rfl (.tmp rfl (show _ = Value.bool _ from rfl)) ?_
         unfold rgtB
         refine ⟨?_, hS.kp⟩
         first
           | (rw [hg1_3]; rfl)
           | (rw [hg1_3, show decide ((0 : Int) ≤ z) = true from hg1_8, hg1_16]; rfl)
           | (rw [hg1_3, show decide ((0 : Int) ≤ z) = false from hg1_8]; rfl)
     have hg1_8' := hg1_8; (try simp only [nrm] at hg1_8'); try (exfalso; first | with_reducible exact absurd hg1_8 Bool.false_ne_true | with_reducible exact absurd hg1_8.symm Bool.false_ne_true | omega | (simp at hg1_8; done))
     all_goals
      refine rg_skip 9 rfl rfl (by kernel_rfl) (by kernel_rfl) (by kernel_rfl) (want_n rfl rfl rfl rfl (by rw [hg1_8]; rfl)) ?_
      refine rg_skip 10 rfl rfl (by kernel_rfl) (by kernel_rfl) (by kernel_rfl) (want_n rfl rfl rfl rfl (by rw [hg1_8]; rfl)) ?_
      refine rg_skip 11 rfl rfl (by kernel_rfl) (by kernel_rfl) (by kernel_rfl) (want_n rfl rfl rfl rfl (by rw [hg1_8]; rfl)) ?_
      refine rg_skip 12 rfl rfl (by kernel_rfl) (by kernel_rfl) (by kernel_rfl) (want_n rfl rfl rfl rfl (by rw [hg1_8]; rfl)) ?_
      refine rg_skip 13 rfl rfl (by kernel_rfl) (by kernel_rfl) (by kernel_rfl) (want_n rfl rfl rfl rfl (by rw [hg1_8]; rfl)) ?_
      refine rg_skip 14 rfl rfl (by kernel_rfl) (by kernel_rfl) (by kernel_rfl) (want_n rfl rfl rfl rfl (by rw [hg1_8]; rfl)) ?_
      refine rg_take 15 rfl rfl (by kernel_rfl) (by kernel_rfl) (by kernel_rfl) (want_0) (fun w hok => x_pickF (tmB rfl rfl) hg1_8 ev_c) ?_
      refine rg_take 16 rfl rfl (by kernel_rfl) (by kernel_rfl) (by kernel_rfl) (want_0) (fun w hok => x_move (tmB rfl rfl)) ?_
      refine rg_skip 17 rfl rfl (by kernel_rfl) (by kernel_rfl) (by kernel_rfl) (want_n rfl rfl rfl rfl rfl) ?_
      refine rg_skip 18 rfl rfl (by kernel_rfl) (by kernel_rfl) (by kernel_rfl) (want_n rfl rfl rfl rfl rfl) ?_
      refine rg_skip 19 rfl rfl (by kernel_rfl) (by kernel_rfl) (by kernel_rfl) (want_n rfl rfl rfl rfl rfl) ?_
      refine rg_skip 20 rfl rfl (by kernel_rfl) (by kernel_rfl) (by kernel_rfl) (want_n rfl rfl rfl rfl rfl) ?_
      refine rg_skip 21 rfl rfl (by kernel_rfl) (by kernel_rfl) (by kernel_rfl) (want_n rfl rfl rfl rfl rfl) ?_
      refine rg_skip 22 rfl rfl (by kernel_rfl) (by kernel_rfl) (by kernel_rfl) (want_n rfl rfl rfl rfl rfl) ?_
      refine rg_skip 23 rfl rfl (by kernel_rfl) (by kernel_rfl) (by kernel_rfl) (want_n rfl rfl rfl rfl rfl) ?_
      refine rg_skip 24 rfl rfl (by kernel_rfl) (by kernel_rfl) (by kernel_rfl) (want_n rfl rfl rfl rfl rfl) ?_
      refine rg_take 25 rfl rfl (by kernel_rfl) (by kernel_rfl) (by kernel_rfl) (want_0) (fun w hok => x_pickF (tmB rfl rfl) rfl ev_c) ?_
      refine rg_take 26 rfl rfl (by kernel_rfl) (by kernel_rfl) (by kernel_rfl) (want_0) (fun w hok => x_assign (tmB rfl rfl)) ?_
      refine rg_done (oks_drop hS 0 rfl) (by kernel_rfl) ?_
      refine then_n (hK2 _ _ ?_); clear hK2 K2
      refine wp_ret ?_
      refine ret1 rfl (.tmp rfl (show _ = Value.bool _ from rfl)) ?_
      unfold rgtB
      refine ⟨?_, hS.kp⟩
      first
        | (rw [hg1_3]; rfl)
        | (rw [hg1_3, show decide ((0 : Int) ≤ z) = true from hg1_8, hg1_16]; rfl)
        | (rw [hg1_3, show decide ((0 : Int) ≤ z) = false from hg1_8]; rfl)
  have hg1_3' := hg1_3; (try simp only [nrm] at hg1_3'); try (exfalso; first | with_reducible exact absurd hg1_3 Bool.false_ne_true | with_reducible exact absurd hg1_3.symm Bool.false_ne_true | omega | (simp at hg1_3; done))
  all_goals
   refine rg_skip 4 rfl rfl (by kernel_rfl) (by kernel_rfl) (by kernel_rfl) (want_n rfl rfl rfl rfl (by rw [hg1_3]; rfl)) ?_
   refine rg_skip 5 rfl rfl (by kernel_rfl) (by kernel_rfl) (by kernel_rfl) (want_n rfl rfl rfl rfl (by rw [hg1_3]; rfl)) ?_
   refine rg_skip 6 rfl rfl (by kernel_rfl) (by kernel_rfl) (by kernel_rfl) (want_n rfl rfl rfl rfl (by rw [hg1_3]; rfl)) ?_
   refine rg_take 7 rfl rfl (by kernel_rfl) (by kernel_rfl) (by kernel_rfl) (want_0) (fun w hok => x_pickF (tmB rfl rfl) hg1_3 ev_c) ?_
   refine rg_take 8 rfl rfl (by kernel_rfl) (by kernel_rfl) (by kernel_rfl) (want_0) (fun w hok => x_move (tmB rfl rfl)) ?_
   refine rg_skip 9 rfl rfl (by kernel_rfl) (by kernel_rfl) (by kernel_rfl) (want_n rfl rfl rfl rfl rfl) ?_
   refine rg_skip 10 rfl rfl (by kernel_rfl) (by kernel_rfl) (by kernel_rfl) (want_n rfl rfl rfl rfl rfl) ?_
   refine rg_skip 11 rfl rfl (by kernel_rfl) (by kernel_rfl) (by kernel_rfl) (want_n rfl rfl rfl rfl rfl) ?_
   refine rg_skip 12 rfl rfl (by kernel_rfl) (by kernel_rfl) (by kernel_rfl) (want_n rfl rfl rfl rfl rfl) ?_
   refine rg_skip 13 rfl rfl (by kernel_rfl) (by kernel_rfl) (by kernel_rfl) (want_n rfl rfl rfl rfl rfl) ?_
   refine rg_skip 14 rfl rfl (by kernel_rfl) (by kernel_rfl) (by kernel_rfl) (want_n rfl rfl rfl rfl rfl) ?_
   refine rg_take 15 rfl rfl (by kernel_rfl) (by kernel_rfl) (by kernel_rfl) (want_0) (fun w hok => x_pickF (tmB rfl rfl) rfl ev_c) ?_
   refine rg_take 16 rfl rfl (by kernel_rfl) (by kernel_rfl) (by kernel_rfl) (want_0) (fun w hok => x_move (tmB rfl rfl)) ?_
   refine rg_skip 17 rfl rfl (by kernel_rfl) (by kernel_rfl) (by kernel_rfl) (want_n rfl rfl rfl rfl rfl) ?_
   refine rg_skip 18 rfl rfl (by kernel_rfl) (by kernel_rfl) (by kernel_rfl) (want_n rfl rfl rfl rfl rfl) ?_
   refine rg_skip 19 rfl rfl (by kernel_rfl) (by kernel_rfl) (by kernel_rfl) (want_n rfl rfl rfl rfl rfl) ?_
   refine rg_skip 20 rfl rfl (by kernel_rfl) (by kernel_rfl) (by kernel_rfl) (want_n rfl rfl rfl rfl rfl) ?_
   refine rg_skip 21 rfl rfl (by kernel_rfl) (by kernel_rfl) (by kernel_rfl) (want_n rfl rfl rfl rfl rfl) ?_
   refine rg_skip 22 rfl rfl (by kernel_rfl) (by kernel_rfl) (by kernel_rfl) (want_n rfl rfl rfl rfl rfl) ?_
   refine rg_skip 23 rfl rfl (by kernel_rfl) (by kernel_rfl) (by kernel_rfl) (want_n rfl rfl rfl rfl rfl) ?_
   refine rg_skip 24 rfl rfl (by kernel_rfl) (by kernel_rfl) (by kernel_rfl) (want_n rfl rfl rfl rfl rfl) ?_
   refine rg_take 25 rfl rfl (by kernel_rfl) (by kernel_rfl) (by kernel_rfl) (want_0) (fun w hok => x_pickF (tmB rfl rfl) rfl ev_c) ?_
   refine rg_take 26 rfl rfl (by kernel_rfl) (by kernel_rfl) (by kernel_rfl) (want_0) (fun w hok => x_assign (tmB rfl rfl)) ?_
   refine rg_done (oks_drop hS 0 rfl) (by kernel_rfl) ?_
   refine then_n (hK2 _ _ ?_); clear hK2 K2
   refine wp_ret ?_
   refine ret1 rfl (.tmp rfl (show _ = Value.bool _ from rfl)) ?_
   unfold rgtB
   refine ⟨?_, hS.kp⟩
   first
     | (rw [hg1_3]; rfl)
     | (rw [hg1_3, show decide ((0 : Int) ≤ z) = true from hg1_8, hg1_16]; rfl)
     | (rw [hg1_3, show decide ((0 : Int) ≤ z) = false from hg1_8]; rfl)
end Go.Proofs.Ytlpgedncnefaoaa
