
/- lpm: the law LpmCuts, but for its example. Conditions: the example answers true (hAw). -/
import Derived.Test.YtlpapbjnanmdgaaLpF
namespace Go.Proofs.Ytlpapbjnanmdgaa
open Go.ChangeShapes Go.WideShapes Go.ChangeAt Go.RowKit
set_option maxRecDepth 100000 in
set_option maxHeartbeats 8000000 in
theorem lpmCuts_c (a : Ad) (z : Int) (m : Nat) (w0 : World) (hl : adLim a) (hz : min (max z 0) (adBits a : Int) = (m : Int)) (hAw : ∀ w : World, Calls Try.prog 12 #[] w fun e w' => e = .returned (.bool true) ∧ Kp [] w w') :
    Calls Try.prog 3 #[.agg a.V.toArray, .int .i64 z] w0 fun e w' => e = .returned (.bool true) ∧ Kp [] w0 w' := by
  have hS := St.sv w0
  refine ent (n := 35) Try.func3 rfl rfl ?_
  refine wp_seq_k ?_; intro K1 hK1
  refine wlit ?_
  refine wl_e rfl ?_; intro K hK
  refine ow_box hS (tmA rfl rfl) rfl ?_
  clear hS; intro g0_0 w hg0_0 hS
  refine hK _ _ ?_; clear hK K
  refine wl_v (x_assign ev_c) ?_
  refine wl_nil ?_
  refine then_n (hK1 _ _ ?_); clear hK1 K1
  refine wp_seq_k ?_; intro K2 hK2
  refine wp_seq_k ?_; intro K3 hK3
  refine rg_startk 0 hS mixed_ ?_
  clear hS; intro w hS
  refine rg_take 0 rfl rfl (by kernel_rfl) (by kernel_rfl) (by kernel_rfl) (want_0) (fun w hok => x_loadA (cs := [_, _, _]) Try.underlying24 rfl ts_24 (tmP rfl rfl) (rangeB hok 0 rfl rfl)) ?_
  refine rg_take 2 rfl rfl (by kernel_rfl) (by kernel_rfl) (by kernel_rfl) (want_0) (fun w hok => x_loadA (cs := [_, _, _]) Try.underlying24 rfl ts_24 (tmP rfl rfl) (rangeB hok 0 rfl rfl)) ?_
  refine rg_step 1 rfl (by kernel_rfl) (want_0) (oks_drop hS 0 rfl) ?_; intro K hK
  refine ow_call Try.func5 rfl rfl (evs_cons (tmA rfl rfl) <| evs_nil) (lbits_c a _) ?_
  rintro e w ⟨rfl, hk⟩
  refine ⟨_, rfl, ?_⟩
  replace hS := hS.kept hk
  clear hk
  refine hK _ _ ?_; clear hK K
  refine rg_step 3 rfl (by kernel_rfl) (want_0) (oks_drop hS 0 rfl) ?_; intro K hK
  refine ow_call Try.func6 rfl rfl (evs_cons (tmA rfl rfl) <| evs_nil) (rlbits_c a _) ?_
  rintro e w ⟨rfl, hk⟩
  refine ⟨_, rfl, ?_⟩
  replace hS := hS.kept hk
  clear hk
  refine hK _ _ ?_; clear hK K
  refine rg_take 4 rfl rfl (by kernel_rfl) (by kernel_rfl) (by kernel_rfl) (want_0) (fun w hok => x_neq (tmI rfl rfl) (tmI rfl rfl)) ?_
  refine rg_take 5 rfl rfl (by kernel_rfl) (by kernel_rfl) (by kernel_rfl) (want_0) (fun w hok => x_move (tmB rfl rfl)) ?_
  refine gs_rg (tm (t := 10) rfl) (fun hg1_5 => ?_) (fun hg1_5 => ?_)
  · exfalso
    simp at hg1_5
  have hg1_5' := hg1_5; (try simp only [nrm] at hg1_5'); try (exfalso; first | with_reducible exact absurd hg1_5 Bool.false_ne_true | with_reducible exact absurd hg1_5.symm Bool.false_ne_true | omega | (simp at hg1_5; done))
  all_goals
   refine rg_take 6 rfl rfl (by kernel_rfl) (by kernel_rfl) (by kernel_rfl) (want_y rfl rfl rfl rfl (by rw [hg1_5]; rfl)) (fun w hok => x_loadA (cs := [_, _, _]) Try.underlying24 rfl ts_24 (tmP rfl rfl) (rangeB hok 0 rfl rfl)) ?_
   refine rg_take 7 rfl rfl (by kernel_rfl) (by kernel_rfl) (by kernel_rfl) (want_y rfl rfl rfl rfl (by rw [hg1_5]; rfl)) (fun w hok => x_move (tmI rfl rfl)) ?_
   refine rg_take 8 rfl rfl (by kernel_rfl) (by kernel_rfl) (by kernel_rfl) (want_y rfl rfl rfl rfl (by rw [hg1_5]; rfl)) (fun w hok => x_build (bc_takeL (tmA rfl rfl) <| bc_take (tmI rfl rfl) <| bc_nil) (by kernel_rfl)) ?_
   refine rg_take 10 rfl rfl (by kernel_rfl) (by kernel_rfl) (by kernel_rfl) (want_y rfl rfl rfl rfl (by rw [hg1_5]; rfl)) (fun w hok => x_loadA (cs := [_, _, _]) Try.underlying24 rfl ts_24 (tmP rfl rfl) (rangeB hok 0 rfl rfl)) ?_
   refine rg_take 11 rfl rfl (by kernel_rfl) (by kernel_rfl) (by kernel_rfl) (want_y rfl rfl rfl rfl (by rw [hg1_5]; rfl)) (fun w hok => x_move (tmI rfl rfl)) ?_
   refine rg_step 9 rfl (by kernel_rfl) (want_y rfl rfl rfl rfl (by rw [hg1_5]; rfl)) (oks_drop hS 0 rfl) ?_; intro K hK
   refine ow_call Try.func7 rfl rfl (evs_cons (tmA rfl rfl) <| evs_nil) (lright_c a z m _ hl hz) ?_
   rintro e w ⟨rfl, hk⟩
   refine ⟨_, rfl, ?_⟩
   replace hS := hS.kept hk
   clear hk
   refine hK _ _ ?_; clear hK K
   refine rg_step 12 rfl (by kernel_rfl) (want_y rfl rfl rfl rfl (by rw [hg1_5]; rfl)) (oks_drop hS 0 rfl) ?_; intro K hK
   refine ow_call Try.func8 rfl rfl (evs_cons (tmA rfl rfl) <| evs_cons (tmI rfl rfl) <| evs_nil) (rlright_c a z m _ hl hz) ?_
   rintro e w ⟨rfl, hk⟩
   refine ⟨_, rfl, ?_⟩
   replace hS := hS.kept hk
   clear hk
   refine hK _ _ ?_; clear hK K
   refine rg_take 13 rfl rfl (by kernel_rfl) (by kernel_rfl) (by kernel_rfl) (want_y rfl rfl rfl rfl (by rw [hg1_5]; rfl)) (fun w hok => x_bneq Try.underlying4 (tmB rfl rfl) (tmB rfl rfl)) ?_
   refine rg_take 14 rfl rfl (by kernel_rfl) (by kernel_rfl) (by kernel_rfl) (want_0) (fun w hok => x_pickF (tmB rfl rfl) hg1_5 (tmB rfl rfl)) ?_
   refine rg_done (oks_drop hS 0 rfl) (by kernel_rfl) ?_
   refine then_n (hK3 _ _ ?_); clear hK3 K3
   refine cnd (tm rfl) (fun hc0 => ?_) (fun hc0 => ?_)
   · exfalso
     simp at hc0
   try (exfalso; first | with_reducible exact absurd hc0 Bool.false_ne_true | with_reducible exact absurd hc0.symm Bool.false_ne_true | (simp only [nrm] at hc0; omega) | (simp at hc0; done))
   all_goals
    try simp only [nrm] at hc0
    refine wp_skip ?_
    refine then_n (hK2 _ _ ?_); clear hK2 K2
    refine wp_seq_k ?_; intro K4 hK4
    refine rg_startk 0 hS mixed_ ?_
    clear hS; intro w hS
    refine rg_take 0 rfl rfl (by kernel_rfl) (by kernel_rfl) (by kernel_rfl) (want_0) (fun w hok => x_loadA (cs := [_, _, _]) Try.underlying24 rfl ts_24 (tmP rfl rfl) (rangeB hok 0 rfl rfl)) ?_
    refine rg_step 1 rfl (by kernel_rfl) (want_0) (oks_drop hS 0 rfl) ?_; intro K hK
    refine ow_call Try.func9 rfl rfl (evs_cons (tmA rfl rfl) <| evs_nil) (rad_right_c a _) ?_
    rintro e w ⟨rfl, hk⟩
    refine ⟨_, rfl, ?_⟩
    replace hS := hS.kept hk
    clear hk
    refine hK _ _ ?_; clear hK K
    refine rg_take 2 rfl rfl (by kernel_rfl) (by kernel_rfl) (by kernel_rfl) (want_0) (fun w hok => x_not (tmB rfl rfl)) ?_
    refine rg_take 3 rfl rfl (by kernel_rfl) (by kernel_rfl) (by kernel_rfl) (want_0) (fun w hok => x_move (tmB rfl rfl)) ?_
    refine gs_rg (tm (t := 23) rfl) (fun hg3_3 => ?_) (fun hg3_3 => ?_)
    · have hg3_3' := hg3_3; (try simp only [nrm] at hg3_3'); try (exfalso; first | with_reducible exact absurd hg3_3 Bool.false_ne_true | with_reducible exact absurd hg3_3.symm Bool.false_ne_true | omega | (simp at hg3_3; done))
      all_goals
       refine rg_skip 4 rfl rfl (by kernel_rfl) (by kernel_rfl) (by kernel_rfl) (want_n rfl rfl rfl rfl (by rw [hg3_3]; rfl)) ?_
       refine rg_skip 5 rfl rfl (by kernel_rfl) (by kernel_rfl) (by kernel_rfl) (want_n rfl rfl rfl rfl (by rw [hg3_3]; rfl)) ?_
       refine rg_skip 6 rfl rfl (by kernel_rfl) (by kernel_rfl) (by kernel_rfl) (want_n rfl rfl rfl rfl (by rw [hg3_3]; rfl)) ?_
       refine rg_skip 7 rfl rfl (by kernel_rfl) (by kernel_rfl) (by kernel_rfl) (want_n rfl rfl rfl rfl (by rw [hg3_3]; rfl)) ?_
       refine rg_skip 8 rfl rfl (by kernel_rfl) (by kernel_rfl) (by kernel_rfl) (want_n rfl rfl rfl rfl (by rw [hg3_3]; rfl)) ?_
       refine rg_skip 9 rfl rfl (by kernel_rfl) (by kernel_rfl) (by kernel_rfl) (want_n rfl rfl rfl rfl (by rw [hg3_3]; rfl)) ?_
       refine rg_skip 10 rfl rfl (by kernel_rfl) (by kernel_rfl) (by kernel_rfl) (want_n rfl rfl rfl rfl (by rw [hg3_3]; rfl)) ?_
       refine rg_take 11 rfl rfl (by kernel_rfl) (by kernel_rfl) (by kernel_rfl) (want_0) (fun w hok => x_pickT (tmB rfl rfl) hg3_3 ev_c) ?_
       refine rg_take 12 rfl rfl (by kernel_rfl) (by kernel_rfl) (by kernel_rfl) (want_0) (fun w hok => x_move (tmB rfl rfl)) ?_
       refine rg_step 13 rfl (by kernel_rfl) (want_y rfl rfl rfl rfl rfl) (oks_drop hS 0 rfl) ?_; intro K hK
       refine ow_call Try.func12 rfl rfl (evs_nil) (hAw _) ?_
       rintro e w ⟨rfl, hk⟩
       refine ⟨_, rfl, ?_⟩
       replace hS := hS.kept hk
       clear hk
       refine hK _ _ ?_; clear hK K
       refine rg_take 14 rfl rfl (by kernel_rfl) (by kernel_rfl) (by kernel_rfl) (want_0) (fun w hok => x_pickT (tmB rfl rfl) rfl (tmB rfl rfl)) ?_
       refine rg_take 15 rfl rfl (by kernel_rfl) (by kernel_rfl) (by kernel_rfl) (want_0) (fun w hok => x_assign (tmB rfl rfl)) ?_
       refine rg_done (oks_drop hS 0 rfl) (by kernel_rfl) ?_
       refine then_n (hK4 _ _ ?_); clear hK4 K4
       refine wp_ret ?_
       refine ret1 rfl (.tmp rfl (show _ = Value.bool _ from rfl)) ?_
       exact ⟨by simp_all, hS.kp⟩
    have hg3_3' := hg3_3; (try simp only [nrm] at hg3_3'); try (exfalso; first | with_reducible exact absurd hg3_3 Bool.false_ne_true | with_reducible exact absurd hg3_3.symm Bool.false_ne_true | omega | (simp at hg3_3; done))
    all_goals
     refine rg_take 4 rfl rfl (by kernel_rfl) (by kernel_rfl) (by kernel_rfl) (want_y rfl rfl rfl rfl (by rw [hg3_3]; rfl)) (fun w hok => x_loadA (cs := [_, _, _]) Try.underlying24 rfl ts_24 (tmP rfl rfl) (rangeB hok 0 rfl rfl)) ?_
     refine rg_take 5 rfl rfl (by kernel_rfl) (by kernel_rfl) (by kernel_rfl) (want_y rfl rfl rfl rfl (by rw [hg3_3]; rfl)) (fun w hok => x_move (tmI rfl rfl)) ?_
     refine rg_take 7 rfl rfl (by kernel_rfl) (by kernel_rfl) (by kernel_rfl) (want_y rfl rfl rfl rfl (by rw [hg3_3]; rfl)) (fun w hok => x_loadA (cs := [_, _, _]) Try.underlying24 rfl ts_24 (tmP rfl rfl) (rangeB hok 0 rfl rfl)) ?_
     refine rg_take 8 rfl rfl (by kernel_rfl) (by kernel_rfl) (by kernel_rfl) (want_y rfl rfl rfl rfl (by rw [hg3_3]; rfl)) (fun w hok => x_move (tmI rfl rfl)) ?_
     refine rg_step 6 rfl (by kernel_rfl) (want_y rfl rfl rfl rfl (by rw [hg3_3]; rfl)) (oks_drop hS 0 rfl) ?_; intro K hK
     refine ow_call Try.func10 rfl rfl (evs_cons (tmA rfl rfl) <| evs_cons (tmI rfl rfl) <| evs_nil) (lcut_c a z m _ hl hz) ?_
     rintro e w ⟨rfl, hk⟩
     refine ⟨_, rfl, ?_⟩
     replace hS := hS.kept hk
     clear hk
     refine hK _ _ ?_; clear hK K
     refine rg_step 9 rfl (by kernel_rfl) (want_y rfl rfl rfl rfl (by rw [hg3_3]; rfl)) (oks_drop hS 0 rfl) ?_; intro K hK
     refine ow_call Try.func11 rfl rfl (evs_cons (tmA rfl rfl) <| evs_cons (tmI rfl rfl) <| evs_nil) (rcut_c a z m _ hl (by simpa using hg3_3) hz) ?_
     rintro e w ⟨rfl, hk⟩
     refine ⟨_, rfl, ?_⟩
     replace hS := hS.kept hk
     clear hk
     refine hK _ _ ?_; clear hK K
     refine rg_take 10 rfl rfl (by kernel_rfl) (by kernel_rfl) (by kernel_rfl) (want_y rfl rfl rfl rfl (by rw [hg3_3]; rfl)) (fun w hok => x_Aeql (by kernel_rfl) (tmA rfl rfl) (tmA rfl rfl) (eqv_A Try.underlying24 (by kernel_rfl) (fe_cons rfl (pt_1 Try.underlying4 rfl rfl) (pt_1 Try.underlying4 rfl rfl) (eqv_b Try.underlying4) <| fe_cons rfl (pt_1 Try.underlying22 rfl rfl) (pt_1 Try.underlying22 rfl rfl) (eqv_i Try.underlying22) <| fe_cons rfl (pt_1 Try.underlying22 rfl rfl) (pt_1 Try.underlying22 rfl rfl) (eqv_i Try.underlying22) <| fe_nil))) ?_
     refine rg_take 11 rfl rfl (by kernel_rfl) (by kernel_rfl) (by kernel_rfl) (want_0) (fun w hok => x_pickF (tmB rfl rfl) hg3_3 (tmB rfl rfl)) ?_
     refine rg_take 12 rfl rfl (by kernel_rfl) (by kernel_rfl) (by kernel_rfl) (want_0) (fun w hok => x_move (tmB rfl rfl)) ?_
     refine gs_rg (tm (t := 32) rfl) (fun hg3_12 => ?_) (fun hg3_12 => ?_)
     · have hg3_12' := hg3_12; (try simp only [nrm] at hg3_12'); try (exfalso; first | with_reducible exact absurd hg3_12 Bool.false_ne_true | with_reducible exact absurd hg3_12.symm Bool.false_ne_true | omega | (simp at hg3_12; done))
       all_goals
        refine rg_step 13 rfl (by kernel_rfl) (want_y rfl rfl rfl rfl (by rw [hg3_12]; rfl)) (oks_drop hS 0 rfl) ?_; intro K hK
        refine ow_call Try.func12 rfl rfl (evs_nil) (hAw _) ?_
        rintro e w ⟨rfl, hk⟩
        refine ⟨_, rfl, ?_⟩
        replace hS := hS.kept hk
        clear hk
        refine hK _ _ ?_; clear hK K
        refine rg_take 14 rfl rfl (by kernel_rfl) (by kernel_rfl) (by kernel_rfl) (want_0) (fun w hok => x_pickT (tmB rfl rfl) hg3_12 (tmB rfl rfl)) ?_
        refine rg_take 15 rfl rfl (by kernel_rfl) (by kernel_rfl) (by kernel_rfl) (want_0) (fun w hok => x_assign (tmB rfl rfl)) ?_
        refine rg_done (oks_drop hS 0 rfl) (by kernel_rfl) ?_
        refine then_n (hK4 _ _ ?_); clear hK4 K4
        refine wp_ret ?_
        refine ret1 rfl (.tmp rfl (show _ = Value.bool _ from rfl)) ?_
        exact ⟨by simp_all, hS.kp⟩
     have hg3_12' := hg3_12; (try simp only [nrm] at hg3_12'); try (exfalso; first | with_reducible exact absurd hg3_12 Bool.false_ne_true | with_reducible exact absurd hg3_12.symm Bool.false_ne_true | omega | (simp at hg3_12; done))
     all_goals
      refine rg_skip 13 rfl rfl (by kernel_rfl) (by kernel_rfl) (by kernel_rfl) (want_n rfl rfl rfl rfl (by rw [hg3_12]; rfl)) ?_
      refine rg_take 14 rfl rfl (by kernel_rfl) (by kernel_rfl) (by kernel_rfl) (want_0) (fun w hok => x_pickF (tmB rfl rfl) hg3_12 ev_c) ?_
      refine rg_take 15 rfl rfl (by kernel_rfl) (by kernel_rfl) (by kernel_rfl) (want_0) (fun w hok => x_assign (tmB rfl rfl)) ?_
      refine rg_done (oks_drop hS 0 rfl) (by kernel_rfl) ?_
      refine then_n (hK4 _ _ ?_); clear hK4 K4
      refine wp_ret ?_
      refine ret1 rfl (.tmp rfl (show _ = Value.bool _ from rfl)) ?_
      exact ⟨by simp_all, hS.kp⟩
end Go.Proofs.Ytlpapbjnanmdgaa
