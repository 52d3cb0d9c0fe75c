
/- SmoothShares, where something weighs. Conditions: the row is right and something weighs. -/
import Derived.Test.YtchpcijmgnfkfaaSmoothG
namespace Go.Proofs.Ytchpcijmgnfkfaa
open Go.RowKit
namespace SmoothShares
set_option maxRecDepth 100000 in
set_option maxHeartbeats 4000000 in
theorem walk_some (n : Nat) (A : Option Addr) (c : Nat) (l : List Cn) (st : Nat) (w0 : World) (hv : View w0 w0.heap.size A (flat cnV l)) (hl : l.length = n) (hst : st ≤ 255) (hn4 : n ≤ 9223372036854775807)
    (hq0 : 0 < (wfT l n).length) :
    Calls Try.prog 10 #[.slice A n c, .int .u8 (st : Int)] w0 fun e w' => e = .returned (.bool true) ∧ Below w0.heap.size w0 w' := by
  have hS := (St.sv w0).vcons rfl hv
  refine ent (n := 97) Try.func10 rfl rfl ?_
  refine wp_seq_k ?_; intro K1 hK1
  refine wlit ?_
  refine wl_v (x_assign ev_c) ?_
  refine wl_nil ?_
  refine then_n (hK1 _ _ ?_); clear hK1 K1
  refine wp_seq_k ?_; intro K2 hK2
  refine wp_seq_k ?_; intro K3 hK3
  refine wlit ?_
  refine wl_v (x_move (tmS rfl rfl)) ?_
  refine wl_e rfl ?_; intro K hK
  refine ow_call Try.func54 rfl rfl (evs_cons (tmS rfl rfl) <| evs_nil) (right_c n A c l _ (viewV hS.ok 0 rfl) hl hn4) ?_
  rintro e w ⟨b1, rfl, hb1, hk1⟩
  refine ⟨_, rfl, ?_⟩
  replace hS := hS.kept hk1
  clear hk1
  refine hK _ _ ?_; clear hK K
  refine wl_v (x_not (tmB rfl rfl)) ?_
  refine wl_nil ?_
  refine then_n (hK3 _ _ ?_); clear hK3 K3
  refine cnd (tm rfl) (fun hc0 => ?_) (fun hc0 => ?_)
  · try (exfalso; first | with_reducible exact absurd hc0 Bool.false_ne_true | with_reducible exact absurd hc0.symm Bool.false_ne_true | (simp only [nrm] at hc0; omega))
    all_goals
     try simp only [nrm] at hc0
     refine wp_seq_k ?_; intro K4 hK4
     refine wlit ?_
     refine wl_e rfl ?_; intro K hK
     refine ow_call Try.func55 rfl rfl (evs_nil) (awake_c _) ?_
     rintro e w ⟨rfl, hk1⟩
     refine ⟨_, rfl, ?_⟩
     replace hS := hS.kept hk1
     clear hk1
     refine hK _ _ ?_; clear hK K
     refine wl_v (x_assign (tmB rfl rfl)) ?_
     refine wl_nil ?_
     refine then_n (hK4 _ _ ?_); clear hK4 K4
     refine wp_ret ?_
     refine then_r ?_
     refine ret1 rfl (.tmp rfl (show _ = Value.bool _ from rfl)) ?_
     exact ⟨rfl, hS.kp.below⟩
  try simp only [nrm] at hc0
  obtain ⟨hn30, hR, _⟩ := hb1 (by simpa using hc0)
  have hwtd : ∃ wt, wt = wfT l n := ⟨_, rfl⟩
  obtain ⟨wt, hwt⟩ := hwtd
  have hw0 : 0 < wt.length := by rw [hwt]; exact hq0
  have hwn : wt.length ≤ n := by rw [hwt]; exact wfT_le l n
  have hw : ∀ i, i < wt.length → 0 < wOf wt i ∧ wOf wt i ≤ 100 := by
    intro i hi
    rw [hwt] at hi
    obtain ⟨j, hj, e, hp⟩ := wf_mem l n i hi
    unfold wOf; rw [hwt, e]
    exact ⟨hp, (right_all hR j hj).2.2.2.1⟩
  have hs : ∀ i, i < wt.length → 0 ≤ (wt.getD i default).slot ∧ (wt.getD i default).slot ≤ 4095 := by
    intro i hi
    rw [hwt] at hi
    obtain ⟨j, hj, e, hp⟩ := wf_mem l n i hi
    rw [hwt, e]
    exact ⟨(right_all hR j hj).1, (right_all hR j hj).2.1⟩
  have hap := wf_apart hR
  rw [← hwt] at hap
  have hTs : sumW wt = sumF (wOf l) n := by rw [hwt]; exact wf_sum hR
  have hTb := sum_bd hR
  have hT3 : sumW wt ≤ 3000 := by omega
  have hall := right_all hR
  have hslot : ∀ t, slotAt wt t < 4096 := by
    intro t; have := hs _ (best_lt hw0 t); unfold slotAt; omega
  refine wp_skip ?_
  refine then_n (hK2 _ _ ?_); clear hK2 K2
  refine wp_seq_k ?_; intro K5 hK5
  refine wlit ?_
  refine wl_v (x_build (bc_skip (.slice none 0 0) <| bc_nil) (by kernel_rfl)) ?_
  refine wl_e rfl ?_; intro K hK
  refine ow_box hS (tmA rfl rfl) rfl ?_
  clear hS; intro g3_1 w hg3_1 hS
  refine hK _ _ ?_; clear hK K
  refine wl_v (x_assign (tmP rfl rfl)) ?_
  refine wl_nil ?_
  refine then_n (hK5 _ _ ?_); clear hK5 K5
  refine wp_seq_k ?_; intro K6 hK6
  refine wlit ?_
  refine wl_v (x_move (tmS rfl rfl)) ?_
  refine wl_e rfl ?_; intro K hK
  refine ow_call Try.func56 rfl rfl (evs_cons (tmS rfl rfl) <| evs_nil) (to_c n A c l _ (viewV hS.ok 1 rfl) hl (by omega)) ?_
  rintro e w ⟨A2, c2, rfl, hn2, hk2⟩
  refine ⟨_, rfl, ?_⟩
  replace hS := hS.add hk2 hn2 -- +1
  clear hn2 hk2
  refine hK _ _ ?_; clear hK K
  refine wl_v (x_assign (tmS rfl rfl)) ?_
  refine wl_nil ?_
  refine then_n (hK6 _ _ ?_); clear hK6 K6
  refine wp_seq_k ?_; intro K7 hK7
  refine wlit ?_
  refine wl_v (x_assign (ev_cN 0)) ?_
  refine wl_nil ?_
  refine then_n (hK7 _ _ ?_); clear hK7 K7
  refine wp_seq_k ?_; intro K8 hK8
  refine wp_seq_k ?_; intro K9 hK9
  refine wlit ?_
  refine wl_v (x_assign (ev_cN 0)) ?_
  refine wl_nil ?_
  refine then_n (hK9 _ _ ?_); clear hK9 K9
  refine wp_block ?_
  refine lp [7, 8, 23, 24, 25, 26, 27, 28, 29, 30, 31, 32, 33, 34, 35] (fun mz g w => ∃ (k : Nat), mz = n - k ∧ g 8 = .int .i64 (k : Int) ∧ g 7 = .int .i64 (sumF (wOf l) k) ∧ St [] w0 [.row (.slice A2 n c2) 101 4 n (flat cnV l), .blk g3_1 96 [.slice none 0 0], .vw A (flat cnV l)] w ∧ (k ≤ n) ∧ (0 ≤ sumF (wOf l) k ∧ sumF (wOf l) k ≤ 100 * k)) ?_ ?_
  · exact ⟨_, 0, rfl, (by first | rfl | go_num), (by first | rfl | go_num), hS, (by omega), (by first | exact hsk1 | simp [sumF])⟩
  · clear hS; intro mz g w hI
    obtain ⟨k, rfl, hs8, hs7, hS, hk, hsk⟩ := hI
    refine fr_know (d := 8) hs8 ?_; clear hs8
    refine fr_know (d := 7) hs7 ?_; clear hs7
    refine wp_seq_k ?_; intro K10 hK10
    refine wp_seq_k ?_; intro K11 hK11
    refine wlit ?_
    refine wl_v (x_move (tmI rfl rfl)) ?_
    refine wl_v (x_move (tmS rfl rfl)) ?_
    refine wl_v (x_len Try.underlying91 (tmS rfl rfl)) ?_
    refine wl_v (x_lss (tmI rfl rfl) (tmI rfl rfl)) ?_
    refine wl_nil ?_
    refine then_n (hK11 _ _ ?_); clear hK11 K11
    refine cnd (tm rfl) (fun hc1 => ?_) (fun hc1 => ?_)
    · try (exfalso; first | with_reducible exact absurd hc1 Bool.false_ne_true | with_reducible exact absurd hc1.symm Bool.false_ne_true | (simp only [nrm] at hc1; omega))
      all_goals
       try simp only [nrm] at hc1
       obtain ⟨b4, o4, rfl⟩ := view_some hv (by rw [flat_length cnV_len]; omega)
       have hak := hall k (by omega)
       have hsk1 : 0 ≤ sumF (wOf l) (k + 1) ∧ sumF (wOf l) (k + 1) ≤ 100 * ((k + 1 : Nat) : Int) := by
         simp only [sumF]
         show 0 ≤ _ + (l.getD k default).weight ∧ _ + (l.getD k default).weight ≤ _
         omega
       refine wp_skip ?_
       refine then_n (hK10 _ _ ?_); clear hK10 K10
       refine wp_seq_k ?_; intro K12 hK12
       refine wp_block ?_
       refine wlit ?_
       refine wl_v (x_move (tmI rfl rfl)) ?_
       refine wl_v (x_move (tmS rfl rfl)) ?_
       refine wl_v (x_move (tmI rfl rfl)) ?_
       refine wl_v (x_ixs Try.underlying91 ts_100 (tmS rfl rfl) (tmI rfl rfl) (by omega)) ?_
       refine wl_v (x_fa 2 Try.underlying100 rfl rfl ts_3 (tmP rfl rfl)) ?_
       first
        | refine wl_v (x_load Try.underlying3 rfl (tmP rfl rfl) (cellB hS.ok 0 rfl rfl)) ?_
        | refine wl_v (x_load Try.underlying3 rfl (tmP rfl rfl) (cellB hS.ok 1 rfl rfl)) ?_
        | refine wl_v (x_load Try.underlying3 rfl (tmP rfl rfl) (cellB hS.ok 2 rfl rfl)) ?_
        | refine wl_v (x_load Try.underlying3 rfl (tmP rfl rfl) (cellV hS.ok 0 rfl rfl)) ?_
        | refine wl_v (x_load Try.underlying3 rfl (tmP rfl rfl) (cellV hS.ok 0 rfl (getm (by omega)))) ?_
        | refine wl_v (x_load Try.underlying3 rfl (tmP rfl rfl) (cellVs hS.ok 0 rfl (fun _ => rfl) rfl (by omega) rfl)) ?_
        | refine wl_v (x_load Try.underlying3 rfl (tmP rfl rfl) (cellR hS.ok 0 rfl rfl)) ?_
        | refine wl_v (x_load Try.underlying3 rfl (tmP rfl rfl) (cellR hS.ok 0 rfl (getm (by omega)))) ?_
        | refine wl_v (x_load Try.underlying3 rfl (tmP rfl rfl) (cellRs hS.ok 0 rfl (fun _ => rfl) rfl (by omega) rfl)) ?_
        | refine wl_v (x_load Try.underlying3 rfl (tmP rfl rfl) (cellV hS.ok 1 rfl rfl)) ?_
        | refine wl_v (x_load Try.underlying3 rfl (tmP rfl rfl) (cellV hS.ok 1 rfl (getm (by omega)))) ?_
        | refine wl_v (x_load Try.underlying3 rfl (tmP rfl rfl) (cellVs hS.ok 1 rfl (fun _ => rfl) rfl (by omega) rfl)) ?_
        | refine wl_v (x_load Try.underlying3 rfl (tmP rfl rfl) (cellR hS.ok 1 rfl rfl)) ?_
        | refine wl_v (x_load Try.underlying3 rfl (tmP rfl rfl) (cellR hS.ok 1 rfl (getm (by omega)))) ?_
        | refine wl_v (x_load Try.underlying3 rfl (tmP rfl rfl) (cellRs hS.ok 1 rfl (fun _ => rfl) rfl (by omega) rfl)) ?_
        | refine wl_v (x_load Try.underlying3 rfl (tmP rfl rfl) (cellV hS.ok 2 rfl rfl)) ?_
        | refine wl_v (x_load Try.underlying3 rfl (tmP rfl rfl) (cellV hS.ok 2 rfl (getm (by omega)))) ?_
        | refine wl_v (x_load Try.underlying3 rfl (tmP rfl rfl) (cellVs hS.ok 2 rfl (fun _ => rfl) rfl (by omega) rfl)) ?_
        | refine wl_v (x_load Try.underlying3 rfl (tmP rfl rfl) (cellR hS.ok 2 rfl rfl)) ?_
        | refine wl_v (x_load Try.underlying3 rfl (tmP rfl rfl) (cellR hS.ok 2 rfl (getm (by omega)))) ?_
        | refine wl_v (x_load Try.underlying3 rfl (tmP rfl rfl) (cellRs hS.ok 2 rfl (fun _ => rfl) rfl (by omega) rfl)) ?_
       first
        | refine wl_v (x_addN (tmI rfl rfl) (tmI rfl rfl) (fit_i64 (by omega))) ?_
        | refine wl_v (x_addI (tmI rfl rfl) (tmI rfl rfl) (IntWalk.i64_in _ (by omega))) ?_
        | refine wl_v (x_add (tmI rfl rfl) (tmI rfl rfl)) ?_
       refine wl_v (x_assign (tmI rfl rfl)) ?_
       refine wl_nil ?_
       refine inb_n ?_
       refine then_n (hK12 _ _ ?_); clear hK12 K12
       refine wlit ?_
       refine wl_v (x_move (tmI rfl rfl)) ?_
       first
        | refine wl_v (x_addN (tmI rfl rfl) (ev_cN 1) (fit_i64 (by omega))) ?_
        | refine wl_v (x_addI (tmI rfl rfl) (ev_cN 1) (IntWalk.i64_in _ (by omega))) ?_
        | refine wl_v (x_add (tmI rfl rfl) (ev_cN 1)) ?_
       refine wl_v (x_assign (tmI rfl rfl)) ?_
       refine wl_nil ?_
       exact then_n ⟨_, _, rfl, (by show _ < _; omega), (by repeat (first | exact agree_self | exact agree_refl | refine agree_upd rfl ?_ | refine agree_mix rfl ?_)), k + 1, rfl, (by first | rfl | go_num), (by first | rfl | go_num), hS, (by omega), (by first | exact hsk1 | simp [sumF])⟩
    try simp only [nrm] at hc1
    refine wp_exit ?_
    refine then_x ?_; clear hK10 K10
    refine then_x ?_
    refine inb_x ?_
    refine then_n (hK8 _ _ ?_); clear hK8 K8
    refine wp_seq_k ?_; intro K13 hK13
    refine wp_seq_k ?_; intro K14 hK14
    obtain rfl : n = k := by omega
    obtain ⟨T, hT⟩ := Int.eq_ofNat_of_zero_le hTb.1
    rw [hT]
    have hTw : (T : Int) = sumW wt := by rw [hTs, hT]
    have hwin := window hw0 (fun i hi => (hw i hi).1) T hTw
    refine wlit ?_
    refine wl_v (x_assign (ev_cN 0)) ?_
    refine wl_nil ?_
    refine then_n (hK14 _ _ ?_); clear hK14 K14
    refine wp_block ?_
    have hS := hS.nilrow 216 3
    refine lp [9, 36, 37, 38, 39, 40, 41, 42, 43, 44] (fun mz g w => ∃ (t : Nat), ∃ (Ka : Option Addr), ∃ (m ck : Nat), mz = st - t ∧ g 9 = .int .i64 (t : Int) ∧ St [] w0 [.row (.slice Ka m ck) 216 3 m (flat crV (runK wt t)), .blk g3_1 96 [.slice Ka m ck], .row (.slice A2 n c2) 101 4 n (flat cnV l), .vw A (flat cnV l)] w ∧ (t ≤ st) ∧ ((runK wt t).length = m)) ?_ ?_
    · exact ⟨_, 0, none, 0, 0, rfl, (by first | rfl | go_num), (hS.pick [0, 2, 1, 3] rfl rfl), (by omega), (by first | rfl | exact hm1)⟩
    · clear hS; intro mz g w hI
      obtain ⟨t, Ka, m, ck, rfl, hs9, hS, ht, hm⟩ := hI
      refine fr_know (d := 9) hs9 ?_; clear hs9
      refine wp_seq_k ?_; intro K15 hK15
      refine wp_seq_k ?_; intro K16 hK16
      refine wlit ?_
      refine wl_v (x_move (tmI rfl rfl)) ?_
      refine wl_v (x_move (tmI rfl rfl)) ?_
      first
       | refine wl_v (x_convN Try.underlying5 Try.underlying3 (tmI rfl rfl) (fit_i64 (by omega))) ?_
       | refine wl_v (x_conv Try.underlying5 Try.underlying3 (tmI rfl rfl)) ?_
      refine wl_v (x_lss (tmI rfl rfl) (tmI rfl rfl)) ?_
      refine wl_nil ?_
      refine then_n (hK16 _ _ ?_); clear hK16 K16
      refine cnd (tm rfl) (fun hc2 => ?_) (fun hc2 => ?_)
      · try (exfalso; first | with_reducible exact absurd hc2 Bool.false_ne_true | with_reducible exact absurd hc2.symm Bool.false_ne_true | (simp only [nrm] at hc2; omega))
        all_goals
         try simp only [nrm] at hc2
         refine wp_skip ?_
         refine then_n (hK15 _ _ ?_); clear hK15 K15
         refine wp_seq_k ?_; intro K17 hK17
         refine wp_block ?_
         refine wlit ?_
         refine wl_v (x_move (tmP rfl rfl)) ?_
         refine wl_v (x_move (tmS rfl rfl)) ?_
         refine wl_e rfl ?_; intro K hK
         refine ow_call Try.func57 rfl rfl (evs_cons (tmP rfl rfl) <| evs_cons (tmS rfl rfl) <| evs_nil) (pick_c g3_1 Ka m ck (runK wt t) n A2 c2 l _ _ (hS.enter [0, 1] [2] rfl rfl) hl hm (by omega) (by rw [← hwt, runK_start hw0]; exact mild_run hw0 hw hT3 t (by omega)) hq0) ?_
         rintro e w ⟨K2, k2, rfl, hS2⟩
         refine ⟨_, rfl, ?_⟩
         replace hS := hS.leave [0, 1] [2, 3] rfl rfl rfl (hS2.pick [0, 1] rfl rfl) rfl
         clear hS2
         rw [← hwt, runK_start hw0] at hS ⊢
         refine hK _ _ ?_; clear hK K
         refine wl_nil ?_
         refine inb_n ?_
         refine then_n (hK17 _ _ ?_); clear hK17 K17
         refine wlit ?_
         refine wl_v (x_move (tmI rfl rfl)) ?_
         first
          | refine wl_v (x_addN (tmI rfl rfl) (ev_cN 1) (fit_i64 (by omega))) ?_
          | refine wl_v (x_addI (tmI rfl rfl) (ev_cN 1) (IntWalk.i64_in _ (by omega))) ?_
          | refine wl_v (x_add (tmI rfl rfl) (ev_cN 1)) ?_
         refine wl_v (x_assign (tmI rfl rfl)) ?_
         refine wl_nil ?_
         have hm1 : (runK wt (t + 1)).length = wt.length := run_len hw0 (t + 1)
         exact then_n ⟨_, _, rfl, (by show _ < _; omega), (by repeat (first | exact agree_self | exact agree_refl | refine agree_upd rfl ?_ | refine agree_mix rfl ?_)), t + 1, _, _, _, rfl, (by first | rfl | go_num), hS, (by omega), (by first | rfl | exact hm1)⟩
      try simp only [nrm] at hc2
      refine wp_exit ?_
      refine then_x ?_; clear hK15 K15
      refine then_x ?_
      refine inb_x ?_
      refine then_n (hK13 _ _ ?_); clear hK13 K13
      refine wp_seq_k ?_; intro K18 hK18
      obtain rfl : st = t := by omega
      refine wlit ?_
      refine wl_e rfl ?_; intro K hK
      refine ow_make hS Try.underlying53 tz_3 rfl (ev_cN 4096) (ev_cN 4096) rfl (by omega) (by simp only [maxLen]; omega) ?_
      clear hS; intro g14_0 w hg14_0 hS
      refine hK _ _ ?_; clear hK K
      refine wl_v (x_assign (tmS rfl rfl)) ?_
      refine wl_nil ?_
      refine then_n (hK18 _ _ ?_); clear hK18 K18
      refine wp_seq_k ?_; intro K19 hK19
      refine wp_seq_k ?_; intro K20 hK20
      refine wlit ?_
      refine wl_v (x_assign (ev_cN 0)) ?_
      refine wl_nil ?_
      refine then_n (hK20 _ _ ?_); clear hK20 K20
      refine wp_block ?_
      rw [show List.replicate 4096 (Value.int .i64 0) = (cntL wt st 0).map i64v from (List.map_replicate (f := i64v)).symm] at hS
      refine lp [4, 11, 12, 13, 46, 47, 48, 49, 50, 51, 52, 53, 54, 55, 56, 57, 58, 59, 60, 61, 62, 63, 64, 65, 66, 67, 68, 69, 70, 71, 72, 73, 74, 75] (fun mz g w => ∃ (u : Nat), ∃ (Kb : Option Addr), ∃ (m2 ck2 : Nat), mz = T - u ∧ g 11 = .int .i64 (u : Int) ∧ St [] w0 [.row (.slice Kb m2 ck2) 216 3 m2 (flat crV (runK wt (st + u))), .blk g3_1 96 [.slice Kb m2 ck2], .row (.slice A2 n c2) 101 4 n (flat cnV l), .row (.slice (some ⟨g14_0, 0, none⟩) 4096 4096) 3 1 4096 ((cntL wt st u).map i64v), .vw A (flat cnV l)] w ∧ (u ≤ T) ∧ ((runK wt (st + u)).length = m2)) ?_ ?_
      · exact ⟨_, 0, _, _, _, rfl, (by first | rfl | go_num), (hS.pick [1, 2, 3, 0, 4] rfl rfl), (by omega), (by first | exact hm | exact hm3)⟩
      · clear hS; intro mz g w hI
        obtain ⟨u, Kb, m2, ck2, rfl, hs11, hS, hu, hm2⟩ := hI
        refine fr_know (d := 11) hs11 ?_; clear hs11
        refine wp_seq_k ?_; intro K21 hK21
        refine wp_seq_k ?_; intro K22 hK22
        refine wlit ?_
        refine wl_v (x_move (tmI rfl rfl)) ?_
        refine wl_v (x_move (tmI rfl rfl)) ?_
        refine wl_v (x_lss (tmI rfl rfl) (tmI rfl rfl)) ?_
        refine wl_nil ?_
        refine then_n (hK22 _ _ ?_); clear hK22 K22
        refine cnd (tm rfl) (fun hc3 => ?_) (fun hc3 => ?_)
        · try (exfalso; first | with_reducible exact absurd hc3 Bool.false_ne_true | with_reducible exact absurd hc3.symm Bool.false_ne_true | (simp only [nrm] at hc3; omega))
          all_goals
           try simp only [nrm] at hc3
           refine wp_skip ?_
           refine then_n (hK21 _ _ ?_); clear hK21 K21
           refine wp_seq_k ?_; intro K23 hK23
           refine wp_block ?_
           refine wp_seq_k ?_; intro K24 hK24
           refine wlit ?_
           refine wl_v (x_move (tmP rfl rfl)) ?_
           refine wl_v (x_move (tmS rfl rfl)) ?_
           refine wl_e rfl ?_; intro K hK
           refine ow_call Try.func57 rfl rfl (evs_cons (tmP rfl rfl) <| evs_cons (tmS rfl rfl) <| evs_nil) (pick_c g3_1 Kb m2 ck2 (runK wt (st + u)) n A2 c2 l _ _ (hS.enter [0, 1] [2] rfl rfl) hl hm2 (by omega) (by rw [← hwt, runK_start hw0]; exact mild_run hw0 hw hT3 (st + u) (by omega)) hq0) ?_
           rintro e w ⟨K2, k2, rfl, hS2⟩
           refine ⟨_, rfl, ?_⟩
           replace hS := hS.leave [0, 1] [2, 3, 4] rfl rfl rfl (hS2.pick [0, 1] rfl rfl) rfl
           clear hS2
           rw [← hwt, runK_start hw0] at hS ⊢
           have hsb := hs (besP (run wt (st + u)) wt.length) (best_lt hw0 (st + u))
           have hsl : (wt.getD (besP (run wt (st + u)) wt.length) default).slot = ((slotAt wt (st + u) : Nat) : Int) := by
             show _ = (((wt.getD (besP (run wt (st + u)) wt.length) default).slot.toNat : Nat) : Int)
             omega
           have hsl2 := hslot (st + u)
           have hcl := cntL_len wt st u
           have hcb := cntL_bd wt st u (slotAt wt (st + u)) hslot
           refine hK _ _ ?_; clear hK K
           refine wl_v (x_move (tmT rfl rfl)) ?_
           refine wl_v (x_ext (tmT rfl rfl) rfl) ?_
           refine wl_v (x_ext (tmT rfl rfl) rfl) ?_
           refine wl_e rfl ?_; intro K hK
           refine ow_alloc hS tz_101 rfl ?_
           clear hS; intro g18_6 w hg18_6 hS
           refine hK _ _ ?_; clear hK K
           refine wl_e rfl ?_; intro K hK
           refine ow_storeA hS 0 rfl ts_101 (tmP rfl rfl) (tmA rfl rfl) rfl rfl rfl ?_
           clear hS; intro w hS
           refine hK _ _ ?_; clear hK K
           refine wl_v (x_assign (tmB rfl rfl)) ?_
           refine wl_nil ?_
           refine then_n (hK24 _ _ ?_); clear hK24 K24
           refine wp_seq_k ?_; intro K25 hK25
           refine wp_seq_k ?_; intro K26 hK26
           refine wlit ?_
           refine wl_v (x_move (tmB rfl rfl)) ?_
           refine wl_v (x_not (tmB rfl rfl)) ?_
           refine wl_v (x_move (tmB rfl rfl)) ?_
           refine gs_wl (tm (t := 59) rfl) (fun hg19_2 => ?_) (fun hg19_2 => ?_)
           · exfalso
             exact absurd hg19_2 (by decide)
           have hg19_2' := hg19_2; (try simp only [nrm] at hg19_2')
           refine wl_gv (want_y rfl rfl rfl rfl (by rw [hg19_2]; rfl)) (x_fa 0 Try.underlying101 rfl rfl ts_3 (tmP rfl rfl)) ?_
           first
            | refine wl_gv (want_y rfl rfl rfl rfl (by rw [hg19_2]; rfl)) (x_load Try.underlying3 rfl (tmP rfl rfl) (cellB hS.ok 0 rfl rfl)) ?_
            | refine wl_gv (want_y rfl rfl rfl rfl (by rw [hg19_2]; rfl)) (x_load Try.underlying3 rfl (tmP rfl rfl) (cellB hS.ok 0 rfl (getm (by omega)))) ?_
           refine wl_gv (want_y rfl rfl rfl rfl (by rw [hg19_2]; rfl)) (x_lss (tmI rfl rfl) (ev_cN 0)) ?_
           refine wl_v (x_pickF (tmB rfl rfl) hg19_2 (tmB rfl rfl)) ?_
           refine wl_v (x_move (tmB rfl rfl)) ?_
           refine gs_wl (tm (t := 64) rfl) (fun hg19_7 => ?_) (fun hg19_7 => ?_)
           · have hg19_7' := hg19_7; (try simp only [nrm] at hg19_7'); try (exfalso; first | with_reducible exact absurd hg19_7 Bool.false_ne_true | with_reducible exact absurd hg19_7.symm Bool.false_ne_true | omega)
             all_goals
              refine wl_s rfl (want_n rfl rfl rfl rfl (by rw [hg19_7]; rfl)) ?_
              refine wl_s rfl (want_n rfl rfl rfl rfl (by rw [hg19_7]; rfl)) ?_
              refine wl_s rfl (want_n rfl rfl rfl rfl (by rw [hg19_7]; rfl)) ?_
              refine wl_v (x_pickT (tmB rfl rfl) hg19_7 ev_c) ?_
              refine wl_nil ?_
              refine then_n (hK26 _ _ ?_); clear hK26 K26
              refine cnd_t (tmB rfl rfl) rfl ?_
              refine wp_seq_k ?_; intro K27 hK27
              refine wlit ?_
              refine wl_v (x_assign ev_c) ?_
              refine wl_nil ?_
              refine then_n (hK27 _ _ ?_); clear hK27 K27
              refine wp_ret ?_
              refine then_r ?_
              refine inb_r ?_
              refine then_r ?_
              refine then_r ?_
              refine inb_r ?_
              refine then_r ?_
              refine ret1 rfl (.tmp rfl (show _ = Value.bool _ from rfl)) ?_
              exact ⟨rfl, hS.kp.below⟩
           have hg19_7' := hg19_7; (try simp only [nrm] at hg19_7')
           refine wl_gv (want_y rfl rfl rfl rfl (by rw [hg19_7]; rfl)) (x_fa 0 Try.underlying101 rfl rfl ts_3 (tmP rfl rfl)) ?_
           first
            | refine wl_gv (want_y rfl rfl rfl rfl (by rw [hg19_7]; rfl)) (x_load Try.underlying3 rfl (tmP rfl rfl) (cellB hS.ok 0 rfl rfl)) ?_
            | refine wl_gv (want_y rfl rfl rfl rfl (by rw [hg19_7]; rfl)) (x_load Try.underlying3 rfl (tmP rfl rfl) (cellB hS.ok 0 rfl (getm (by omega)))) ?_
           refine wl_gv (want_y rfl rfl rfl rfl (by rw [hg19_7]; rfl)) (x_gtr (tmI rfl rfl) (ev_cN 4095)) ?_
           refine wl_v (x_pickF (tmB rfl rfl) hg19_7 (tmB rfl rfl)) ?_
           refine wl_nil ?_
           refine then_n (hK26 _ _ ?_); clear hK26 K26
           refine cnd (tm rfl) (fun hc4 => ?_) (fun hc4 => ?_)
           · try (exfalso; first | with_reducible exact absurd hc4 Bool.false_ne_true | with_reducible exact absurd hc4.symm Bool.false_ne_true | (simp only [nrm] at hc4; omega))
             all_goals
              try simp only [nrm] at hc4
              refine wp_seq_k ?_; intro K28 hK28
              refine wlit ?_
              refine wl_v (x_assign ev_c) ?_
              refine wl_nil ?_
              refine then_n (hK28 _ _ ?_); clear hK28 K28
              refine wp_ret ?_
              refine then_r ?_
              refine inb_r ?_
              refine then_r ?_
              refine then_r ?_
              refine inb_r ?_
              refine then_r ?_
              refine ret1 rfl (.tmp rfl (show _ = Value.bool _ from rfl)) ?_
              exact ⟨rfl, hS.kp.below⟩
           try simp only [nrm] at hc4
           refine wp_skip ?_
           refine then_n (hK25 _ _ ?_); clear hK25 K25
           refine wlit ?_
           refine wl_v (x_move (tmS rfl rfl)) ?_
           refine wl_v (x_fa 0 Try.underlying101 rfl rfl ts_3 (tmP rfl rfl)) ?_
           first
            | refine wl_v (x_load Try.underlying3 rfl (tmP rfl rfl) (cellB hS.ok 0 rfl rfl)) ?_
            | refine wl_v (x_load Try.underlying3 rfl (tmP rfl rfl) (cellB hS.ok 0 rfl (getm (by omega)))) ?_
           refine wl_v (x_ixs1 Try.underlying53 ts_3 (tmS rfl rfl) (tmI rfl (congrArg (Value.int .i64) hsl)) (by omega)) ?_
           first
            | refine wl_v (x_load Try.underlying3 rfl (tmP rfl rfl) (cellB hS.ok 0 rfl rfl)) ?_
            | refine wl_v (x_load Try.underlying3 rfl (tmP rfl rfl) (cellB hS.ok 1 rfl rfl)) ?_
            | refine wl_v (x_load Try.underlying3 rfl (tmP rfl rfl) (cellB hS.ok 2 rfl rfl)) ?_
            | refine wl_v (x_load Try.underlying3 rfl (tmP rfl rfl) (cellB hS.ok 3 rfl rfl)) ?_
            | refine wl_v (x_load Try.underlying3 rfl (tmP rfl rfl) (cellB hS.ok 4 rfl rfl)) ?_
            | refine wl_v (x_load Try.underlying3 rfl (tmP rfl rfl) (cellB hS.ok 5 rfl rfl)) ?_
            | refine wl_v (x_load Try.underlying3 rfl (tmP rfl rfl) (cellV hS.ok 0 rfl rfl)) ?_
            | refine wl_v (x_load Try.underlying3 rfl (tmP rfl rfl) (cellV hS.ok 0 rfl (getm (by omega)))) ?_
            | refine wl_v (x_load Try.underlying3 rfl (tmP rfl rfl) (cellVs hS.ok 0 rfl (fun _ => rfl) rfl (by omega) rfl)) ?_
            | refine wl_v (x_load Try.underlying3 rfl (tmP rfl rfl) (cellR hS.ok 0 rfl rfl)) ?_
            | refine wl_v (x_load Try.underlying3 rfl (tmP rfl rfl) (cellR hS.ok 0 rfl (getm (by omega)))) ?_
            | refine wl_v (x_load Try.underlying3 rfl (tmP rfl rfl) (cellRs hS.ok 0 rfl (fun _ => rfl) rfl (by omega) rfl)) ?_
            | refine wl_v (x_load Try.underlying3 rfl (tmP rfl rfl) (cellV hS.ok 1 rfl rfl)) ?_
            | refine wl_v (x_load Try.underlying3 rfl (tmP rfl rfl) (cellV hS.ok 1 rfl (getm (by omega)))) ?_
            | refine wl_v (x_load Try.underlying3 rfl (tmP rfl rfl) (cellVs hS.ok 1 rfl (fun _ => rfl) rfl (by omega) rfl)) ?_
            | refine wl_v (x_load Try.underlying3 rfl (tmP rfl rfl) (cellR hS.ok 1 rfl rfl)) ?_
            | refine wl_v (x_load Try.underlying3 rfl (tmP rfl rfl) (cellR hS.ok 1 rfl (getm (by omega)))) ?_
            | refine wl_v (x_load Try.underlying3 rfl (tmP rfl rfl) (cellRs hS.ok 1 rfl (fun _ => rfl) rfl (by omega) rfl)) ?_
            | refine wl_v (x_load Try.underlying3 rfl (tmP rfl rfl) (cellV hS.ok 2 rfl rfl)) ?_
            | refine wl_v (x_load Try.underlying3 rfl (tmP rfl rfl) (cellV hS.ok 2 rfl (getm (by omega)))) ?_
            | refine wl_v (x_load Try.underlying3 rfl (tmP rfl rfl) (cellVs hS.ok 2 rfl (fun _ => rfl) rfl (by omega) rfl)) ?_
            | refine wl_v (x_load Try.underlying3 rfl (tmP rfl rfl) (cellR hS.ok 2 rfl rfl)) ?_
            | refine wl_v (x_load Try.underlying3 rfl (tmP rfl rfl) (cellR hS.ok 2 rfl (getm (by omega)))) ?_
            | refine wl_v (x_load Try.underlying3 rfl (tmP rfl rfl) (cellRs hS.ok 2 rfl (fun _ => rfl) rfl (by omega) rfl)) ?_
            | refine wl_v (x_load Try.underlying3 rfl (tmP rfl rfl) (cellV hS.ok 3 rfl rfl)) ?_
            | refine wl_v (x_load Try.underlying3 rfl (tmP rfl rfl) (cellV hS.ok 3 rfl (getm (by omega)))) ?_
            | refine wl_v (x_load Try.underlying3 rfl (tmP rfl rfl) (cellVs hS.ok 3 rfl (fun _ => rfl) rfl (by omega) rfl)) ?_
            | refine wl_v (x_load Try.underlying3 rfl (tmP rfl rfl) (cellR hS.ok 3 rfl rfl)) ?_
            | refine wl_v (x_load Try.underlying3 rfl (tmP rfl rfl) (cellR hS.ok 3 rfl (getm (by omega)))) ?_
            | refine wl_v (x_load Try.underlying3 rfl (tmP rfl rfl) (cellRs hS.ok 3 rfl (fun _ => rfl) rfl (by omega) rfl)) ?_
            | refine wl_v (x_load Try.underlying3 rfl (tmP rfl rfl) (cellV hS.ok 4 rfl rfl)) ?_
            | refine wl_v (x_load Try.underlying3 rfl (tmP rfl rfl) (cellV hS.ok 4 rfl (getm (by omega)))) ?_
            | refine wl_v (x_load Try.underlying3 rfl (tmP rfl rfl) (cellVs hS.ok 4 rfl (fun _ => rfl) rfl (by omega) rfl)) ?_
            | refine wl_v (x_load Try.underlying3 rfl (tmP rfl rfl) (cellR hS.ok 4 rfl rfl)) ?_
            | refine wl_v (x_load Try.underlying3 rfl (tmP rfl rfl) (cellR hS.ok 4 rfl (getm (by omega)))) ?_
            | refine wl_v (x_load Try.underlying3 rfl (tmP rfl rfl) (cellRs hS.ok 4 rfl (fun _ => rfl) rfl (by omega) rfl)) ?_
            | refine wl_v (x_load Try.underlying3 rfl (tmP rfl rfl) (cellV hS.ok 5 rfl rfl)) ?_
            | refine wl_v (x_load Try.underlying3 rfl (tmP rfl rfl) (cellV hS.ok 5 rfl (getm (by omega)))) ?_
            | refine wl_v (x_load Try.underlying3 rfl (tmP rfl rfl) (cellVs hS.ok 5 rfl (fun _ => rfl) rfl (by omega) rfl)) ?_
            | refine wl_v (x_load Try.underlying3 rfl (tmP rfl rfl) (cellR hS.ok 5 rfl rfl)) ?_
            | refine wl_v (x_load Try.underlying3 rfl (tmP rfl rfl) (cellR hS.ok 5 rfl (getm (by omega)))) ?_
            | refine wl_v (x_load Try.underlying3 rfl (tmP rfl rfl) (cellRs hS.ok 5 rfl (fun _ => rfl) rfl (by omega) rfl)) ?_
           first
            | refine wl_v (x_addN (tmI rfl rfl) (ev_cN 1) (fit_i64 (by omega))) ?_
            | refine wl_v (x_addI (tmI rfl rfl) (ev_cN 1) (IntWalk.i64_in _ (by omega))) ?_
            | refine wl_v (x_add (tmI rfl rfl) (ev_cN 1)) ?_
           refine wl_v (x_ixs1 Try.underlying53 ts_3 (tmS rfl rfl) (tmI rfl (congrArg (Value.int .i64) hsl)) (by omega)) ?_
           refine wl_e rfl ?_; intro K hK
           first
            | refine ow_store hS 1 rfl ts_3 (tmP rfl rfl) (tmI rfl rfl) rfl rfl ?_
            | refine ow_storeX hS 1 rfl ts_3 (tmP rfl rfl) (tmI rfl rfl) rfl (by simp; omega) ?_
            | refine ow_storeRs hS 1 rfl ts_3 (tmP rfl rfl) (tmI rfl rfl) rfl (by first | omega | (simp; omega)) ?_
            | refine ow_storeR hS 1 rfl ts_3 (tmP rfl rfl) (tmI rfl rfl) rfl (by first | omega | (simp; omega)) ?_
            | refine ow_store hS 3 rfl ts_3 (tmP rfl rfl) (tmI rfl rfl) rfl rfl ?_
            | refine ow_storeX hS 3 rfl ts_3 (tmP rfl rfl) (tmI rfl rfl) rfl (by simp; omega) ?_
            | refine ow_storeRs hS 3 rfl ts_3 (tmP rfl rfl) (tmI rfl rfl) rfl (by first | omega | (simp; omega)) ?_
            | refine ow_storeR hS 3 rfl ts_3 (tmP rfl rfl) (tmI rfl rfl) rfl (by first | omega | (simp; omega)) ?_
            | refine ow_store hS 4 rfl ts_3 (tmP rfl rfl) (tmI rfl rfl) rfl rfl ?_
            | refine ow_storeX hS 4 rfl ts_3 (tmP rfl rfl) (tmI rfl rfl) rfl (by simp; omega) ?_
            | refine ow_storeRs hS 4 rfl ts_3 (tmP rfl rfl) (tmI rfl rfl) rfl (by first | omega | (simp; omega)) ?_
            | refine ow_storeR hS 4 rfl ts_3 (tmP rfl rfl) (tmI rfl rfl) rfl (by first | omega | (simp; omega)) ?_
           clear hS; intro w hS
           refine hK _ _ ?_; clear hK K
           refine wl_nil ?_
           rw [show ((cntL wt st u).map i64v).set (slotAt wt (st + u)) (.int .i64 ((cntL wt st u).getD (slotAt wt (st + u)) 0 + ((1 : Nat) : Int))) = (cntL wt st (u + 1)).map i64v from by simp only [cntL]; rw [List.map_set]; rfl] at hS
           refine inb_n ?_
           refine then_n (hK23 _ _ ?_); clear hK23 K23
           refine wlit ?_
           refine wl_v (x_move (tmI rfl rfl)) ?_
           first
            | refine wl_v (x_addN (tmI rfl rfl) (ev_cN 1) (fit_i64 (by omega))) ?_
            | refine wl_v (x_addI (tmI rfl rfl) (ev_cN 1) (IntWalk.i64_in _ (by omega))) ?_
            | refine wl_v (x_add (tmI rfl rfl) (ev_cN 1)) ?_
           refine wl_v (x_assign (tmI rfl rfl)) ?_
           refine wl_nil ?_
           have hm3 : (runK wt (st + (u + 1))).length = wt.length := run_len hw0 (st + u + 1)
           exact then_n ⟨_, _, rfl, (by show _ < _; omega), (by repeat (first | exact agree_self | exact agree_refl | refine agree_upd rfl ?_ | refine agree_mix rfl ?_)), u + 1, _, _, _, rfl, (by first | rfl | go_num), (hS.pick [1, 2, 3, 4, 5] rfl rfl), (by omega), (by first | exact hm | exact hm3)⟩
        try simp only [nrm] at hc3
        refine wp_exit ?_
        refine then_x ?_; clear hK21 K21
        refine then_x ?_
        refine inb_x ?_
        refine then_n (hK19 _ _ ?_); clear hK19 K19
        refine wp_seq_k ?_; intro K29 hK29
        refine wp_seq_k ?_; intro K30 hK30
        obtain rfl : T = u := by omega
        have hcw : ∀ k, k < n → (cntL wt st T).getD (l.getD k default).slot.toNat 0 = (l.getD k default).weight := by
          intro k hk
          have hak := hall k hk
          by_cases hp : 0 < (l.getD k default).weight
          · obtain ⟨i, hi, e⟩ := wf_has l n k hk hp
            rw [← hwt] at hi e
            have h1 := hits_in hw0 hs hap st T i hi
            rw [hwin st i hi, e] at h1
            rw [h1]; unfold wOf; rw [e]
          · rw [hits_out hw0 hs st T _ (fun i hi he => ?_)]
            · omega
            · rw [hwt] at hi
              obtain ⟨j, hj, e, hp'⟩ := wf_mem l n i hi
              rw [hwt, e] at he
              have haj := hall j hj
              rcases Nat.lt_trichotomy j k with h | h | h
              · have := right_inc hR j k h hk; omega
              · subst h; omega
              · have := right_inc hR k j h hj; omega
        refine wlit ?_
        refine wl_v (x_assign (ev_cN 0)) ?_
        refine wl_nil ?_
        refine then_n (hK30 _ _ ?_); clear hK30 K30
        refine wp_block ?_
        refine lp [4, 14, 76, 77, 78, 79, 80, 81, 82, 83, 84, 85, 86, 87, 88, 89, 90, 91, 92, 93, 94, 95] (fun mz g w => ∃ (k : Nat), mz = n - k ∧ g 14 = .int .i64 (k : Int) ∧ St [] w0 [.row (.slice (some ⟨g14_0, 0, none⟩) 4096 4096) 3 1 4096 ((cntL wt st T).map i64v), .vw A (flat cnV l)] w ∧ (k ≤ n)) ?_ ?_
        · exact ⟨_, 0, rfl, (by first | rfl | go_num), (hS.pick [3, 4] rfl rfl), (by omega)⟩
        · clear hS; intro mz g w hI
          obtain ⟨k, rfl, hs14, hS, hk⟩ := hI
          refine fr_know (d := 14) hs14 ?_; clear hs14
          refine wp_seq_k ?_; intro K31 hK31
          refine wp_seq_k ?_; intro K32 hK32
          refine wlit ?_
          refine wl_v (x_move (tmI rfl rfl)) ?_
          refine wl_v (x_move (tmS rfl rfl)) ?_
          refine wl_v (x_len Try.underlying91 (tmS rfl rfl)) ?_
          refine wl_v (x_lss (tmI rfl rfl) (tmI rfl rfl)) ?_
          refine wl_nil ?_
          refine then_n (hK32 _ _ ?_); clear hK32 K32
          refine cnd (tm rfl) (fun hc5 => ?_) (fun hc5 => ?_)
          · try (exfalso; first | with_reducible exact absurd hc5 Bool.false_ne_true | with_reducible exact absurd hc5.symm Bool.false_ne_true | (simp only [nrm] at hc5; omega))
            all_goals
             try simp only [nrm] at hc5
             obtain ⟨b4, o4, rfl⟩ := view_some hv (by rw [flat_length cnV_len]; omega)
             have hak := hall k (by omega)
             have hsk : (l.getD k default).slot = (((l.getD k default).slot.toNat : Nat) : Int) := by omega
             have hcl := cntL_len wt st T
             have hck := hcw k (by omega)
             refine wp_skip ?_
             refine then_n (hK31 _ _ ?_); clear hK31 K31
             refine wp_seq_k ?_; intro K33 hK33
             refine wp_block ?_
             refine wp_seq_k ?_; intro K34 hK34
             refine rg_startk 0 hS mixed_ ?_
             clear hS; intro w hS
             refine rg_take 0 rfl rfl (by kernel_rfl) (by kernel_rfl) (by kernel_rfl) (want_0) (fun w hok => x_move (tmS rfl rfl)) ?_
             refine rg_take 1 rfl rfl (by kernel_rfl) (by kernel_rfl) (by kernel_rfl) (want_0) (fun w hok => x_move (tmS rfl rfl)) ?_
             refine rg_take 2 rfl rfl (by kernel_rfl) (by kernel_rfl) (by kernel_rfl) (want_0) (fun w hok => x_move (tmI rfl rfl)) ?_
             refine rg_take 3 rfl rfl (by kernel_rfl) (by kernel_rfl) (by kernel_rfl) (want_0) (fun w hok => x_ixs Try.underlying91 ts_100 (tmS rfl rfl) (tmI rfl rfl) (by omega)) ?_
             refine rg_take 4 rfl rfl (by kernel_rfl) (by kernel_rfl) (by kernel_rfl) (want_0) (fun w hok => x_fa 0 Try.underlying100 rfl rfl ts_3 (tmP rfl rfl)) ?_
             first
              | refine rg_take 5 rfl rfl (by kernel_rfl) (by kernel_rfl) (by kernel_rfl) (want_0) (fun w hok => x_load Try.underlying3 rfl (tmP rfl rfl) (cellB hok 0 rfl rfl)) ?_
              | refine rg_take 5 rfl rfl (by kernel_rfl) (by kernel_rfl) (by kernel_rfl) (want_0) (fun w hok => x_load Try.underlying3 rfl (tmP rfl rfl) (cellB hok 1 rfl rfl)) ?_
              | refine rg_take 5 rfl rfl (by kernel_rfl) (by kernel_rfl) (by kernel_rfl) (want_0) (fun w hok => x_load Try.underlying3 rfl (tmP rfl rfl) (cellV hok 0 rfl rfl)) ?_
              | refine rg_take 5 rfl rfl (by kernel_rfl) (by kernel_rfl) (by kernel_rfl) (want_0) (fun w hok => x_load Try.underlying3 rfl (tmP rfl rfl) (cellV hok 0 rfl (getm (by omega)))) ?_
              | refine rg_take 5 rfl rfl (by kernel_rfl) (by kernel_rfl) (by kernel_rfl) (want_0) (fun w hok => x_load Try.underlying3 rfl (tmP rfl rfl) (cellVs hok 0 rfl (fun _ => rfl) rfl (by omega) rfl)) ?_
              | refine rg_take 5 rfl rfl (by kernel_rfl) (by kernel_rfl) (by kernel_rfl) (want_0) (fun w hok => x_load Try.underlying3 rfl (tmP rfl rfl) (cellR hok 0 rfl rfl)) ?_
              | refine rg_take 5 rfl rfl (by kernel_rfl) (by kernel_rfl) (by kernel_rfl) (want_0) (fun w hok => x_load Try.underlying3 rfl (tmP rfl rfl) (cellR hok 0 rfl (getm (by omega)))) ?_
              | refine rg_take 5 rfl rfl (by kernel_rfl) (by kernel_rfl) (by kernel_rfl) (want_0) (fun w hok => x_load Try.underlying3 rfl (tmP rfl rfl) (cellRs hok 0 rfl (fun _ => rfl) rfl (by omega) rfl)) ?_
              | refine rg_take 5 rfl rfl (by kernel_rfl) (by kernel_rfl) (by kernel_rfl) (want_0) (fun w hok => x_load Try.underlying3 rfl (tmP rfl rfl) (cellV hok 1 rfl rfl)) ?_
              | refine rg_take 5 rfl rfl (by kernel_rfl) (by kernel_rfl) (by kernel_rfl) (want_0) (fun w hok => x_load Try.underlying3 rfl (tmP rfl rfl) (cellV hok 1 rfl (getm (by omega)))) ?_
              | refine rg_take 5 rfl rfl (by kernel_rfl) (by kernel_rfl) (by kernel_rfl) (want_0) (fun w hok => x_load Try.underlying3 rfl (tmP rfl rfl) (cellVs hok 1 rfl (fun _ => rfl) rfl (by omega) rfl)) ?_
              | refine rg_take 5 rfl rfl (by kernel_rfl) (by kernel_rfl) (by kernel_rfl) (want_0) (fun w hok => x_load Try.underlying3 rfl (tmP rfl rfl) (cellR hok 1 rfl rfl)) ?_
              | refine rg_take 5 rfl rfl (by kernel_rfl) (by kernel_rfl) (by kernel_rfl) (want_0) (fun w hok => x_load Try.underlying3 rfl (tmP rfl rfl) (cellR hok 1 rfl (getm (by omega)))) ?_
              | refine rg_take 5 rfl rfl (by kernel_rfl) (by kernel_rfl) (by kernel_rfl) (want_0) (fun w hok => x_load Try.underlying3 rfl (tmP rfl rfl) (cellRs hok 1 rfl (fun _ => rfl) rfl (by omega) rfl)) ?_
             refine rg_take 6 rfl rfl (by kernel_rfl) (by kernel_rfl) (by kernel_rfl) (want_0) (fun w hok => x_ixs1 Try.underlying53 ts_3 (tmS rfl rfl) (tmI rfl (congrArg (Value.int .i64) hsk)) (by omega)) ?_
             first
              | refine rg_take 7 rfl rfl (by kernel_rfl) (by kernel_rfl) (by kernel_rfl) (want_0) (fun w hok => x_load Try.underlying3 rfl (tmP rfl rfl) (cellB hok 0 rfl rfl)) ?_
              | refine rg_take 7 rfl rfl (by kernel_rfl) (by kernel_rfl) (by kernel_rfl) (want_0) (fun w hok => x_load Try.underlying3 rfl (tmP rfl rfl) (cellB hok 1 rfl rfl)) ?_
              | refine rg_take 7 rfl rfl (by kernel_rfl) (by kernel_rfl) (by kernel_rfl) (want_0) (fun w hok => x_load Try.underlying3 rfl (tmP rfl rfl) (cellV hok 0 rfl rfl)) ?_
              | refine rg_take 7 rfl rfl (by kernel_rfl) (by kernel_rfl) (by kernel_rfl) (want_0) (fun w hok => x_load Try.underlying3 rfl (tmP rfl rfl) (cellV hok 0 rfl (getm (by omega)))) ?_
              | refine rg_take 7 rfl rfl (by kernel_rfl) (by kernel_rfl) (by kernel_rfl) (want_0) (fun w hok => x_load Try.underlying3 rfl (tmP rfl rfl) (cellVs hok 0 rfl (fun _ => rfl) rfl (by omega) rfl)) ?_
              | refine rg_take 7 rfl rfl (by kernel_rfl) (by kernel_rfl) (by kernel_rfl) (want_0) (fun w hok => x_load Try.underlying3 rfl (tmP rfl rfl) (cellR hok 0 rfl rfl)) ?_
              | refine rg_take 7 rfl rfl (by kernel_rfl) (by kernel_rfl) (by kernel_rfl) (want_0) (fun w hok => x_load Try.underlying3 rfl (tmP rfl rfl) (cellR hok 0 rfl (getm (by omega)))) ?_
              | refine rg_take 7 rfl rfl (by kernel_rfl) (by kernel_rfl) (by kernel_rfl) (want_0) (fun w hok => x_load Try.underlying3 rfl (tmP rfl rfl) (cellRs hok 0 rfl (fun _ => rfl) rfl (by omega) rfl)) ?_
              | refine rg_take 7 rfl rfl (by kernel_rfl) (by kernel_rfl) (by kernel_rfl) (want_0) (fun w hok => x_load Try.underlying3 rfl (tmP rfl rfl) (cellV hok 1 rfl rfl)) ?_
              | refine rg_take 7 rfl rfl (by kernel_rfl) (by kernel_rfl) (by kernel_rfl) (want_0) (fun w hok => x_load Try.underlying3 rfl (tmP rfl rfl) (cellV hok 1 rfl (getm (by omega)))) ?_
              | refine rg_take 7 rfl rfl (by kernel_rfl) (by kernel_rfl) (by kernel_rfl) (want_0) (fun w hok => x_load Try.underlying3 rfl (tmP rfl rfl) (cellVs hok 1 rfl (fun _ => rfl) rfl (by omega) rfl)) ?_
              | refine rg_take 7 rfl rfl (by kernel_rfl) (by kernel_rfl) (by kernel_rfl) (want_0) (fun w hok => x_load Try.underlying3 rfl (tmP rfl rfl) (cellR hok 1 rfl rfl)) ?_
              | refine rg_take 7 rfl rfl (by kernel_rfl) (by kernel_rfl) (by kernel_rfl) (want_0) (fun w hok => x_load Try.underlying3 rfl (tmP rfl rfl) (cellR hok 1 rfl (getm (by omega)))) ?_
              | refine rg_take 7 rfl rfl (by kernel_rfl) (by kernel_rfl) (by kernel_rfl) (want_0) (fun w hok => x_load Try.underlying3 rfl (tmP rfl rfl) (cellRs hok 1 rfl (fun _ => rfl) rfl (by omega) rfl)) ?_
             refine rg_take 8 rfl rfl (by kernel_rfl) (by kernel_rfl) (by kernel_rfl) (want_0) (fun w hok => x_move (tmS rfl rfl)) ?_
             refine rg_take 9 rfl rfl (by kernel_rfl) (by kernel_rfl) (by kernel_rfl) (want_0) (fun w hok => x_move (tmI rfl rfl)) ?_
             refine rg_take 10 rfl rfl (by kernel_rfl) (by kernel_rfl) (by kernel_rfl) (want_0) (fun w hok => x_ixs Try.underlying91 ts_100 (tmS rfl rfl) (tmI rfl rfl) (by omega)) ?_
             refine rg_take 11 rfl rfl (by kernel_rfl) (by kernel_rfl) (by kernel_rfl) (want_0) (fun w hok => x_fa 2 Try.underlying100 rfl rfl ts_3 (tmP rfl rfl)) ?_
             first
              | refine rg_take 12 rfl rfl (by kernel_rfl) (by kernel_rfl) (by kernel_rfl) (want_0) (fun w hok => x_load Try.underlying3 rfl (tmP rfl rfl) (cellB hok 0 rfl rfl)) ?_
              | refine rg_take 12 rfl rfl (by kernel_rfl) (by kernel_rfl) (by kernel_rfl) (want_0) (fun w hok => x_load Try.underlying3 rfl (tmP rfl rfl) (cellB hok 1 rfl rfl)) ?_
              | refine rg_take 12 rfl rfl (by kernel_rfl) (by kernel_rfl) (by kernel_rfl) (want_0) (fun w hok => x_load Try.underlying3 rfl (tmP rfl rfl) (cellV hok 0 rfl rfl)) ?_
              | refine rg_take 12 rfl rfl (by kernel_rfl) (by kernel_rfl) (by kernel_rfl) (want_0) (fun w hok => x_load Try.underlying3 rfl (tmP rfl rfl) (cellV hok 0 rfl (getm (by omega)))) ?_
              | refine rg_take 12 rfl rfl (by kernel_rfl) (by kernel_rfl) (by kernel_rfl) (want_0) (fun w hok => x_load Try.underlying3 rfl (tmP rfl rfl) (cellVs hok 0 rfl (fun _ => rfl) rfl (by omega) rfl)) ?_
              | refine rg_take 12 rfl rfl (by kernel_rfl) (by kernel_rfl) (by kernel_rfl) (want_0) (fun w hok => x_load Try.underlying3 rfl (tmP rfl rfl) (cellR hok 0 rfl rfl)) ?_
              | refine rg_take 12 rfl rfl (by kernel_rfl) (by kernel_rfl) (by kernel_rfl) (want_0) (fun w hok => x_load Try.underlying3 rfl (tmP rfl rfl) (cellR hok 0 rfl (getm (by omega)))) ?_
              | refine rg_take 12 rfl rfl (by kernel_rfl) (by kernel_rfl) (by kernel_rfl) (want_0) (fun w hok => x_load Try.underlying3 rfl (tmP rfl rfl) (cellRs hok 0 rfl (fun _ => rfl) rfl (by omega) rfl)) ?_
              | refine rg_take 12 rfl rfl (by kernel_rfl) (by kernel_rfl) (by kernel_rfl) (want_0) (fun w hok => x_load Try.underlying3 rfl (tmP rfl rfl) (cellV hok 1 rfl rfl)) ?_
              | refine rg_take 12 rfl rfl (by kernel_rfl) (by kernel_rfl) (by kernel_rfl) (want_0) (fun w hok => x_load Try.underlying3 rfl (tmP rfl rfl) (cellV hok 1 rfl (getm (by omega)))) ?_
              | refine rg_take 12 rfl rfl (by kernel_rfl) (by kernel_rfl) (by kernel_rfl) (want_0) (fun w hok => x_load Try.underlying3 rfl (tmP rfl rfl) (cellVs hok 1 rfl (fun _ => rfl) rfl (by omega) rfl)) ?_
              | refine rg_take 12 rfl rfl (by kernel_rfl) (by kernel_rfl) (by kernel_rfl) (want_0) (fun w hok => x_load Try.underlying3 rfl (tmP rfl rfl) (cellR hok 1 rfl rfl)) ?_
              | refine rg_take 12 rfl rfl (by kernel_rfl) (by kernel_rfl) (by kernel_rfl) (want_0) (fun w hok => x_load Try.underlying3 rfl (tmP rfl rfl) (cellR hok 1 rfl (getm (by omega)))) ?_
              | refine rg_take 12 rfl rfl (by kernel_rfl) (by kernel_rfl) (by kernel_rfl) (want_0) (fun w hok => x_load Try.underlying3 rfl (tmP rfl rfl) (cellRs hok 1 rfl (fun _ => rfl) rfl (by omega) rfl)) ?_
             refine rg_take 13 rfl rfl (by kernel_rfl) (by kernel_rfl) (by kernel_rfl) (want_0) (fun w hok => x_neq (tmI rfl rfl) (tmI rfl rfl)) ?_
             refine rg_done (oks_drop hS 0 rfl) (by kernel_rfl) ?_
             refine then_n (hK34 _ _ ?_); clear hK34 K34
             refine cnd (tm rfl) (fun hc6 => ?_) (fun hc6 => ?_)
             · exfalso
               rw [hck] at hc6
               simp at hc6
             try simp only [nrm] at hc6
             refine wp_skip ?_
             refine inb_n ?_
             refine then_n (hK33 _ _ ?_); clear hK33 K33
             refine wlit ?_
             refine wl_v (x_move (tmI rfl rfl)) ?_
             first
              | refine wl_v (x_addN (tmI rfl rfl) (ev_cN 1) (fit_i64 (by omega))) ?_
              | refine wl_v (x_addI (tmI rfl rfl) (ev_cN 1) (IntWalk.i64_in _ (by omega))) ?_
              | refine wl_v (x_add (tmI rfl rfl) (ev_cN 1)) ?_
             refine wl_v (x_assign (tmI rfl rfl)) ?_
             refine wl_nil ?_
             exact then_n ⟨_, _, rfl, (by show _ < _; omega), (by repeat (first | exact agree_self | exact agree_refl | refine agree_upd rfl ?_ | refine agree_mix rfl ?_)), k + 1, rfl, (by first | rfl | go_num), hS, (by omega)⟩
          try simp only [nrm] at hc5
          refine wp_exit ?_
          refine then_x ?_; clear hK31 K31
          refine then_x ?_
          refine inb_x ?_
          refine then_n (hK29 _ _ ?_); clear hK29 K29
          refine wp_seq_k ?_; intro K35 hK35
          refine wlit ?_
          refine wl_e rfl ?_; intro K hK
          refine ow_call Try.func55 rfl rfl (evs_nil) (awake_c _) ?_
          rintro e w ⟨rfl, hk1⟩
          refine ⟨_, rfl, ?_⟩
          replace hS := hS.kept hk1
          clear hk1
          refine hK _ _ ?_; clear hK K
          refine wl_v (x_assign (tmB rfl rfl)) ?_
          refine wl_nil ?_
          refine then_n (hK35 _ _ ?_); clear hK35 K35
          refine wp_ret ?_
          refine ret1 rfl (.tmp rfl (show _ = Value.bool _ from rfl)) ?_
          exact ⟨rfl, hS.kp.below⟩
end SmoothShares
end Go.Proofs.Ytchpcijmgnfkfaa
