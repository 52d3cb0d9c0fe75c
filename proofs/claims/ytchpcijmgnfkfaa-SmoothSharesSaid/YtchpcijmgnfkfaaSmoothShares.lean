
/- SmoothShares, where nothing weighs, and the whole. Conditions: none. -/
import Derived.Test.YtchpcijmgnfkfaaSmoothSharesA
import Derived.Test.YtchpcijmgnfkfaaSmoothArgs
namespace Go.Proofs.Ytchpcijmgnfkfaa
open Go.RowKit
namespace SmoothShares
set_option maxRecDepth 100000 in
set_option maxHeartbeats 4000000 in
theorem walk_none (n : Nat) (A : Option Addr) (c : Nat) (l : List Cn) (st : Nat) (w0 : World) (hv : View w0 w0.heap.size A (flat cnV l)) (hl : l.length = n) (hst : st ≤ 255) (hn4 : n ≤ 9223372036854775807)
    (hq0 : (wfT l n).length = 0) :
    Calls Try.prog 10 #[.slice A n c, .int .u8 (st : Int)] w0 fun e w' => e = .returned (.bool true) ∧ Below w0.heap.size w0 w' := by
  have hS := (St.sv w0).vcons rfl hv
  refine ent (n := 97) Try.func10 rfl rfl ?_
  refine wp_seq_k ?_; intro K1 hK1
  refine wlit ?_
  refine wl_v (x_assign ev_c) ?_
  refine wl_nil ?_
  refine then_n (hK1 _ _ ?_); clear hK1 K1
  refine wp_seq_k ?_; intro K2 hK2
  refine wp_seq_k ?_; intro K3 hK3
  refine wlit ?_
  refine wl_v (x_move (tmS rfl rfl)) ?_
  refine wl_e rfl ?_; intro K hK
  refine ow_call Try.func54 rfl rfl (evs_cons (tmS rfl rfl) <| evs_nil) (right_c n A c l _ (viewV hS.ok 0 rfl) hl hn4) ?_
  rintro e w ⟨b1, rfl, hb1, hk1⟩
  refine ⟨_, rfl, ?_⟩
  replace hS := hS.kept hk1
  clear hk1
  refine hK _ _ ?_; clear hK K
  refine wl_v (x_not (tmB rfl rfl)) ?_
  refine wl_nil ?_
  refine then_n (hK3 _ _ ?_); clear hK3 K3
  refine cnd (tm rfl) (fun hc0 => ?_) (fun hc0 => ?_)
  · try (exfalso; first | with_reducible exact absurd hc0 Bool.false_ne_true | with_reducible exact absurd hc0.symm Bool.false_ne_true | (simp only [nrm] at hc0; omega))
    all_goals
     try simp only [nrm] at hc0
     refine wp_seq_k ?_; intro K4 hK4
     refine wlit ?_
     refine wl_e rfl ?_; intro K hK
     refine ow_call Try.func55 rfl rfl (evs_nil) (awake_c _) ?_
     rintro e w ⟨rfl, hk1⟩
     refine ⟨_, rfl, ?_⟩
     replace hS := hS.kept hk1
     clear hk1
     refine hK _ _ ?_; clear hK K
     refine wl_v (x_assign (tmB rfl rfl)) ?_
     refine wl_nil ?_
     refine then_n (hK4 _ _ ?_); clear hK4 K4
     refine wp_ret ?_
     refine then_r ?_
     refine ret1 rfl (.tmp rfl (show _ = Value.bool _ from rfl)) ?_
     exact ⟨rfl, hS.kp.below⟩
  try simp only [nrm] at hc0
  obtain ⟨hn30, hR, _⟩ := hb1 (by simpa using hc0)
  have hTs : sumW (wfT l n) = sumF (wOf l) n := wf_sum hR
  have hT0 : sumF (wOf l) n = 0 := by rw [← hTs, List.eq_nil_of_length_eq_zero hq0]; rfl
  have hall := right_all hR
  have hz : ∀ j, j < n → (l.getD j default).weight = 0 := by
    intro j hj
    have haj := hall j hj
    by_cases hp : 0 < (l.getD j default).weight
    · obtain ⟨i, hi, _⟩ := wf_has l n j hj hp
      omega
    · omega
  refine wp_skip ?_
  refine then_n (hK2 _ _ ?_); clear hK2 K2
  refine wp_seq_k ?_; intro K5 hK5
  refine wlit ?_
  refine wl_v (x_build (bc_skip (.slice none 0 0) <| bc_nil) (by kernel_rfl)) ?_
  refine wl_e rfl ?_; intro K hK
  refine ow_box hS (tmA rfl rfl) rfl ?_
  clear hS; intro g3_1 w hg3_1 hS
  refine hK _ _ ?_; clear hK K
  refine wl_v (x_assign (tmP rfl rfl)) ?_
  refine wl_nil ?_
  refine then_n (hK5 _ _ ?_); clear hK5 K5
  refine wp_seq_k ?_; intro K6 hK6
  refine wlit ?_
  refine wl_v (x_move (tmS rfl rfl)) ?_
  refine wl_e rfl ?_; intro K hK
  refine ow_call Try.func56 rfl rfl (evs_cons (tmS rfl rfl) <| evs_nil) (to_c n A c l _ (viewV hS.ok 1 rfl) hl (by omega)) ?_
  rintro e w ⟨A2, c2, rfl, hn2, hk2⟩
  refine ⟨_, rfl, ?_⟩
  replace hS := hS.add hk2 hn2 -- +1
  clear hn2 hk2
  refine hK _ _ ?_; clear hK K
  refine wl_v (x_assign (tmS rfl rfl)) ?_
  refine wl_nil ?_
  refine then_n (hK6 _ _ ?_); clear hK6 K6
  refine wp_seq_k ?_; intro K7 hK7
  refine wlit ?_
  refine wl_v (x_assign (ev_cN 0)) ?_
  refine wl_nil ?_
  refine then_n (hK7 _ _ ?_); clear hK7 K7
  refine wp_seq_k ?_; intro K8 hK8
  refine wp_seq_k ?_; intro K9 hK9
  refine wlit ?_
  refine wl_v (x_assign (ev_cN 0)) ?_
  refine wl_nil ?_
  refine then_n (hK9 _ _ ?_); clear hK9 K9
  refine wp_block ?_
  refine lp [7, 8, 23, 24, 25, 26, 27, 28, 29, 30, 31, 32, 33, 34, 35] (fun mz g w => ∃ (k : Nat), mz = n - k ∧ g 8 = .int .i64 (k : Int) ∧ g 7 = .int .i64 (sumF (wOf l) k) ∧ St [] w0 [.row (.slice A2 n c2) 101 4 n (flat cnV l), .blk g3_1 96 [.slice none 0 0], .vw A (flat cnV l)] w ∧ (k ≤ n) ∧ (0 ≤ sumF (wOf l) k ∧ sumF (wOf l) k ≤ 100 * k)) ?_ ?_
  · exact ⟨_, 0, rfl, (by first | rfl | go_num), (by first | rfl | go_num), hS, (by omega), (by first | exact hsk1 | simp [sumF])⟩
  · clear hS; intro mz g w hI
    obtain ⟨k, rfl, hs8, hs7, hS, hk, hsk⟩ := hI
    refine fr_know (d := 8) hs8 ?_; clear hs8
    refine fr_know (d := 7) hs7 ?_; clear hs7
    refine wp_seq_k ?_; intro K10 hK10
    refine wp_seq_k ?_; intro K11 hK11
    refine wlit ?_
    refine wl_v (x_move (tmI rfl rfl)) ?_
    refine wl_v (x_move (tmS rfl rfl)) ?_
    refine wl_v (x_len Try.underlying91 (tmS rfl rfl)) ?_
    refine wl_v (x_lss (tmI rfl rfl) (tmI rfl rfl)) ?_
    refine wl_nil ?_
    refine then_n (hK11 _ _ ?_); clear hK11 K11
    refine cnd (tm rfl) (fun hc1 => ?_) (fun hc1 => ?_)
    · try (exfalso; first | with_reducible exact absurd hc1 Bool.false_ne_true | with_reducible exact absurd hc1.symm Bool.false_ne_true | (simp only [nrm] at hc1; omega))
      all_goals
       try simp only [nrm] at hc1
       obtain ⟨b4, o4, rfl⟩ := view_some hv (by rw [flat_length cnV_len]; omega)
       have hak := hall k (by omega)
       have hsk1 : 0 ≤ sumF (wOf l) (k + 1) ∧ sumF (wOf l) (k + 1) ≤ 100 * ((k + 1 : Nat) : Int) := by
         simp only [sumF]
         show 0 ≤ _ + (l.getD k default).weight ∧ _ + (l.getD k default).weight ≤ _
         omega
       refine wp_skip ?_
       refine then_n (hK10 _ _ ?_); clear hK10 K10
       refine wp_seq_k ?_; intro K12 hK12
       refine wp_block ?_
       refine wlit ?_
       refine wl_v (x_move (tmI rfl rfl)) ?_
       refine wl_v (x_move (tmS rfl rfl)) ?_
       refine wl_v (x_move (tmI rfl rfl)) ?_
       refine wl_v (x_ixs Try.underlying91 ts_100 (tmS rfl rfl) (tmI rfl rfl) (by omega)) ?_
       refine wl_v (x_fa 2 Try.underlying100 rfl rfl ts_3 (tmP rfl rfl)) ?_
       first
        | refine wl_v (x_load Try.underlying3 rfl (tmP rfl rfl) (cellB hS.ok 0 rfl rfl)) ?_
        | refine wl_v (x_load Try.underlying3 rfl (tmP rfl rfl) (cellB hS.ok 1 rfl rfl)) ?_
        | refine wl_v (x_load Try.underlying3 rfl (tmP rfl rfl) (cellB hS.ok 2 rfl rfl)) ?_
        | refine wl_v (x_load Try.underlying3 rfl (tmP rfl rfl) (cellV hS.ok 0 rfl rfl)) ?_
        | refine wl_v (x_load Try.underlying3 rfl (tmP rfl rfl) (cellV hS.ok 0 rfl (getm (by omega)))) ?_
        | refine wl_v (x_load Try.underlying3 rfl (tmP rfl rfl) (cellVs hS.ok 0 rfl (fun _ => rfl) rfl (by omega) rfl)) ?_
        | refine wl_v (x_load Try.underlying3 rfl (tmP rfl rfl) (cellR hS.ok 0 rfl rfl)) ?_
        | refine wl_v (x_load Try.underlying3 rfl (tmP rfl rfl) (cellR hS.ok 0 rfl (getm (by omega)))) ?_
        | refine wl_v (x_load Try.underlying3 rfl (tmP rfl rfl) (cellRs hS.ok 0 rfl (fun _ => rfl) rfl (by omega) rfl)) ?_
        | refine wl_v (x_load Try.underlying3 rfl (tmP rfl rfl) (cellV hS.ok 1 rfl rfl)) ?_
        | refine wl_v (x_load Try.underlying3 rfl (tmP rfl rfl) (cellV hS.ok 1 rfl (getm (by omega)))) ?_
        | refine wl_v (x_load Try.underlying3 rfl (tmP rfl rfl) (cellVs hS.ok 1 rfl (fun _ => rfl) rfl (by omega) rfl)) ?_
        | refine wl_v (x_load Try.underlying3 rfl (tmP rfl rfl) (cellR hS.ok 1 rfl rfl)) ?_
        | refine wl_v (x_load Try.underlying3 rfl (tmP rfl rfl) (cellR hS.ok 1 rfl (getm (by omega)))) ?_
        | refine wl_v (x_load Try.underlying3 rfl (tmP rfl rfl) (cellRs hS.ok 1 rfl (fun _ => rfl) rfl (by omega) rfl)) ?_
        | refine wl_v (x_load Try.underlying3 rfl (tmP rfl rfl) (cellV hS.ok 2 rfl rfl)) ?_
        | refine wl_v (x_load Try.underlying3 rfl (tmP rfl rfl) (cellV hS.ok 2 rfl (getm (by omega)))) ?_
        | refine wl_v (x_load Try.underlying3 rfl (tmP rfl rfl) (cellVs hS.ok 2 rfl (fun _ => rfl) rfl (by omega) rfl)) ?_
        | refine wl_v (x_load Try.underlying3 rfl (tmP rfl rfl) (cellR hS.ok 2 rfl rfl)) ?_
        | refine wl_v (x_load Try.underlying3 rfl (tmP rfl rfl) (cellR hS.ok 2 rfl (getm (by omega)))) ?_
        | refine wl_v (x_load Try.underlying3 rfl (tmP rfl rfl) (cellRs hS.ok 2 rfl (fun _ => rfl) rfl (by omega) rfl)) ?_
       first
        | refine wl_v (x_addN (tmI rfl rfl) (tmI rfl rfl) (fit_i64 (by omega))) ?_
        | refine wl_v (x_addI (tmI rfl rfl) (tmI rfl rfl) (IntWalk.i64_in _ (by omega))) ?_
        | refine wl_v (x_add (tmI rfl rfl) (tmI rfl rfl)) ?_
       refine wl_v (x_assign (tmI rfl rfl)) ?_
       refine wl_nil ?_
       refine inb_n ?_
       refine then_n (hK12 _ _ ?_); clear hK12 K12
       refine wlit ?_
       refine wl_v (x_move (tmI rfl rfl)) ?_
       first
        | refine wl_v (x_addN (tmI rfl rfl) (ev_cN 1) (fit_i64 (by omega))) ?_
        | refine wl_v (x_addI (tmI rfl rfl) (ev_cN 1) (IntWalk.i64_in _ (by omega))) ?_
        | refine wl_v (x_add (tmI rfl rfl) (ev_cN 1)) ?_
       refine wl_v (x_assign (tmI rfl rfl)) ?_
       refine wl_nil ?_
       exact then_n ⟨_, _, rfl, (by show _ < _; omega), (by repeat (first | exact agree_self | exact agree_refl | refine agree_upd rfl ?_ | refine agree_mix rfl ?_)), k + 1, rfl, (by first | rfl | go_num), (by first | rfl | go_num), hS, (by omega), (by first | exact hsk1 | simp [sumF])⟩
    try simp only [nrm] at hc1
    refine wp_exit ?_
    refine then_x ?_; clear hK10 K10
    refine then_x ?_
    refine inb_x ?_
    refine then_n (hK8 _ _ ?_); clear hK8 K8
    refine wp_seq_k ?_; intro K13 hK13
    refine wp_seq_k ?_; intro K14 hK14
    obtain rfl : n = k := by omega
    rw [hT0]
    refine wlit ?_
    refine wl_v (x_assign (ev_cN 0)) ?_
    refine wl_nil ?_
    refine then_n (hK14 _ _ ?_); clear hK14 K14
    refine wp_block ?_
    refine lp [9, 36, 37, 38, 39, 40, 41, 42, 43, 44] (fun mz g w => ∃ (t : Nat), mz = st - t ∧ g 9 = .int .i64 (t : Int) ∧ St [] w0 [.blk g3_1 96 [.slice none 0 0], .row (.slice A2 n c2) 101 4 n (flat cnV l), .vw A (flat cnV l)] w ∧ (t ≤ st)) ?_ ?_
    · exact ⟨_, 0, rfl, (by first | rfl | go_num), (hS.pick [1, 0, 2] rfl rfl), (by omega)⟩
    · clear hS; intro mz g w hI
      obtain ⟨t, rfl, hs9, hS, ht⟩ := hI
      refine fr_know (d := 9) hs9 ?_; clear hs9
      refine wp_seq_k ?_; intro K15 hK15
      refine wp_seq_k ?_; intro K16 hK16
      refine wlit ?_
      refine wl_v (x_move (tmI rfl rfl)) ?_
      refine wl_v (x_move (tmI rfl rfl)) ?_
      first
       | refine wl_v (x_convN Try.underlying5 Try.underlying3 (tmI rfl rfl) (fit_i64 (by omega))) ?_
       | refine wl_v (x_conv Try.underlying5 Try.underlying3 (tmI rfl rfl)) ?_
      refine wl_v (x_lss (tmI rfl rfl) (tmI rfl rfl)) ?_
      refine wl_nil ?_
      refine then_n (hK16 _ _ ?_); clear hK16 K16
      refine cnd (tm rfl) (fun hc2 => ?_) (fun hc2 => ?_)
      · try (exfalso; first | with_reducible exact absurd hc2 Bool.false_ne_true | with_reducible exact absurd hc2.symm Bool.false_ne_true | (simp only [nrm] at hc2; omega))
        all_goals
         try simp only [nrm] at hc2
         refine wp_skip ?_
         refine then_n (hK15 _ _ ?_); clear hK15 K15
         refine wp_seq_k ?_; intro K17 hK17
         refine wp_block ?_
         refine wlit ?_
         refine wl_v (x_move (tmP rfl rfl)) ?_
         refine wl_v (x_move (tmS rfl rfl)) ?_
         refine wl_e rfl ?_; intro K hK
         refine ow_call Try.func57 rfl rfl (evs_cons (tmP rfl rfl) <| evs_cons (tmS rfl rfl) <| evs_nil) (pick_none_c g3_1 n A2 c2 l _ (viewR hS.ok 1 rfl) hl (by omega) hq0) ?_
         rintro e w ⟨rfl, hk1⟩
         refine ⟨_, rfl, ?_⟩
         replace hS := hS.kept hk1
         clear hk1
         refine hK _ _ ?_; clear hK K
         refine wl_nil ?_
         refine inb_n ?_
         refine then_n (hK17 _ _ ?_); clear hK17 K17
         refine wlit ?_
         refine wl_v (x_move (tmI rfl rfl)) ?_
         first
          | refine wl_v (x_addN (tmI rfl rfl) (ev_cN 1) (fit_i64 (by omega))) ?_
          | refine wl_v (x_addI (tmI rfl rfl) (ev_cN 1) (IntWalk.i64_in _ (by omega))) ?_
          | refine wl_v (x_add (tmI rfl rfl) (ev_cN 1)) ?_
         refine wl_v (x_assign (tmI rfl rfl)) ?_
         refine wl_nil ?_
         exact then_n ⟨_, _, rfl, (by show _ < _; omega), (by repeat (first | exact agree_self | exact agree_refl | refine agree_upd rfl ?_ | refine agree_mix rfl ?_)), t + 1, rfl, (by first | rfl | go_num), hS, (by omega)⟩
      try simp only [nrm] at hc2
      refine wp_exit ?_
      refine then_x ?_; clear hK15 K15
      refine then_x ?_
      refine inb_x ?_
      refine then_n (hK13 _ _ ?_); clear hK13 K13
      refine wp_seq_k ?_; intro K18 hK18
      refine wlit ?_
      refine wl_e rfl ?_; intro K hK
      refine ow_make hS Try.underlying53 tz_3 rfl (ev_cN 4096) (ev_cN 4096) rfl (by omega) (by simp only [maxLen]; omega) ?_
      clear hS; intro g14_0 w hg14_0 hS
      refine hK _ _ ?_; clear hK K
      refine wl_v (x_assign (tmS rfl rfl)) ?_
      refine wl_nil ?_
      refine then_n (hK18 _ _ ?_); clear hK18 K18
      refine wp_seq_k ?_; intro K19 hK19
      refine wp_seq_k ?_; intro K20 hK20
      refine wlit ?_
      refine wl_v (x_assign (ev_cN 0)) ?_
      refine wl_nil ?_
      refine then_n (hK20 _ _ ?_); clear hK20 K20
      refine wp_block ?_
      rw [show List.replicate 4096 (Value.int .i64 0) = (List.replicate 4096 (0 : Int)).map i64v from (List.map_replicate (f := i64v)).symm] at hS
      refine lp [4, 11, 12, 13, 46, 47, 48, 49, 50, 51, 52, 53, 54, 55, 56, 57, 58, 59, 60, 61, 62, 63, 64, 65, 66, 67, 68, 69, 70, 71, 72, 73, 74, 75] (fun mz g w => ∃ (u : Nat), mz = 0 ∧ g 11 = .int .i64 (u : Int) ∧ St [] w0 [.row (.slice (some ⟨g14_0, 0, none⟩) 4096 4096) 3 1 4096 ((List.replicate 4096 (0 : Int)).map i64v), .vw A (flat cnV l)] w ∧ (u = 0)) ?_ ?_
      · exact ⟨_, 0, rfl, (by first | rfl | go_num), (hS.pick [0, 3] rfl rfl), (by omega)⟩
      · clear hS; intro mz g w hI
        obtain ⟨u, rfl, hs11, hS, hu⟩ := hI
        refine fr_know (d := 11) hs11 ?_; clear hs11
        refine wp_seq_k ?_; intro K21 hK21
        refine wp_seq_k ?_; intro K22 hK22
        refine wlit ?_
        refine wl_v (x_move (tmI rfl rfl)) ?_
        refine wl_v (x_move (tmI rfl rfl)) ?_
        refine wl_v (x_lss (tmI rfl rfl) (tmI rfl rfl)) ?_
        refine wl_nil ?_
        refine then_n (hK22 _ _ ?_); clear hK22 K22
        refine cnd (tm rfl) (fun hc3 => ?_) (fun hc3 => ?_)
        · exfalso
          simp only [nrm] at hc3
          omega
        try simp only [nrm] at hc3
        refine wp_exit ?_
        refine then_x ?_; clear hK21 K21
        refine then_x ?_
        refine inb_x ?_
        refine then_n (hK19 _ _ ?_); clear hK19 K19
        refine wp_seq_k ?_; intro K23 hK23
        refine wp_seq_k ?_; intro K24 hK24
        refine wlit ?_
        refine wl_v (x_assign (ev_cN 0)) ?_
        refine wl_nil ?_
        refine then_n (hK24 _ _ ?_); clear hK24 K24
        refine wp_block ?_
        refine lp [4, 14, 76, 77, 78, 79, 80, 81, 82, 83, 84, 85, 86, 87, 88, 89, 90, 91, 92, 93, 94, 95] (fun mz g w => ∃ (k : Nat), mz = n - k ∧ g 14 = .int .i64 (k : Int) ∧ St [] w0 [.row (.slice (some ⟨g14_0, 0, none⟩) 4096 4096) 3 1 4096 ((List.replicate 4096 (0 : Int)).map i64v), .vw A (flat cnV l)] w ∧ (k ≤ n)) ?_ ?_
        · exact ⟨_, 0, rfl, (by first | rfl | go_num), hS, (by omega)⟩
        · clear hS; intro mz g w hI
          obtain ⟨k, rfl, hs14, hS, hk⟩ := hI
          refine fr_know (d := 14) hs14 ?_; clear hs14
          refine wp_seq_k ?_; intro K25 hK25
          refine wp_seq_k ?_; intro K26 hK26
          refine wlit ?_
          refine wl_v (x_move (tmI rfl rfl)) ?_
          refine wl_v (x_move (tmS rfl rfl)) ?_
          refine wl_v (x_len Try.underlying91 (tmS rfl rfl)) ?_
          refine wl_v (x_lss (tmI rfl rfl) (tmI rfl rfl)) ?_
          refine wl_nil ?_
          refine then_n (hK26 _ _ ?_); clear hK26 K26
          refine cnd (tm rfl) (fun hc5 => ?_) (fun hc5 => ?_)
          · try (exfalso; first | with_reducible exact absurd hc5 Bool.false_ne_true | with_reducible exact absurd hc5.symm Bool.false_ne_true | (simp only [nrm] at hc5; omega))
            all_goals
             try simp only [nrm] at hc5
             obtain ⟨b4, o4, rfl⟩ := view_some hv (by rw [flat_length cnV_len]; omega)
             have hak := hall k (by omega)
             have hsk : (l.getD k default).slot = (((l.getD k default).slot.toNat : Nat) : Int) := by omega
             have hcl : (List.replicate 4096 (0 : Int)).length = 4096 := List.length_replicate
             have hck : (List.replicate 4096 (0 : Int)).getD (l.getD k default).slot.toNat 0 = (l.getD k default).weight := by
               rw [hz k (by omega), List.getD_eq_getElem?_getD, List.getElem?_replicate]; split <;> rfl
             refine wp_skip ?_
             refine then_n (hK25 _ _ ?_); clear hK25 K25
             refine wp_seq_k ?_; intro K27 hK27
             refine wp_block ?_
             refine wp_seq_k ?_; intro K28 hK28
             refine rg_startk 0 hS mixed_ ?_
             clear hS; intro w hS
             refine rg_take 0 rfl rfl (by kernel_rfl) (by kernel_rfl) (by kernel_rfl) (want_0) (fun w hok => x_move (tmS rfl rfl)) ?_
             refine rg_take 1 rfl rfl (by kernel_rfl) (by kernel_rfl) (by kernel_rfl) (want_0) (fun w hok => x_move (tmS rfl rfl)) ?_
             refine rg_take 2 rfl rfl (by kernel_rfl) (by kernel_rfl) (by kernel_rfl) (want_0) (fun w hok => x_move (tmI rfl rfl)) ?_
             refine rg_take 3 rfl rfl (by kernel_rfl) (by kernel_rfl) (by kernel_rfl) (want_0) (fun w hok => x_ixs Try.underlying91 ts_100 (tmS rfl rfl) (tmI rfl rfl) (by omega)) ?_
             refine rg_take 4 rfl rfl (by kernel_rfl) (by kernel_rfl) (by kernel_rfl) (want_0) (fun w hok => x_fa 0 Try.underlying100 rfl rfl ts_3 (tmP rfl rfl)) ?_
             first
              | refine rg_take 5 rfl rfl (by kernel_rfl) (by kernel_rfl) (by kernel_rfl) (want_0) (fun w hok => x_load Try.underlying3 rfl (tmP rfl rfl) (cellB hok 0 rfl rfl)) ?_
              | refine rg_take 5 rfl rfl (by kernel_rfl) (by kernel_rfl) (by kernel_rfl) (want_0) (fun w hok => x_load Try.underlying3 rfl (tmP rfl rfl) (cellB hok 1 rfl rfl)) ?_
              | refine rg_take 5 rfl rfl (by kernel_rfl) (by kernel_rfl) (by kernel_rfl) (want_0) (fun w hok => x_load Try.underlying3 rfl (tmP rfl rfl) (cellV hok 0 rfl rfl)) ?_
              | refine rg_take 5 rfl rfl (by kernel_rfl) (by kernel_rfl) (by kernel_rfl) (want_0) (fun w hok => x_load Try.underlying3 rfl (tmP rfl rfl) (cellV hok 0 rfl (getm (by omega)))) ?_
              | refine rg_take 5 rfl rfl (by kernel_rfl) (by kernel_rfl) (by kernel_rfl) (want_0) (fun w hok => x_load Try.underlying3 rfl (tmP rfl rfl) (cellVs hok 0 rfl (fun _ => rfl) rfl (by omega) rfl)) ?_
              | refine rg_take 5 rfl rfl (by kernel_rfl) (by kernel_rfl) (by kernel_rfl) (want_0) (fun w hok => x_load Try.underlying3 rfl (tmP rfl rfl) (cellR hok 0 rfl rfl)) ?_
              | refine rg_take 5 rfl rfl (by kernel_rfl) (by kernel_rfl) (by kernel_rfl) (want_0) (fun w hok => x_load Try.underlying3 rfl (tmP rfl rfl) (cellR hok 0 rfl (getm (by omega)))) ?_
              | refine rg_take 5 rfl rfl (by kernel_rfl) (by kernel_rfl) (by kernel_rfl) (want_0) (fun w hok => x_load Try.underlying3 rfl (tmP rfl rfl) (cellRs hok 0 rfl (fun _ => rfl) rfl (by omega) rfl)) ?_
              | refine rg_take 5 rfl rfl (by kernel_rfl) (by kernel_rfl) (by kernel_rfl) (want_0) (fun w hok => x_load Try.underlying3 rfl (tmP rfl rfl) (cellV hok 1 rfl rfl)) ?_
              | refine rg_take 5 rfl rfl (by kernel_rfl) (by kernel_rfl) (by kernel_rfl) (want_0) (fun w hok => x_load Try.underlying3 rfl (tmP rfl rfl) (cellV hok 1 rfl (getm (by omega)))) ?_
              | refine rg_take 5 rfl rfl (by kernel_rfl) (by kernel_rfl) (by kernel_rfl) (want_0) (fun w hok => x_load Try.underlying3 rfl (tmP rfl rfl) (cellVs hok 1 rfl (fun _ => rfl) rfl (by omega) rfl)) ?_
              | refine rg_take 5 rfl rfl (by kernel_rfl) (by kernel_rfl) (by kernel_rfl) (want_0) (fun w hok => x_load Try.underlying3 rfl (tmP rfl rfl) (cellR hok 1 rfl rfl)) ?_
              | refine rg_take 5 rfl rfl (by kernel_rfl) (by kernel_rfl) (by kernel_rfl) (want_0) (fun w hok => x_load Try.underlying3 rfl (tmP rfl rfl) (cellR hok 1 rfl (getm (by omega)))) ?_
              | refine rg_take 5 rfl rfl (by kernel_rfl) (by kernel_rfl) (by kernel_rfl) (want_0) (fun w hok => x_load Try.underlying3 rfl (tmP rfl rfl) (cellRs hok 1 rfl (fun _ => rfl) rfl (by omega) rfl)) ?_
             refine rg_take 6 rfl rfl (by kernel_rfl) (by kernel_rfl) (by kernel_rfl) (want_0) (fun w hok => x_ixs1 Try.underlying53 ts_3 (tmS rfl rfl) (tmI rfl (congrArg (Value.int .i64) hsk)) (by omega)) ?_
             first
              | refine rg_take 7 rfl rfl (by kernel_rfl) (by kernel_rfl) (by kernel_rfl) (want_0) (fun w hok => x_load Try.underlying3 rfl (tmP rfl rfl) (cellB hok 0 rfl rfl)) ?_
              | refine rg_take 7 rfl rfl (by kernel_rfl) (by kernel_rfl) (by kernel_rfl) (want_0) (fun w hok => x_load Try.underlying3 rfl (tmP rfl rfl) (cellB hok 1 rfl rfl)) ?_
              | refine rg_take 7 rfl rfl (by kernel_rfl) (by kernel_rfl) (by kernel_rfl) (want_0) (fun w hok => x_load Try.underlying3 rfl (tmP rfl rfl) (cellV hok 0 rfl rfl)) ?_
              | refine rg_take 7 rfl rfl (by kernel_rfl) (by kernel_rfl) (by kernel_rfl) (want_0) (fun w hok => x_load Try.underlying3 rfl (tmP rfl rfl) (cellV hok 0 rfl (getm (by omega)))) ?_
              | refine rg_take 7 rfl rfl (by kernel_rfl) (by kernel_rfl) (by kernel_rfl) (want_0) (fun w hok => x_load Try.underlying3 rfl (tmP rfl rfl) (cellVs hok 0 rfl (fun _ => rfl) rfl (by omega) rfl)) ?_
              | refine rg_take 7 rfl rfl (by kernel_rfl) (by kernel_rfl) (by kernel_rfl) (want_0) (fun w hok => x_load Try.underlying3 rfl (tmP rfl rfl) (cellR hok 0 rfl rfl)) ?_
              | refine rg_take 7 rfl rfl (by kernel_rfl) (by kernel_rfl) (by kernel_rfl) (want_0) (fun w hok => x_load Try.underlying3 rfl (tmP rfl rfl) (cellR hok 0 rfl (getm (by omega)))) ?_
              | refine rg_take 7 rfl rfl (by kernel_rfl) (by kernel_rfl) (by kernel_rfl) (want_0) (fun w hok => x_load Try.underlying3 rfl (tmP rfl rfl) (cellRs hok 0 rfl (fun _ => rfl) rfl (by omega) rfl)) ?_
              | refine rg_take 7 rfl rfl (by kernel_rfl) (by kernel_rfl) (by kernel_rfl) (want_0) (fun w hok => x_load Try.underlying3 rfl (tmP rfl rfl) (cellV hok 1 rfl rfl)) ?_
              | refine rg_take 7 rfl rfl (by kernel_rfl) (by kernel_rfl) (by kernel_rfl) (want_0) (fun w hok => x_load Try.underlying3 rfl (tmP rfl rfl) (cellV hok 1 rfl (getm (by omega)))) ?_
              | refine rg_take 7 rfl rfl (by kernel_rfl) (by kernel_rfl) (by kernel_rfl) (want_0) (fun w hok => x_load Try.underlying3 rfl (tmP rfl rfl) (cellVs hok 1 rfl (fun _ => rfl) rfl (by omega) rfl)) ?_
              | refine rg_take 7 rfl rfl (by kernel_rfl) (by kernel_rfl) (by kernel_rfl) (want_0) (fun w hok => x_load Try.underlying3 rfl (tmP rfl rfl) (cellR hok 1 rfl rfl)) ?_
              | refine rg_take 7 rfl rfl (by kernel_rfl) (by kernel_rfl) (by kernel_rfl) (want_0) (fun w hok => x_load Try.underlying3 rfl (tmP rfl rfl) (cellR hok 1 rfl (getm (by omega)))) ?_
              | refine rg_take 7 rfl rfl (by kernel_rfl) (by kernel_rfl) (by kernel_rfl) (want_0) (fun w hok => x_load Try.underlying3 rfl (tmP rfl rfl) (cellRs hok 1 rfl (fun _ => rfl) rfl (by omega) rfl)) ?_
             refine rg_take 8 rfl rfl (by kernel_rfl) (by kernel_rfl) (by kernel_rfl) (want_0) (fun w hok => x_move (tmS rfl rfl)) ?_
             refine rg_take 9 rfl rfl (by kernel_rfl) (by kernel_rfl) (by kernel_rfl) (want_0) (fun w hok => x_move (tmI rfl rfl)) ?_
             refine rg_take 10 rfl rfl (by kernel_rfl) (by kernel_rfl) (by kernel_rfl) (want_0) (fun w hok => x_ixs Try.underlying91 ts_100 (tmS rfl rfl) (tmI rfl rfl) (by omega)) ?_
             refine rg_take 11 rfl rfl (by kernel_rfl) (by kernel_rfl) (by kernel_rfl) (want_0) (fun w hok => x_fa 2 Try.underlying100 rfl rfl ts_3 (tmP rfl rfl)) ?_
             first
              | refine rg_take 12 rfl rfl (by kernel_rfl) (by kernel_rfl) (by kernel_rfl) (want_0) (fun w hok => x_load Try.underlying3 rfl (tmP rfl rfl) (cellB hok 0 rfl rfl)) ?_
              | refine rg_take 12 rfl rfl (by kernel_rfl) (by kernel_rfl) (by kernel_rfl) (want_0) (fun w hok => x_load Try.underlying3 rfl (tmP rfl rfl) (cellB hok 1 rfl rfl)) ?_
              | refine rg_take 12 rfl rfl (by kernel_rfl) (by kernel_rfl) (by kernel_rfl) (want_0) (fun w hok => x_load Try.underlying3 rfl (tmP rfl rfl) (cellV hok 0 rfl rfl)) ?_
              | refine rg_take 12 rfl rfl (by kernel_rfl) (by kernel_rfl) (by kernel_rfl) (want_0) (fun w hok => x_load Try.underlying3 rfl (tmP rfl rfl) (cellV hok 0 rfl (getm (by omega)))) ?_
              | refine rg_take 12 rfl rfl (by kernel_rfl) (by kernel_rfl) (by kernel_rfl) (want_0) (fun w hok => x_load Try.underlying3 rfl (tmP rfl rfl) (cellVs hok 0 rfl (fun _ => rfl) rfl (by omega) rfl)) ?_
              | refine rg_take 12 rfl rfl (by kernel_rfl) (by kernel_rfl) (by kernel_rfl) (want_0) (fun w hok => x_load Try.underlying3 rfl (tmP rfl rfl) (cellR hok 0 rfl rfl)) ?_
              | refine rg_take 12 rfl rfl (by kernel_rfl) (by kernel_rfl) (by kernel_rfl) (want_0) (fun w hok => x_load Try.underlying3 rfl (tmP rfl rfl) (cellR hok 0 rfl (getm (by omega)))) ?_
              | refine rg_take 12 rfl rfl (by kernel_rfl) (by kernel_rfl) (by kernel_rfl) (want_0) (fun w hok => x_load Try.underlying3 rfl (tmP rfl rfl) (cellRs hok 0 rfl (fun _ => rfl) rfl (by omega) rfl)) ?_
              | refine rg_take 12 rfl rfl (by kernel_rfl) (by kernel_rfl) (by kernel_rfl) (want_0) (fun w hok => x_load Try.underlying3 rfl (tmP rfl rfl) (cellV hok 1 rfl rfl)) ?_
              | refine rg_take 12 rfl rfl (by kernel_rfl) (by kernel_rfl) (by kernel_rfl) (want_0) (fun w hok => x_load Try.underlying3 rfl (tmP rfl rfl) (cellV hok 1 rfl (getm (by omega)))) ?_
              | refine rg_take 12 rfl rfl (by kernel_rfl) (by kernel_rfl) (by kernel_rfl) (want_0) (fun w hok => x_load Try.underlying3 rfl (tmP rfl rfl) (cellVs hok 1 rfl (fun _ => rfl) rfl (by omega) rfl)) ?_
              | refine rg_take 12 rfl rfl (by kernel_rfl) (by kernel_rfl) (by kernel_rfl) (want_0) (fun w hok => x_load Try.underlying3 rfl (tmP rfl rfl) (cellR hok 1 rfl rfl)) ?_
              | refine rg_take 12 rfl rfl (by kernel_rfl) (by kernel_rfl) (by kernel_rfl) (want_0) (fun w hok => x_load Try.underlying3 rfl (tmP rfl rfl) (cellR hok 1 rfl (getm (by omega)))) ?_
              | refine rg_take 12 rfl rfl (by kernel_rfl) (by kernel_rfl) (by kernel_rfl) (want_0) (fun w hok => x_load Try.underlying3 rfl (tmP rfl rfl) (cellRs hok 1 rfl (fun _ => rfl) rfl (by omega) rfl)) ?_
             refine rg_take 13 rfl rfl (by kernel_rfl) (by kernel_rfl) (by kernel_rfl) (want_0) (fun w hok => x_neq (tmI rfl rfl) (tmI rfl rfl)) ?_
             refine rg_done (oks_drop hS 0 rfl) (by kernel_rfl) ?_
             refine then_n (hK28 _ _ ?_); clear hK28 K28
             refine cnd (tm rfl) (fun hc6 => ?_) (fun hc6 => ?_)
             · exfalso
               rw [hck] at hc6
               simp at hc6
             try simp only [nrm] at hc6
             refine wp_skip ?_
             refine inb_n ?_
             refine then_n (hK27 _ _ ?_); clear hK27 K27
             refine wlit ?_
             refine wl_v (x_move (tmI rfl rfl)) ?_
             first
              | refine wl_v (x_addN (tmI rfl rfl) (ev_cN 1) (fit_i64 (by omega))) ?_
              | refine wl_v (x_addI (tmI rfl rfl) (ev_cN 1) (IntWalk.i64_in _ (by omega))) ?_
              | refine wl_v (x_add (tmI rfl rfl) (ev_cN 1)) ?_
             refine wl_v (x_assign (tmI rfl rfl)) ?_
             refine wl_nil ?_
             exact then_n ⟨_, _, rfl, (by show _ < _; omega), (by repeat (first | exact agree_self | exact agree_refl | refine agree_upd rfl ?_ | refine agree_mix rfl ?_)), k + 1, rfl, (by first | rfl | go_num), hS, (by omega)⟩
          try simp only [nrm] at hc5
          refine wp_exit ?_
          refine then_x ?_; clear hK25 K25
          refine then_x ?_
          refine inb_x ?_
          refine then_n (hK23 _ _ ?_); clear hK23 K23
          refine wp_seq_k ?_; intro K29 hK29
          refine wlit ?_
          refine wl_e rfl ?_; intro K hK
          refine ow_call Try.func55 rfl rfl (evs_nil) (awake_c _) ?_
          rintro e w ⟨rfl, hk1⟩
          refine ⟨_, rfl, ?_⟩
          replace hS := hS.kept hk1
          clear hk1
          refine hK _ _ ?_; clear hK K
          refine wl_v (x_assign (tmB rfl rfl)) ?_
          refine wl_nil ?_
          refine then_n (hK29 _ _ ?_); clear hK29 K29
          refine wp_ret ?_
          refine ret1 rfl (.tmp rfl (show _ = Value.bool _ from rfl)) ?_
          exact ⟨rfl, hS.kp.below⟩

theorem walk_all (n : Nat) (A : Option Addr) (c : Nat) (l : List Cn) (st : Int) (w0 : World) (hv : View w0 w0.heap.size A (flat cnV l)) (hl : l.length = n) (hn4 : n ≤ 9223372036854775807) (hst : 0 ≤ st ∧ st < 256) :
    Calls Try.prog 10 #[.slice A n c, .int .u8 st] w0 fun e w' => e = .returned (.bool true) ∧ Below w0.heap.size w0 w' := by
  obtain ⟨st, rfl⟩ := Int.eq_ofNat_of_zero_le hst.1
  rcases Nat.eq_zero_or_pos (wfT l n).length with h | h
  · exact walk_none n A c l st w0 hv hl (by omega) hn4 h
  · exact walk_some n A c l st w0 hv hl (by omega) hn4 h

open Go.ChangeShapes Go.WideShapes Go.ChangeAt
set_option maxRecDepth 100000 in
theorem walk {H : Type} {enc : TypeId × Value → H} {r : Reach} {b0 : Nat} {d : DataW H} {ps : List MemPlace} (v : Value) (st : Int) (w0 : World)
    (hval : Value.okWide Try.prog w0 r b0 91 v) (hd : DataW.Trod enc Try.prog w0 0 (fun _ => true) true 91 v d ps) (hlt : ∀ x ∈ ps, x.block < w0.heap.size) (hst : 0 ≤ st ∧ st < 256) :
    Calls Try.prog 10 #[v, .int .u8 st] w0 fun e w' => e = .returned (.bool true) ∧ Below w0.heap.size w0 w' := by
  obtain ⟨A, c, l, rfl, _, hnc, hcm, hv, _⟩ := open_cns hval hd hlt
  have hmx : maxLen = 9223372036854775807 := by simp [maxLen]
  rw [hmx] at hcm
  exact walk_all l.length A c l st w0 hv rfl (Nat.le_trans hnc hcm) hst
end SmoothShares
end Go.Proofs.Ytchpcijmgnfkfaa
