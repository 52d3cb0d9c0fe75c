
/- Proved: HrwRanks returns true for every input, and changes no memory that was there. Conditions: none. -/
import Derived.Test.YtgfmjgfeiokcdaaHrG
namespace Go.Proofs.Ytgfmjgfeiokcdaa
open Go.ChangeShapes Go.WideShapes Go.ChangeAt Go.RowKit
namespace HrwRanks
theorem ranked_len (k : Nat → Nat) (b : List Nat) (l : List Mb) : (ranked k b l).length ≤ l.length := by
  unfold ranked wgt
  rw [srt_len, List.length_map]
  exact List.length_filter_le _ _
theorem pk_facts (R : List Sc) : pkB R = decide (((0 : Nat) : Int) < (R.length : Int)) ∧ (0 < R.length → pkI R = (R.getD 0 default).1) ∧ (R.length = 0 → pkI R = 0) := by
  cases R with
  | nil => exact ⟨rfl, fun h => absurd h (by simp), fun _ => rfl⟩
  | cons p R => exact ⟨by simp [pkB], fun _ => rfl, fun h => by simp at h⟩
set_option maxRecDepth 100000 in
set_option maxHeartbeats 4000000 in
theorem walk_all (k : Nat → Nat) (L : Option Addr) (nl cl : Nat) (l : List Mb) (B : Option Addr) (nb cb : Nat) (b : List Nat) (w0 : World) (hkb : Bytes (kL k)) (hvl : View w0 w0.heap.size L (flat mv l)) (hll : l.length = nl) (hnl : nl ≤ 9223372036854775807) (hv : View w0 w0.heap.size B (b.map u8v)) (hl : b.length = nb) (hb : Bytes b) :
    Calls Try.prog 3 #[.agg (kC k).toArray, .slice L nl cl, .slice B nb cb] w0 fun e w' => e = .returned (.bool true) ∧ Below w0.heap.size w0 w' := by
  have hS := ((St.sv w0).vcons rfl hv).vcons rfl hvl
  refine ent (n := 105) Try.func3 rfl rfl ?_
  refine wp_seq_k ?_; intro K1 hK1
  refine wlit ?_
  refine wl_e rfl ?_; intro K hK
  refine ow_box hS (tmA rfl rfl) rfl ?_
  clear hS; intro g0_0 w hg0_0 hS
  refine hK _ _ ?_; clear hK K
  refine wl_v (x_assign ev_c) ?_
  refine wl_nil ?_
  refine then_n (hK1 _ _ ?_); clear hK1 K1
  refine wp_seq_k ?_; intro K2 hK2
  refine wp_seq_k ?_; intro K3 hK3
  refine wlit ?_
  refine wl_v (x_move (tmS rfl rfl)) ?_
  refine wl_v (x_len Try.underlying24 (tmS rfl rfl)) ?_
  refine wl_v (x_gtr (tmI rfl rfl) (ev_cN 200)) ?_
  refine wl_nil ?_
  refine then_n (hK3 _ _ ?_); clear hK3 K3
  refine cnd (tm rfl) (fun hc0 => ?_) (fun hc0 => ?_)
  · try (exfalso; first | with_reducible exact absurd hc0 Bool.false_ne_true | with_reducible exact absurd hc0.symm Bool.false_ne_true | (simp only [nrm] at hc0; omega) | (simp at hc0; done))
    all_goals
     try simp only [nrm] at hc0
     refine wp_seq_k ?_; intro K4 hK4
     refine wlit ?_
     refine wl_e rfl ?_; intro K hK
     refine ow_call Try.func5 rfl rfl (evs_nil) (law16_awake_c _) ?_
     rintro e w ⟨rfl, hk⟩
     refine ⟨_, rfl, ?_⟩
     replace hS := hS.kept hk
     clear hk
     refine hK _ _ ?_; clear hK K
     refine wl_v (x_assign (tmB rfl rfl)) ?_
     refine wl_nil ?_
     refine then_n (hK4 _ _ ?_); clear hK4 K4
     refine wp_ret ?_
     refine then_r ?_
     refine ret1 rfl (.tmp rfl (show _ = Value.bool _ from rfl)) ?_
     exact ⟨rfl, hS.kp.below⟩
  try (exfalso; first | with_reducible exact absurd hc0 Bool.false_ne_true | with_reducible exact absurd hc0.symm Bool.false_ne_true | (simp only [nrm] at hc0; omega) | (simp at hc0; done))
  all_goals
   try simp only [nrm] at hc0
   refine wp_skip ?_
   refine then_n (hK2 _ _ ?_); clear hK2 K2
   refine wp_seq_k ?_; intro K5 hK5
   refine wlit ?_
   refine wl_v (x_move (tmS rfl rfl)) ?_
   refine wl_e rfl ?_; intro K hK
   refine ow_call Try.func6 rfl rfl (evs_cons (tmS rfl rfl) <| evs_nil) (light_c L nl cl l _ (viewV hS.ok 1 rfl) hll hnl) ?_
   rintro e w ⟨G, ng, cg, O, hng, hn12, hOk, hD, rfl, hn, hk⟩
   refine ⟨_, rfl, ?_⟩
   replace hS := hS.addn hk (New.view hn) -- +vo
   clear hn hk
   obtain ⟨R, hRd⟩ : ∃ R, R = ranked k b O := ⟨_, rfl⟩
   have hpf := pk_facts R
   have hRl : R.length ≤ O.length := by rw [hRd]; exact ranked_len k b O
   refine hK _ _ ?_; clear hK K
   refine wl_v (x_assign (tmS rfl rfl)) ?_
   refine wl_nil ?_
   refine then_n (hK5 _ _ ?_); clear hK5 K5
   refine wp_seq_k ?_; intro K6 hK6
   refine rg_startk 0 hS mixed_ ?_
   clear hS; intro w hS
   refine rg_take 0 rfl rfl (by kernel_rfl) (by kernel_rfl) (by kernel_rfl) (want_0) (fun w hok => x_loadA (cs := [_, _, _, _, _, _, _, _, _, _, _, _, _, _, _, _]) Try.underlying22 rfl ts_22 (tmP rfl rfl) (rangeB hok 1 rfl rfl)) ?_
   refine rg_take 1 rfl rfl (by kernel_rfl) (by kernel_rfl) (by kernel_rfl) (want_0) (fun w hok => x_move (tmS rfl rfl)) ?_
   refine rg_take 3 rfl rfl (by kernel_rfl) (by kernel_rfl) (by kernel_rfl) (want_0) (fun w hok => x_move (tmS rfl rfl)) ?_
   refine rg_take 5 rfl rfl (by kernel_rfl) (by kernel_rfl) (by kernel_rfl) (want_0) (fun w hok => x_loadA (cs := [_, _, _, _, _, _, _, _, _, _, _, _, _, _, _, _]) Try.underlying22 rfl ts_22 (tmP rfl rfl) (rangeB hok 1 rfl rfl)) ?_
   refine rg_take 6 rfl rfl (by kernel_rfl) (by kernel_rfl) (by kernel_rfl) (want_0) (fun w hok => x_move (tmS rfl rfl)) ?_
   refine rg_take 7 rfl rfl (by kernel_rfl) (by kernel_rfl) (by kernel_rfl) (want_0) (fun w hok => x_move (tmS rfl rfl)) ?_
   refine rg_step 2 rfl (by kernel_rfl) (want_0) (oks_drop hS 0 rfl) ?_; intro K hK
   refine ow_call Try.func8 rfl rfl (evs_cons (tmS rfl rfl) <| evs_nil) (to16_c G ng cg O _ (viewV hS.ok 0 rfl) hng.symm (by omega)) ?_
   rintro e w ⟨T, ct, rfl, hn, hk⟩
   refine ⟨_, rfl, ?_⟩
   replace hS := hS.addn hk (New.view hn) -- +vt
   clear hn hk
   refine hK _ _ ?_; clear hK K
   refine rg_step 4 rfl (by kernel_rfl) (want_0) (oks_drop hS 1 rfl) ?_; intro K hK
   refine ow_call Try.func7 rfl rfl (evs_cons (tmA rfl rfl) <| evs_cons (tmS rfl rfl) <| evs_cons (tmS rfl rfl) <| evs_nil) (rank_c k T ng ct O B nb cb b _ hkb (viewV hS.ok 0 rfl) hng.symm hn12 hOk (viewV hS.ok 4 rfl) hl hb (by omega)) ?_
   rintro e w ⟨E1, m1, d1, hm1, rfl, hn, hk⟩
   refine ⟨_, rfl, ?_⟩
   rw [← hRd] at hm1 hn
   replace hS := hS.addn hk (New.view hn) -- +ve
   clear hn hk
   refine hK _ _ ?_; clear hK K
   refine rg_step 8 rfl (by kernel_rfl) (want_0) (oks_drop hS 2 rfl) ?_; intro K hK
   refine ow_call Try.func9 rfl rfl (evs_cons (tmA rfl rfl) <| evs_cons (tmS rfl rfl) <| evs_cons (tmS rfl rfl) <| evs_nil) (rrank_c k G ng cg O B nb cb b _ hkb (viewV hS.ok 2 rfl) hng.symm hn12 hOk (viewV hS.ok 5 rfl) hl hb (by omega)) ?_
   rintro e w ⟨E2, m2, d2, hm2, rfl, hn, hk⟩
   refine ⟨_, rfl, ?_⟩
   rw [← hRd] at hm2 hn
   replace hS := hS.addn hk (New.view hn) -- +vf
   clear hn hk
   subst hm1
   subst hm2
   refine hK _ _ ?_; clear hK K
   refine rg_take 9 rfl rfl (by kernel_rfl) (by kernel_rfl) (by kernel_rfl) (want_0) (fun w hok => x_assign (tmS rfl rfl)) ?_
   refine rg_take 10 rfl rfl (by kernel_rfl) (by kernel_rfl) (by kernel_rfl) (want_0) (fun w hok => x_assign (tmS rfl rfl)) ?_
   refine rg_done (oks_drop hS 3 rfl) (by kernel_rfl) ?_
   refine then_n (hK6 _ _ ?_); clear hK6 K6
   refine wp_seq_k ?_; intro K7 hK7
   refine wp_seq_k ?_; intro K8 hK8
   refine wlit ?_
   refine wl_v (x_move (tmS rfl rfl)) ?_
   refine wl_v (x_len Try.underlying27 (tmS rfl rfl)) ?_
   refine wl_v (x_move (tmS rfl rfl)) ?_
   refine wl_v (x_len Try.underlying27 (tmS rfl rfl)) ?_
   refine wl_v (x_neq (tmI rfl rfl) (tmI rfl rfl)) ?_
   refine wl_nil ?_
   refine then_n (hK8 _ _ ?_); clear hK8 K8
   refine cnd (tm rfl) (fun hc1 => ?_) (fun hc1 => ?_)
   · exfalso
     simp at hc1
   try (exfalso; first | with_reducible exact absurd hc1 Bool.false_ne_true | with_reducible exact absurd hc1.symm Bool.false_ne_true | (simp only [nrm] at hc1; omega) | (simp at hc1; done))
   all_goals
    try simp only [nrm] at hc1
    refine wp_skip ?_
    refine then_n (hK7 _ _ ?_); clear hK7 K7
    refine wp_seq_k ?_; intro K9 hK9
    refine wp_seq_k ?_; intro K10 hK10
    refine wlit ?_
    refine wl_v (x_assign (ev_cN 0)) ?_
    refine wl_nil ?_
    refine then_n (hK10 _ _ ?_); clear hK10 K10
    refine wp_block ?_
    have hS := hS.pick [0, 1, 3, 4, 6] rfl rfl
    refine lp [6, 10, 34, 35, 36, 37, 38, 39, 40, 41, 42, 43, 44, 45, 46, 47, 48] (fun mz g w => ∃ (i : Nat), mz = R.length - i ∧ g 10 = .int .i64 (i : Int) ∧ St [] w0 [.vw E2 (idv R), .vw E1 (idv R), .vw G (flat mv O), .blk g0_0 22 (kC k), .vw B (b.map u8v)] w ∧ (i ≤ R.length)) ?_ ?_
    · exact ⟨_, 0, rfl, (by first | rfl | go_num | exact congrArg (Value.int _) (by first | omega | (simp; done) | (simp; omega))), hS, (by omega)⟩
    · clear hS; intro mz g w hI
      obtain ⟨i, rfl, hs10, hS, hi⟩ := hI
      refine fr_know (d := 10) hs10 ?_; clear hs10
      refine wp_seq_k ?_; intro K11 hK11
      refine wp_seq_k ?_; intro K12 hK12
      refine wlit ?_
      refine wl_v (x_move (tmI rfl rfl)) ?_
      refine wl_v (x_move (tmS rfl rfl)) ?_
      refine wl_v (x_len Try.underlying27 (tmS rfl rfl)) ?_
      refine wl_v (x_lss (tmI rfl rfl) (tmI rfl rfl)) ?_
      refine wl_nil ?_
      refine then_n (hK12 _ _ ?_); clear hK12 K12
      refine cnd (tm rfl) (fun hc2 => ?_) (fun hc2 => ?_)
      · try (exfalso; first | with_reducible exact absurd hc2 Bool.false_ne_true | with_reducible exact absurd hc2.symm Bool.false_ne_true | (simp only [nrm] at hc2; omega) | (simp at hc2; done))
        all_goals
         try simp only [nrm] at hc2
         obtain ⟨b1, o1, rfl⟩ := view_some (viewV hS.ok 0 rfl) (by rw [idv_len]; omega)
         obtain ⟨b2, o2, rfl⟩ := view_some (viewV hS.ok 1 rfl) (by rw [idv_len]; omega)
         have hgi := idv_get (l := R) (i := i) (by omega)
         refine wp_skip ?_
         refine then_n (hK11 _ _ ?_); clear hK11 K11
         refine wp_seq_k ?_; intro K13 hK13
         refine wp_block ?_
         refine wp_seq_k ?_; intro K14 hK14
         refine rg_startk 0 hS mixed_ ?_
         clear hS; intro w hS
         refine rg_take 0 rfl rfl (by kernel_rfl) (by kernel_rfl) (by kernel_rfl) (want_0) (fun w hok => x_move (tmS rfl rfl)) ?_
         refine rg_take 1 rfl rfl (by kernel_rfl) (by kernel_rfl) (by kernel_rfl) (want_0) (fun w hok => x_move (tmI rfl rfl)) ?_
         refine rg_take 2 rfl rfl (by kernel_rfl) (by kernel_rfl) (by kernel_rfl) (want_0) (fun w hok => x_ixs1 Try.underlying27 ts_3 (tmS rfl rfl) (tmI rfl rfl) (by omega)) ?_
         refine rg_take 3 rfl rfl (by kernel_rfl) (by kernel_rfl) (by kernel_rfl) (want_0) (fun w hok => x_load (v := .int .i64 (R.getD i default).1) Try.underlying3 rfl (tmP rfl rfl) (cellV hok 1 rfl hgi)) ?_
         refine rg_take 4 rfl rfl (by kernel_rfl) (by kernel_rfl) (by kernel_rfl) (want_0) (fun w hok => x_move (tmS rfl rfl)) ?_
         refine rg_take 5 rfl rfl (by kernel_rfl) (by kernel_rfl) (by kernel_rfl) (want_0) (fun w hok => x_move (tmI rfl rfl)) ?_
         refine rg_take 6 rfl rfl (by kernel_rfl) (by kernel_rfl) (by kernel_rfl) (want_0) (fun w hok => x_ixs1 Try.underlying27 ts_3 (tmS rfl rfl) (tmI rfl rfl) (by omega)) ?_
         refine rg_take 7 rfl rfl (by kernel_rfl) (by kernel_rfl) (by kernel_rfl) (want_0) (fun w hok => x_load (v := .int .i64 (R.getD i default).1) Try.underlying3 rfl (tmP rfl rfl) (cellV hok 0 rfl hgi)) ?_
         refine rg_take 8 rfl rfl (by kernel_rfl) (by kernel_rfl) (by kernel_rfl) (want_0) (fun w hok => x_neq (tmI rfl rfl) (tmI rfl rfl)) ?_
         refine rg_done (oks_drop hS 0 rfl) (by kernel_rfl) ?_
         refine then_n (hK14 _ _ ?_); clear hK14 K14
         refine cnd (tm rfl) (fun hc3 => ?_) (fun hc3 => ?_)
         · exfalso
           simp at hc3
         try (exfalso; first | with_reducible exact absurd hc3 Bool.false_ne_true | with_reducible exact absurd hc3.symm Bool.false_ne_true | (simp only [nrm] at hc3; omega) | (simp at hc3; done))
         all_goals
          try simp only [nrm] at hc3
          refine wp_skip ?_
          refine inb_n ?_
          refine then_n (hK13 _ _ ?_); clear hK13 K13
          refine wlit ?_
          refine wl_v (x_move (tmI rfl rfl)) ?_
          first
           | refine wl_v (x_addN (tmI rfl rfl) (ev_cN 1) (fit_i64 (by omega))) ?_
           | refine wl_v (x_addI (tmI rfl rfl) (ev_cN 1) (IntWalk.i64_in _ (by omega))) ?_
           | refine wl_v (x_add (tmI rfl rfl) (ev_cN 1)) ?_
          refine wl_v (x_assign (tmI rfl rfl)) ?_
          refine wl_nil ?_
          exact then_n ⟨_, _, rfl, (by show _ < _; omega), (by repeat (first | exact agree_self | exact agree_refl | refine agree_upd rfl ?_ | refine agree_mix rfl ?_)), i + 1, rfl, (by first | rfl | go_num | exact congrArg (Value.int _) (by first | omega | (simp; done) | (simp; omega))), hS, (by omega)⟩
      try (exfalso; first | with_reducible exact absurd hc2 Bool.false_ne_true | with_reducible exact absurd hc2.symm Bool.false_ne_true | (simp only [nrm] at hc2; omega) | (simp at hc2; done))
      all_goals
       try simp only [nrm] at hc2
       refine wp_exit ?_
       refine then_x ?_; clear hK11 K11
       refine then_x ?_
       refine inb_x ?_
       refine then_n (hK9 _ _ ?_); clear hK9 K9
       refine wp_seq_k ?_; intro K15 hK15
       refine wp_seq_k ?_; intro K16 hK16
       refine wlit ?_
       refine wl_v (x_assign (ev_cN 0)) ?_
       refine wl_nil ?_
       refine then_n (hK16 _ _ ?_); clear hK16 K16
       refine wp_block ?_
       have hS := hS.pick [0, 2, 3, 4] rfl rfl
       refine lp [6, 11, 49, 50, 51, 52, 53, 54, 55, 56, 57, 58, 59, 60, 61, 62, 63, 64, 65, 66, 67, 68, 69, 70] (fun mz g w => ∃ (j : Nat), mz = ng - j ∧ g 11 = .int .i64 (j : Int) ∧ St [] w0 [.vw E2 (idv R), .vw G (flat mv O), .blk g0_0 22 (kC k), .vw B (b.map u8v)] w ∧ (j ≤ ng)) ?_ ?_
       · exact ⟨_, 0, rfl, (by first | rfl | go_num | exact congrArg (Value.int _) (by first | omega | (simp; done) | (simp; omega))), hS, (by omega)⟩
       · clear hS; intro mz g w hI
         obtain ⟨j, rfl, hs11, hS, hj⟩ := hI
         refine fr_know (d := 11) hs11 ?_; clear hs11
         refine wp_seq_k ?_; intro K17 hK17
         refine wp_seq_k ?_; intro K18 hK18
         refine wlit ?_
         refine wl_v (x_move (tmI rfl rfl)) ?_
         refine wl_v (x_move (tmS rfl rfl)) ?_
         refine wl_v (x_len Try.underlying23 (tmS rfl rfl)) ?_
         refine wl_v (x_lss (tmI rfl rfl) (tmI rfl rfl)) ?_
         refine wl_nil ?_
         refine then_n (hK18 _ _ ?_); clear hK18 K18
         refine cnd (tm rfl) (fun hc4 => ?_) (fun hc4 => ?_)
         · try (exfalso; first | with_reducible exact absurd hc4 Bool.false_ne_true | with_reducible exact absurd hc4.symm Bool.false_ne_true | (simp only [nrm] at hc4; omega) | (simp at hc4; done))
           all_goals
            try simp only [nrm] at hc4
            obtain ⟨b1, o1, rfl⟩ := view_some (viewV hS.ok 1 rfl) (by rw [flat_length mv_len]; omega)
            have hpm := hOk _ (getD_mem (l := O) (i := j) (by omega))
            refine wp_skip ?_
            refine then_n (hK17 _ _ ?_); clear hK17 K17
            refine wp_seq_k ?_; intro K19 hK19
            refine wp_block ?_
            refine wp_seq_k ?_; intro K20 hK20
            refine rg_startk 0 hS mixed_ ?_
            clear hS; intro w hS
            refine rg_take 0 rfl rfl (by kernel_rfl) (by kernel_rfl) (by kernel_rfl) (want_0) (fun w hok => x_loadA (cs := [_, _, _, _, _, _, _, _, _, _, _, _, _, _, _, _]) Try.underlying22 rfl ts_22 (tmP rfl rfl) (rangeB hok 2 rfl rfl)) ?_
            refine rg_take 1 rfl rfl (by kernel_rfl) (by kernel_rfl) (by kernel_rfl) (want_0) (fun w hok => x_move (tmS rfl rfl)) ?_
            refine rg_take 3 rfl rfl (by kernel_rfl) (by kernel_rfl) (by kernel_rfl) (want_0) (fun w hok => x_move (tmI rfl rfl)) ?_
            refine rg_take 6 rfl rfl (by kernel_rfl) (by kernel_rfl) (by kernel_rfl) (want_0) (fun w hok => x_move (tmS rfl rfl)) ?_
            refine rg_take 8 rfl rfl (by kernel_rfl) (by kernel_rfl) (by kernel_rfl) (want_0) (fun w hok => x_loadA (cs := [_, _, _, _, _, _, _, _, _, _, _, _, _, _, _, _]) Try.underlying22 rfl ts_22 (tmP rfl rfl) (rangeB hok 2 rfl rfl)) ?_
            refine rg_take 9 rfl rfl (by kernel_rfl) (by kernel_rfl) (by kernel_rfl) (want_0) (fun w hok => x_move (tmS rfl rfl)) ?_
            refine rg_take 10 rfl rfl (by kernel_rfl) (by kernel_rfl) (by kernel_rfl) (want_0) (fun w hok => x_move (tmI rfl rfl)) ?_
            refine rg_take 11 rfl rfl (by kernel_rfl) (by kernel_rfl) (by kernel_rfl) (want_0) (fun w hok => x_ixs Try.underlying23 ts_37 (tmS rfl rfl) (tmI rfl rfl) (by omega)) ?_
            refine rg_take 12 rfl rfl (by kernel_rfl) (by kernel_rfl) (by kernel_rfl) (want_0) (fun w hok => x_loadA (cs := mv (O.getD j default)) Try.underlying37 rfl (by exact ts_37) (tmP rfl rfl) (rangeVs hok 1 rfl mv_len (by omega))) ?_
            refine rg_take 13 rfl rfl (by kernel_rfl) (by kernel_rfl) (by kernel_rfl) (want_0) (fun w hok => x_move (tmS rfl rfl)) ?_
            refine rg_step 2 rfl (by kernel_rfl) (want_0) (oks_drop hS 0 rfl) ?_; intro K hK
            refine ow_call Try.func8 rfl rfl (evs_cons (tmS rfl rfl) <| evs_nil) (to16_c _ ng cg O _ (viewV hS.ok 1 rfl) hng.symm (by omega)) ?_
            rintro e w ⟨T2, ct2, rfl, hn, hk⟩
            refine ⟨_, rfl, ?_⟩
            obtain ⟨b3, o3, rfl⟩ := view_some (New.view hn).1 (by rw [flat_length mv_len]; omega)
            replace hS := hS.addn hk (New.view hn) -- +vt
            clear hn hk
            refine hK _ _ ?_; clear hK K
            refine rg_take 4 rfl rfl (by kernel_rfl) (by kernel_rfl) (by kernel_rfl) (want_0) (fun w hok => x_ixs Try.underlying29 ts_35 (tmS rfl rfl) (tmI rfl rfl) (by omega)) ?_
            refine rg_step 5 rfl (by kernel_rfl) (want_0) (oks_drop hS 1 rfl) ?_; intro K hK
            refine ow_v (x_loadA (cs := mv (O.getD j default)) Try.underlying35 rfl (by exact ts_35) (tmP rfl rfl) (rangeVs hS.ok 0 rfl mv_len (by omega))) ?_
            refine hK _ _ ?_; clear hK K
            refine rg_step 7 rfl (by kernel_rfl) (want_0) (oks_drop hS 1 rfl) ?_; intro K hK
            refine ow_call Try.func10 rfl rfl (evs_cons (tmA rfl rfl) <| evs_cons (tmA rfl rfl) <| evs_cons (tmS rfl rfl) <| evs_nil) (score_p k (O.getD j default) hpm B nb cb b _ hkb (viewV hS.ok 4 rfl) hl hb (by omega)) ?_
            rintro e w ⟨rfl, hk⟩
            refine ⟨_, rfl, ?_⟩
            replace hS := hS.kept hk
            clear hk
            refine hK _ _ ?_; clear hK K
            refine rg_step 14 rfl (by kernel_rfl) (want_0) (oks_drop hS 1 rfl) ?_; intro K hK
            refine ow_call Try.func11 rfl rfl (evs_cons (tmA rfl rfl) <| evs_cons (tmA rfl rfl) <| evs_cons (tmS rfl rfl) <| evs_nil) (rscore_p k (O.getD j default) hpm B nb cb b _ hkb (viewV hS.ok 4 rfl) hl hb (by omega)) ?_
            rintro e w ⟨rfl, hk⟩
            refine ⟨_, rfl, ?_⟩
            replace hS := hS.kept hk
            clear hk
            generalize sco k b (O.getD j default) = sx at *
            refine hK _ _ ?_; clear hK K
            refine rg_take 15 rfl rfl (by kernel_rfl) (by kernel_rfl) (by kernel_rfl) (want_0) (fun w hok => x_neq (tmI rfl rfl) (tmI rfl rfl)) ?_
            refine rg_done (oks_drop hS 1 rfl) (by kernel_rfl) ?_
            refine then_n (hK20 _ _ ?_); clear hK20 K20
            refine cnd (tm rfl) (fun hc5 => ?_) (fun hc5 => ?_)
            · exfalso
              simp at hc5
            try (exfalso; first | with_reducible exact absurd hc5 Bool.false_ne_true | with_reducible exact absurd hc5.symm Bool.false_ne_true | (simp only [nrm] at hc5; omega) | (simp at hc5; done))
            all_goals
             try simp only [nrm] at hc5
             refine wp_skip ?_
             refine inb_n ?_
             refine then_n (hK19 _ _ ?_); clear hK19 K19
             refine wlit ?_
             refine wl_v (x_move (tmI rfl rfl)) ?_
             first
              | refine wl_v (x_addN (tmI rfl rfl) (ev_cN 1) (fit_i64 (by omega))) ?_
              | refine wl_v (x_addI (tmI rfl rfl) (ev_cN 1) (IntWalk.i64_in _ (by omega))) ?_
              | refine wl_v (x_add (tmI rfl rfl) (ev_cN 1)) ?_
             refine wl_v (x_assign (tmI rfl rfl)) ?_
             refine wl_nil ?_
             exact then_n ⟨_, _, rfl, (by show _ < _; omega), (by repeat (first | exact agree_self | exact agree_refl | refine agree_upd rfl ?_ | refine agree_mix rfl ?_)), j + 1, rfl, (by first | rfl | go_num | exact congrArg (Value.int _) (by first | omega | (simp; done) | (simp; omega))), hS.pick [1, 2, 3, 4] rfl rfl, (by omega)⟩
         try (exfalso; first | with_reducible exact absurd hc4 Bool.false_ne_true | with_reducible exact absurd hc4.symm Bool.false_ne_true | (simp only [nrm] at hc4; omega) | (simp at hc4; done))
         all_goals
          try simp only [nrm] at hc4
          refine wp_exit ?_
          refine then_x ?_; clear hK17 K17
          refine then_x ?_
          refine inb_x ?_
          refine then_n (hK15 _ _ ?_); clear hK15 K15
          refine wp_seq_k ?_; intro K21 hK21
          refine rg_startk 0 hS mixed_ ?_
          clear hS; intro w hS
          refine rg_take 0 rfl rfl (by kernel_rfl) (by kernel_rfl) (by kernel_rfl) (want_0) (fun w hok => x_loadA (cs := [_, _, _, _, _, _, _, _, _, _, _, _, _, _, _, _]) Try.underlying22 rfl ts_22 (tmP rfl rfl) (rangeB hok 2 rfl rfl)) ?_
          refine rg_take 1 rfl rfl (by kernel_rfl) (by kernel_rfl) (by kernel_rfl) (want_0) (fun w hok => x_move (tmS rfl rfl)) ?_
          refine rg_take 3 rfl rfl (by kernel_rfl) (by kernel_rfl) (by kernel_rfl) (want_0) (fun w hok => x_move (tmS rfl rfl)) ?_
          refine rg_step 2 rfl (by kernel_rfl) (want_0) (oks_drop hS 0 rfl) ?_; intro K hK
          refine ow_call Try.func8 rfl rfl (evs_cons (tmS rfl rfl) <| evs_nil) (to16_c G ng cg O _ (viewV hS.ok 1 rfl) hng.symm (by omega)) ?_
          rintro e w ⟨T3, ct3, rfl, hn, hk⟩
          refine ⟨_, rfl, ?_⟩
          replace hS := hS.addn hk (New.view hn) -- +vt
          clear hn hk
          refine hK _ _ ?_; clear hK K
          refine rg_step 4 rfl (by kernel_rfl) (want_0) (oks_drop hS 1 rfl) ?_; intro K hK
          refine ow_call Try.func12 rfl rfl (evs_cons (tmA rfl rfl) <| evs_cons (tmS rfl rfl) <| evs_cons (tmS rfl rfl) <| evs_nil) (pick_c k T3 ng ct3 O B nb cb b _ hkb (viewV hS.ok 0 rfl) hng.symm hn12 hOk (viewV hS.ok 4 rfl) hl hb (by omega)) ?_
          rintro e w ⟨rfl, hk⟩
          refine ⟨_, rfl, ?_⟩
          replace hS := hS.kept hk
          clear hk
          rw [← hRd]
          obtain ⟨hB, h0, h1⟩ := hpf
          generalize pkB R = bB at *
          generalize pkI R = nn at *
          refine hK _ _ ?_; clear hK K
          refine rg_take 5 rfl rfl (by kernel_rfl) (by kernel_rfl) (by kernel_rfl) (want_0) (fun w hok => x_move (tmT rfl rfl)) ?_
          refine rg_take 6 rfl rfl (by kernel_rfl) (by kernel_rfl) (by kernel_rfl) (want_0) (fun w hok => x_ext (tmT rfl rfl) rfl) ?_
          refine rg_take 7 rfl rfl (by kernel_rfl) (by kernel_rfl) (by kernel_rfl) (want_0) (fun w hok => x_ext (tmT rfl rfl) rfl) ?_
          refine rg_take 8 rfl rfl (by kernel_rfl) (by kernel_rfl) (by kernel_rfl) (want_0) (fun w hok => x_assign (tmI rfl rfl)) ?_
          refine rg_take 9 rfl rfl (by kernel_rfl) (by kernel_rfl) (by kernel_rfl) (want_0) (fun w hok => x_assign (tmB rfl rfl)) ?_
          refine rg_done (oks_drop hS 1 rfl) (by kernel_rfl) ?_
          refine then_n (hK21 _ _ ?_); clear hK21 K21
          refine wp_seq_k ?_; intro K22 hK22
          refine wlit ?_
          refine wl_v (x_move (tmB rfl rfl)) ?_
          refine wl_v (x_move (tmS rfl rfl)) ?_
          refine wl_v (x_len Try.underlying27 (tmS rfl rfl)) ?_
          refine wl_v (x_gtr (tmI rfl rfl) (ev_cN 0)) ?_
          refine wl_v (x_beql Try.underlying4 (tmB rfl rfl) (tmB rfl rfl)) ?_
          refine wl_v (x_move (tmB rfl rfl)) ?_
          refine gs_wls (tm (t := 84) rfl) (fun hg18_5 => ?_) (fun hg18_5 => ?_)
          · exfalso
            simp [hB] at hg18_5
          have hg18_5' := hg18_5; (try simp only [nrm] at hg18_5'); try (exfalso; first | with_reducible exact absurd hg18_5 Bool.false_ne_true | with_reducible exact absurd hg18_5.symm Bool.false_ne_true | omega | (simp at hg18_5; done))
          all_goals
           refine wl_gv (want_y rfl rfl rfl rfl (by rw [hg18_5]; rfl)) (x_move (tmB rfl rfl)) ?_
           refine wl_gv (want_y rfl rfl rfl rfl (by rw [hg18_5]; rfl)) (x_move (tmB rfl rfl)) ?_
           refine gs_wl (tm (t := 86) rfl) (fun hg18_7 => ?_) (fun hg18_7 => ?_)
           · have hg18_7' := hg18_7; (try simp only [nrm] at hg18_7'); try (exfalso; first | with_reducible exact absurd hg18_7 Bool.false_ne_true | with_reducible exact absurd hg18_7.symm Bool.false_ne_true | omega | (simp at hg18_7; done))
             all_goals
              have hR0 : 0 < R.length := by
                have := of_decide_eq_true (hB.symm.trans hg18_7)
                omega
              have hnn := h0 hR0
              obtain ⟨b1, o1, rfl⟩ := view_some (viewV hS.ok 1 rfl) (by rw [idv_len]; omega)
              refine wl_gv (want_y rfl rfl rfl rfl (by rw [hg18_7]; rfl)) (x_move (tmI rfl rfl)) ?_
              refine wl_gv (want_y rfl rfl rfl rfl (by rw [hg18_7]; rfl)) (x_move (tmS rfl rfl)) ?_
              refine wl_gv (want_y rfl rfl rfl rfl (by rw [hg18_7]; rfl)) (x_ixs1 Try.underlying27 ts_3 (tmS rfl rfl) (ev_cN 0) (by omega)) ?_
              refine wl_gv (want_y rfl rfl rfl rfl (by rw [hg18_7]; rfl)) (x_load (v := .int .i64 (R.getD 0 default).1) Try.underlying3 rfl (tmP rfl rfl) (cellV hS.ok 1 rfl (idv_get hR0))) ?_
              refine wl_gv (want_y rfl rfl rfl rfl (by rw [hg18_7]; rfl)) (x_eql (tmI rfl rfl) (tmI rfl rfl)) ?_
              refine wl_gv (want_y rfl rfl rfl rfl (by rw [hg18_5]; rfl)) (x_pickT (tmB rfl rfl) hg18_7 (tmB rfl rfl)) ?_
              refine wl_gv (want_y rfl rfl rfl rfl (by rw [hg18_5]; rfl)) (x_move (tmB rfl rfl)) ?_
              refine gs_wls (tm (t := 93) rfl) (fun hg18_14 => ?_) (fun hg18_14 => ?_)
              · exfalso
                rw [hnn] at hg18_14
                simp at hg18_14
              have hg18_14' := hg18_14; (try simp only [nrm] at hg18_14'); try (exfalso; first | with_reducible exact absurd hg18_14 Bool.false_ne_true | with_reducible exact absurd hg18_14.symm Bool.false_ne_true | omega | (simp at hg18_14; done))
              all_goals
               refine wl_s rfl (want_n rfl rfl rfl rfl (by rw [hg18_14]; rfl)) ?_
               refine wl_s rfl (want_n rfl rfl rfl rfl (by rw [hg18_14]; rfl)) ?_
               refine wl_s rfl (want_n rfl rfl rfl rfl (by rw [hg18_14]; rfl)) ?_
               refine wl_s rfl (want_u rfl rfl rfl rfl) ?_
               refine wl_s rfl (want_u rfl rfl rfl rfl) ?_
               refine wl_s rfl (want_n rfl rfl rfl rfl (by rw [hg18_14]; rfl)) ?_
               refine wl_gv (want_y rfl rfl rfl rfl (by rw [hg18_5]; rfl)) (x_pickT (tmB rfl rfl) hg18_14 ev_c) ?_
               refine wl_v (x_pickT (tmB rfl rfl) hg18_5 (tmB rfl rfl)) ?_
               refine wl_v (x_move (tmB rfl rfl)) ?_
               refine wl_g (want_y rfl rfl rfl rfl rfl) ?_; intro K hK
               refine ow_call Try.func5 rfl rfl (evs_nil) (law16_awake_c _) ?_
               rintro e w ⟨rfl, hk⟩
               refine ⟨_, rfl, ?_⟩
               replace hS := hS.kept hk
               clear hk
               refine hK _ _ ?_; clear hK K
               refine wl_v (x_pickT (tmB rfl rfl) rfl (tmB rfl rfl)) ?_
               refine wl_v (x_assign (tmB rfl rfl)) ?_
               refine wl_nil ?_
               refine then_n (hK22 _ _ ?_); clear hK22 K22
               refine wp_ret ?_
               refine ret1 rfl (.tmp rfl (show _ = Value.bool _ from rfl)) ?_
               exact ⟨rfl, hS.kp.below⟩
           have hg18_7' := hg18_7; (try simp only [nrm] at hg18_7'); try (exfalso; first | with_reducible exact absurd hg18_7 Bool.false_ne_true | with_reducible exact absurd hg18_7.symm Bool.false_ne_true | omega | (simp at hg18_7; done))
           all_goals
            refine wl_s rfl (want_n rfl rfl rfl rfl (by rw [hg18_7]; rfl)) ?_
            refine wl_s rfl (want_n rfl rfl rfl rfl (by rw [hg18_7]; rfl)) ?_
            refine wl_s rfl (want_n rfl rfl rfl rfl (by rw [hg18_7]; rfl)) ?_
            refine wl_s rfl (want_n rfl rfl rfl rfl (by rw [hg18_7]; rfl)) ?_
            refine wl_s rfl (want_n rfl rfl rfl rfl (by rw [hg18_7]; rfl)) ?_
            refine wl_gv (want_y rfl rfl rfl rfl (by rw [hg18_5]; rfl)) (x_pickF (tmB rfl rfl) hg18_7 ev_c) ?_
            refine wl_gv (want_y rfl rfl rfl rfl (by rw [hg18_5]; rfl)) (x_move (tmB rfl rfl)) ?_
            refine wl_gv (want_y rfl rfl rfl rfl rfl) (x_move (tmB rfl rfl)) ?_
            refine wl_gv (want_y rfl rfl rfl rfl rfl) (x_not (tmB rfl rfl)) ?_
            refine wl_gv (want_y rfl rfl rfl rfl rfl) (x_move (tmB rfl rfl)) ?_
            refine gs_wls (tm (t := 96) rfl) (fun hg18_17 => ?_) (fun hg18_17 => ?_)
            · exfalso
              rw [hg18_7] at hg18_17
              cases hg18_17
            have hg18_17' := hg18_17; (try simp only [nrm] at hg18_17'); try (exfalso; first | with_reducible exact absurd hg18_17 Bool.false_ne_true | with_reducible exact absurd hg18_17.symm Bool.false_ne_true | omega | (simp at hg18_17; done))
            all_goals
             refine wl_gv (want_y rfl rfl rfl rfl (by rw [hg18_17]; rfl)) (x_move (tmI rfl rfl)) ?_
             refine wl_gv (want_y rfl rfl rfl rfl (by rw [hg18_17]; rfl)) (x_eql (tmI rfl rfl) (ev_cN 0)) ?_
             refine wl_gv (want_y rfl rfl rfl rfl rfl) (x_pickT (tmB rfl rfl) hg18_17 (tmB rfl rfl)) ?_
             refine wl_gv (want_y rfl rfl rfl rfl (by rw [hg18_5]; rfl)) (x_pickF (tmB rfl rfl) rfl (tmB rfl rfl)) ?_
             refine wl_v (x_pickT (tmB rfl rfl) hg18_5 (tmB rfl rfl)) ?_
             refine wl_v (x_move (tmB rfl rfl)) ?_
             refine gs_wls (tm (t := 102) rfl) (fun hg18_23 => ?_) (fun hg18_23 => ?_)
             · exfalso
               have h2 := of_decide_eq_false (hB.symm.trans hg18_7)
               have h3 := h1 (by omega)
               rw [h3] at hg18_23
               simp at hg18_23
             have hg18_23' := hg18_23; (try simp only [nrm] at hg18_23'); try (exfalso; first | with_reducible exact absurd hg18_23 Bool.false_ne_true | with_reducible exact absurd hg18_23.symm Bool.false_ne_true | omega | (simp at hg18_23; done))
             all_goals
              refine wl_g (want_y rfl rfl rfl rfl (by rw [hg18_23]; rfl)) ?_; intro K hK
              refine ow_call Try.func5 rfl rfl (evs_nil) (law16_awake_c _) ?_
              rintro e w ⟨rfl, hk⟩
              refine ⟨_, rfl, ?_⟩
              replace hS := hS.kept hk
              clear hk
              refine hK _ _ ?_; clear hK K
              refine wl_v (x_pickT (tmB rfl rfl) hg18_23 (tmB rfl rfl)) ?_
              refine wl_v (x_assign (tmB rfl rfl)) ?_
              refine wl_nil ?_
              refine then_n (hK22 _ _ ?_); clear hK22 K22
              refine wp_ret ?_
              refine ret1 rfl (.tmp rfl (show _ = Value.bool _ from rfl)) ?_
              exact ⟨rfl, hS.kp.below⟩
theorem walk (v0 v1 : Value) (B : Option Addr) (nb cb : Nat) (b : List Nat) (w0 : World) {H : Type} {enc : TypeId × Value → H} {r : Reach} {b0 b1 : Nat} {d0 d1 : DataW H} {p0 p1 : List MemPlace}
    (hval0 : Value.okWide Try.prog w0 r b0 22 v0) (hd0 : DataW.Trod enc Try.prog w0 0 (fun _ => true) true 22 v0 d0 p0)
    (hval1 : Value.okWide Try.prog w0 r b1 23 v1) (hd1 : DataW.Trod enc Try.prog w0 0 (fun _ => true) true 23 v1 d1 p1) (hlt1 : ∀ p ∈ p1, p.block < w0.heap.size)
    (r2 : b.length = nb ∧ (B = none → cb = 0) ∧ BView w0 w0.heap.size B b ∧ nb ≤ cb) :
    Calls Try.prog 3 #[v0, v1, .slice B nb cb] w0 fun e w' => e = .returned (.bool true) ∧ Below w0.heap.size w0 w' := by
  obtain ⟨k, rfl, hkb⟩ := arg_k16 Try.underlying22 Try.underlying5 (by kernel_rfl) (by kernel_rfl) hval0 hd0
  obtain ⟨L, cl, l, rfl, _, hlc, hcm, hvl⟩ := open_mbs hval1 hd1 hlt1
  obtain ⟨hl, _, ⟨hb, hv⟩, _⟩ := r2
  have hmx : maxLen = 9223372036854775807 := by simp [maxLen]
  rw [hmx] at hcm
  exact walk_all k L l.length cl l B nb cb b w0 hkb hvl rfl (Nat.le_trans hlc hcm) hv hl hb
end HrwRanks
end Go.Proofs.Ytgfmjgfeiokcdaa
