
/- SpreadPlaces at sizes that may not be, or no values. Conditions: as the theorem says. -/
import Derived.Test.YtchpcijmgnfkfaaSpreadE
namespace Go.Proofs.Ytchpcijmgnfkfaa
open Go.RowKit
namespace SpreadPlaces
set_option maxRecDepth 100000 in
set_option maxHeartbeats 16000000 in
theorem walk_bad (z : Int) (A1 : Option Addr) (c1 : Nat) (l1 : List Int) (s : Nat) (gone : Int) (A4 : Option Addr) (c4 : Nat) (l4 : List Int) (w0 : World)
    (hv1 : View w0 w0.heap.size A1 (l1.map i64v)) (hc1 : l1.length ≤ c1) (hv4 : View w0 w0.heap.size A4 (l4.map i64v)) (hc4 : l4.length ≤ c4) (hs2 : s < 4294967296)
    (hz1 : -9223372036854775808 ≤ z) (hz2 : z ≤ 9223372036854775807) (hbad : l1.length = 0 ∨ ∀ j, j ≤ 12 → z ≠ ((2 ^ j : Nat) : Int)) :
    Calls Try.prog 6 #[.int .i64 z, .slice A1 l1.length c1, .int .u32 (s : Int), .int .i64 gone, .slice A4 l4.length c4] w0 fun e w' => e = .returned (.bool true) ∧ Below w0.heap.size w0 w' := by
  have hS := ((St.sv w0).vcons rfl hv1).vcons rfl hv4
  have hnew : ∀ w, Calls Try.prog 36 #[.int .i64 z, .slice A1 l1.length c1] w fun e w' => e = .returned (.tuple #[.agg #[.slice none 0 0], .int .i64 1]) ∧ Kp [] w w' := by
    intro w
    by_cases h3 : l1.length = 0 ∨ z < 1 ∨ 4096 < z
    · exact new_bad z _ A1 c1 w hz1 hz2 h3
    · obtain ⟨m, rfl⟩ := Int.eq_ofNat_of_zero_le (show 0 ≤ z by omega)
      refine new_bad2 m _ A1 c1 w (by omega) (by omega) ?_ (by omega)
      intro h4
      obtain ⟨j, hj, e⟩ := and_pow m (by omega) (by omega) h4
      rcases hbad with h5 | h5
      · omega
      · exact h5 j (by omega) (by rw [e])
  refine ent (n := 176) Try.func6 rfl rfl ?_
  refine wp_seq_k ?_; intro K1 hK1
  refine wlit ?_
  refine wl_v (x_assign ev_c) ?_
  refine wl_nil ?_
  refine then_n (hK1 _ _ ?_); clear hK1 K1
  refine wp_seq_k ?_; intro K2 hK2
  refine wp_seq_k ?_; intro K3 hK3
  refine wlit ?_
  refine wl_v (x_move (tmS rfl rfl)) ?_
  refine wl_v (x_len Try.underlying53 (tmS rfl rfl)) ?_
  refine wl_v (x_gtr (tmI rfl rfl) (ev_cN 100)) ?_
  refine wl_v (x_move (tmB rfl rfl)) ?_
  refine gs_wl (tm (t := 25) rfl) (fun hg1_3 => ?_) (fun hg1_3 => ?_)
  · have hg1_3' := hg1_3; (try simp only [nrm] at hg1_3'); try (exfalso; first | with_reducible exact absurd hg1_3 Bool.false_ne_true | with_reducible exact absurd hg1_3.symm Bool.false_ne_true | omega)
    all_goals
     refine wl_s rfl (want_n rfl rfl rfl rfl (by rw [hg1_3]; rfl)) ?_
     refine wl_s rfl (want_n rfl rfl rfl rfl (by rw [hg1_3]; rfl)) ?_
     refine wl_s rfl (want_n rfl rfl rfl rfl (by rw [hg1_3]; rfl)) ?_
     refine wl_v (x_pickT (tmB rfl rfl) hg1_3 ev_c) ?_
     refine wl_v (x_move (tmB rfl rfl)) ?_
     refine wl_s rfl (want_n rfl rfl rfl rfl rfl) ?_
     refine wl_s rfl (want_n rfl rfl rfl rfl rfl) ?_
     refine wl_s rfl (want_n rfl rfl rfl rfl rfl) ?_
     refine wl_s rfl (want_u rfl rfl rfl rfl) ?_
     refine wl_s rfl (want_u rfl rfl rfl rfl) ?_
     refine wl_s rfl (want_n rfl rfl rfl rfl rfl) ?_
     refine wl_v (x_pickT (tmB rfl rfl) rfl ev_c) ?_
     refine wl_nil ?_
     refine then_n (hK3 _ _ ?_); clear hK3 K3
     refine cnd_t (tmB rfl rfl) rfl ?_
     refine wp_seq_k ?_; intro K4 hK4
     refine wlit ?_
     refine wl_e rfl ?_; intro K hK
     refine ow_call Try.func35 rfl rfl (evs_nil) (law41_awake_c _) ?_
     rintro e w ⟨rfl, hk⟩
     refine ⟨_, rfl, ?_⟩
     replace hS := hS.kept hk
     refine hK _ _ ?_; clear hK K
     refine wl_v (x_assign (tmB rfl rfl)) ?_
     refine wl_nil ?_
     refine then_n (hK4 _ _ ?_); clear hK4 K4
     refine wp_ret ?_
     refine then_r ?_
     refine ret1 rfl (.tmp rfl (show _ = Value.bool _ from rfl)) ?_
     exact ⟨rfl, hS.kp.below⟩
  have hg1_3' := hg1_3; (try simp only [nrm] at hg1_3')
  refine wl_gv (want_y rfl rfl rfl rfl (by rw [hg1_3]; rfl)) (x_move (tmS rfl rfl)) ?_
  refine wl_gv (want_y rfl rfl rfl rfl (by rw [hg1_3]; rfl)) (x_len Try.underlying53 (tmS rfl rfl)) ?_
  refine wl_gv (want_y rfl rfl rfl rfl (by rw [hg1_3]; rfl)) (x_gtr (tmI rfl rfl) (ev_cN 100)) ?_
  refine wl_v (x_pickF (tmB rfl rfl) hg1_3 (tmB rfl rfl)) ?_
  refine wl_v (x_move (tmB rfl rfl)) ?_
  refine gs_wl (tm (t := 30) rfl) (fun hg1_8 => ?_) (fun hg1_8 => ?_)
  · have hg1_8' := hg1_8; (try simp only [nrm] at hg1_8'); try (exfalso; first | with_reducible exact absurd hg1_8 Bool.false_ne_true | with_reducible exact absurd hg1_8.symm Bool.false_ne_true | omega)
    all_goals
     refine wl_s rfl (want_n rfl rfl rfl rfl (by rw [hg1_8]; rfl)) ?_
     refine wl_s rfl (want_n rfl rfl rfl rfl (by rw [hg1_8]; rfl)) ?_
     refine wl_s rfl (want_n rfl rfl rfl rfl (by rw [hg1_8]; rfl)) ?_
     refine wl_s rfl (want_u rfl rfl rfl rfl) ?_
     refine wl_s rfl (want_u rfl rfl rfl rfl) ?_
     refine wl_s rfl (want_n rfl rfl rfl rfl (by rw [hg1_8]; rfl)) ?_
     refine wl_v (x_pickT (tmB rfl rfl) hg1_8 ev_c) ?_
     refine wl_nil ?_
     refine then_n (hK3 _ _ ?_); clear hK3 K3
     refine cnd_t (tmB rfl rfl) rfl ?_
     refine wp_seq_k ?_; intro K5 hK5
     refine wlit ?_
     refine wl_e rfl ?_; intro K hK
     refine ow_call Try.func35 rfl rfl (evs_nil) (law41_awake_c _) ?_
     rintro e w ⟨rfl, hk⟩
     refine ⟨_, rfl, ?_⟩
     replace hS := hS.kept hk
     refine hK _ _ ?_; clear hK K
     refine wl_v (x_assign (tmB rfl rfl)) ?_
     refine wl_nil ?_
     refine then_n (hK5 _ _ ?_); clear hK5 K5
     refine wp_ret ?_
     refine then_r ?_
     refine ret1 rfl (.tmp rfl (show _ = Value.bool _ from rfl)) ?_
     exact ⟨rfl, hS.kp.below⟩
  have hg1_8' := hg1_8; (try simp only [nrm] at hg1_8')
  refine wl_gv (want_y rfl rfl rfl rfl (by rw [hg1_8]; rfl)) (x_move (tmI rfl rfl)) ?_
  refine wl_gv (want_y rfl rfl rfl rfl (by rw [hg1_8]; rfl)) (x_gtr (tmI rfl rfl) (ev_cN 512)) ?_
  refine wl_gv (want_y rfl rfl rfl rfl (by rw [hg1_8]; rfl)) (x_move (tmB rfl rfl)) ?_
  refine gs_wl (tm (t := 33) rfl) (fun hg1_11 => ?_) (fun hg1_11 => ?_)
  · have hg1_11' := hg1_11; (try simp only [nrm] at hg1_11'); try (exfalso; first | with_reducible exact absurd hg1_11 Bool.false_ne_true | with_reducible exact absurd hg1_11.symm Bool.false_ne_true | omega)
    all_goals
     refine wl_gv (want_y rfl rfl rfl rfl (by rw [hg1_11]; rfl)) (x_move (tmI rfl rfl)) ?_
     refine wl_gv (want_y rfl rfl rfl rfl (by rw [hg1_11]; rfl)) (x_leq (tmI rfl rfl) (ev_cN 4096)) ?_
     refine wl_gv (want_y rfl rfl rfl rfl (by rw [hg1_8]; rfl)) (x_pickT (tmB rfl rfl) hg1_11 (tmB rfl rfl)) ?_
     refine wl_v (x_pickF (tmB rfl rfl) hg1_8 (tmB rfl rfl)) ?_
     refine wl_nil ?_
     refine then_n (hK3 _ _ ?_); clear hK3 K3
     refine cnd (tm rfl) (fun hc0 => ?_) (fun hc0 => ?_)
     · try (exfalso; first | with_reducible exact absurd hc0 Bool.false_ne_true | with_reducible exact absurd hc0.symm Bool.false_ne_true | (simp only [nrm] at hc0; omega))
       all_goals
        try simp only [nrm] at hc0
        refine wp_seq_k ?_; intro K6 hK6
        refine wlit ?_
        refine wl_e rfl ?_; intro K hK
        refine ow_call Try.func35 rfl rfl (evs_nil) (law41_awake_c _) ?_
        rintro e w ⟨rfl, hk⟩
        refine ⟨_, rfl, ?_⟩
        replace hS := hS.kept hk
        refine hK _ _ ?_; clear hK K
        refine wl_v (x_assign (tmB rfl rfl)) ?_
        refine wl_nil ?_
        refine then_n (hK6 _ _ ?_); clear hK6 K6
        refine wp_ret ?_
        refine then_r ?_
        refine ret1 rfl (.tmp rfl (show _ = Value.bool _ from rfl)) ?_
        exact ⟨rfl, hS.kp.below⟩
     try simp only [nrm] at hc0
     refine wp_skip ?_
     refine then_n (hK2 _ _ ?_); clear hK2 K2
     refine wp_seq_k ?_; intro K7 hK7
     refine wlit ?_
     refine wl_v (x_move (tmI rfl rfl)) ?_
     refine wl_v (x_move (tmS rfl rfl)) ?_
     refine wl_e rfl ?_; intro K hK
     refine ow_call Try.func36 rfl rfl (evs_cons (tmI rfl rfl) <| evs_cons (tmS rfl rfl) <| evs_nil) (hnew _) ?_
     rintro e w ⟨rfl, hk⟩
     refine ⟨_, rfl, ?_⟩
     replace hS := hS.kept hk
     refine hK _ _ ?_; clear hK K
     refine wl_v (x_move (tmT rfl rfl)) ?_
     refine wl_v (x_ext (tmT rfl rfl) rfl) ?_
     refine wl_v (x_ext (tmT rfl rfl) rfl) ?_
     refine wl_e rfl ?_; intro K hK
     refine ow_alloc hS tz_61 rfl ?_
     clear hS; intro g3_6 w hg3_6 hS
     refine hK _ _ ?_; clear hK K
     refine wl_e rfl ?_; intro K hK
     refine ow_storeA hS 0 rfl ts_61 (tmP rfl rfl) (tmA rfl rfl) rfl rfl rfl ?_
     clear hS; intro w hS
     refine hK _ _ ?_; clear hK K
     refine wl_v (x_assign (tmI rfl rfl)) ?_
     refine wl_nil ?_
     refine then_n (hK7 _ _ ?_); clear hK7 K7
     refine wp_seq_k ?_; intro K8 hK8
     refine wlit ?_
     refine wl_e rfl ?_; intro K hK
     refine ow_alloc hS tz_61 rfl ?_
     clear hS; intro g4_0 w hg4_0 hS
     refine hK _ _ ?_; clear hK K
     refine wl_nil ?_
     refine then_n (hK8 _ _ ?_); clear hK8 K8
     refine wp_seq_k ?_; intro K9 hK9
     refine wp_seq_k ?_; intro K10 hK10
     refine wlit ?_
     refine wl_v (x_move (tmS rfl rfl)) ?_
     refine wl_v (x_len Try.underlying53 (tmS rfl rfl)) ?_
     refine wl_v (x_eql (tmI rfl rfl) (ev_cN 0)) ?_
     refine wl_v (x_move (tmB rfl rfl)) ?_
     refine gs_wl (tm (t := 48) rfl) (fun hg5_3 => ?_) (fun hg5_3 => ?_)
     · have hg5_3' := hg5_3; (try simp only [nrm] at hg5_3'); try (exfalso; first | with_reducible exact absurd hg5_3 Bool.false_ne_true | with_reducible exact absurd hg5_3.symm Bool.false_ne_true | omega)
       all_goals
        refine wl_s rfl (want_n rfl rfl rfl rfl (by rw [hg5_3]; rfl)) ?_
        refine wl_s rfl (want_n rfl rfl rfl rfl (by rw [hg5_3]; rfl)) ?_
        refine wl_s rfl (want_n rfl rfl rfl rfl (by rw [hg5_3]; rfl)) ?_
        refine wl_v (x_pickT (tmB rfl rfl) hg5_3 ev_c) ?_
        refine wl_nil ?_
        refine then_n (hK10 _ _ ?_); clear hK10 K10
        refine cnd_t (tmB rfl rfl) rfl ?_
        refine wp_seq_k ?_; intro K11 hK11
        refine wlit ?_
        refine wl_v (x_move (tmI rfl rfl)) ?_
        refine wl_v (x_eql (tmI rfl rfl) (ev_cN 1)) ?_
        refine wl_v (x_move (tmB rfl rfl)) ?_
        refine gs_wls (tm (t := 55) rfl) (fun hg6_2 => ?_) (fun hg6_2 => ?_)
        · exfalso
          exact absurd hg6_2 (by decide)
        have hg6_2' := hg6_2; (try simp only [nrm] at hg6_2')
        refine wl_gv (want_y rfl rfl rfl rfl (by rw [hg6_2]; rfl)) (x_loadA (cs := [_]) Try.underlying61 rfl ts_61 (tmP rfl rfl) (rangeB hS.ok 1 rfl rfl)) ?_
        refine wl_gv (want_y rfl rfl rfl rfl (by rw [hg6_2]; rfl)) (x_move (tmI rfl rfl)) ?_
        refine wl_g (want_y rfl rfl rfl rfl (by rw [hg6_2]; rfl)) ?_; intro K hK
        refine ow_call Try.func38 rfl rfl (evs_cons (tmA rfl rfl) <| evs_cons (tmI rfl rfl) <| evs_nil) (pick0_c _ _ _) ?_
        rintro e w ⟨rfl, hk⟩
        refine ⟨_, rfl, ?_⟩
        replace hS := hS.kept hk
        refine hK _ _ ?_; clear hK K
        refine wl_gv (want_y rfl rfl rfl rfl (by rw [hg6_2]; rfl)) (x_eql (tmI rfl rfl) ev_c) ?_
        refine wl_v (x_pickT (tmB rfl rfl) hg6_2 (tmB rfl rfl)) ?_
        refine wl_v (x_move (tmB rfl rfl)) ?_
        refine gs_wls (tm (t := 61) rfl) (fun hg6_8 => ?_) (fun hg6_8 => ?_)
        · exfalso
          exact absurd hg6_8 (by decide)
        have hg6_8' := hg6_8; (try simp only [nrm] at hg6_8')
        refine wl_gv (want_y rfl rfl rfl rfl (by rw [hg6_8]; rfl)) (x_loadA (cs := [_]) Try.underlying61 rfl ts_61 (tmP rfl rfl) (rangeB hS.ok 0 rfl rfl)) ?_
        refine wl_gv (want_y rfl rfl rfl rfl (by rw [hg6_8]; rfl)) (x_move (tmI rfl rfl)) ?_
        refine wl_g (want_y rfl rfl rfl rfl (by rw [hg6_8]; rfl)) ?_; intro K hK
        refine ow_call Try.func38 rfl rfl (evs_cons (tmA rfl rfl) <| evs_cons (tmI rfl rfl) <| evs_nil) (pick0_c _ _ _) ?_
        rintro e w ⟨rfl, hk⟩
        refine ⟨_, rfl, ?_⟩
        replace hS := hS.kept hk
        refine hK _ _ ?_; clear hK K
        refine wl_gv (want_y rfl rfl rfl rfl (by rw [hg6_8]; rfl)) (x_eql (tmI rfl rfl) ev_c) ?_
        refine wl_v (x_pickT (tmB rfl rfl) hg6_8 (tmB rfl rfl)) ?_
        refine wl_v (x_move (tmB rfl rfl)) ?_
        refine gs_wls (tm (t := 67) rfl) (fun hg6_14 => ?_) (fun hg6_14 => ?_)
        · exfalso
          exact absurd hg6_14 (by decide)
        have hg6_14' := hg6_14; (try simp only [nrm] at hg6_14')
        refine wl_gv (want_y rfl rfl rfl rfl (by rw [hg6_14]; rfl)) (x_loadA (cs := [_]) Try.underlying61 rfl ts_61 (tmP rfl rfl) (rangeB hS.ok 1 rfl rfl)) ?_
        refine wl_gv (want_y rfl rfl rfl rfl (by rw [hg6_14]; rfl)) (x_move (tmI rfl rfl)) ?_
        refine wl_g (want_y rfl rfl rfl rfl (by rw [hg6_14]; rfl)) ?_; intro K hK
        refine ow_call Try.func39 rfl rfl (evs_cons (tmA rfl rfl) <| evs_cons (tmI rfl rfl) <| evs_nil) (table_count_c 0 none 0 [] _ _ View.nil_ rfl (by omega)) ?_
        rintro e w ⟨rfl, hk⟩
        refine ⟨_, rfl, ?_⟩
        replace hS := hS.kept hk
        refine hK _ _ ?_; clear hK K
        refine wl_gv (want_y rfl rfl rfl rfl (by rw [hg6_14]; rfl)) (x_eql (tmI rfl rfl) (ev_cN 0)) ?_
        refine wl_v (x_pickT (tmB rfl rfl) hg6_14 (tmB rfl rfl)) ?_
        refine wl_v (x_move (tmB rfl rfl)) ?_
        refine gs_wls (tm (t := 73) rfl) (fun hg6_20 => ?_) (fun hg6_20 => ?_)
        · exfalso
          exact absurd hg6_20 (by simp [cntTo])
        have hg6_20' := hg6_20; (try simp only [nrm] at hg6_20')
        refine wl_g (want_y rfl rfl rfl rfl (by rw [hg6_20]; rfl)) ?_; intro K hK
        refine ow_call Try.func35 rfl rfl (evs_nil) (law41_awake_c _) ?_
        rintro e w ⟨rfl, hk⟩
        refine ⟨_, rfl, ?_⟩
        replace hS := hS.kept hk
        refine hK _ _ ?_; clear hK K
        refine wl_v (x_pickT (tmB rfl rfl) hg6_20 (tmB rfl rfl)) ?_
        refine wl_v (x_assign (tmB rfl rfl)) ?_
        refine wl_nil ?_
        refine then_n (hK11 _ _ ?_); clear hK11 K11
        refine wp_ret ?_
        refine then_r ?_
        refine ret1 rfl (.tmp rfl (show _ = Value.bool _ from rfl)) ?_
        exact ⟨rfl, hS.kp.below⟩
     have hg5_3' := hg5_3; (try simp only [nrm] at hg5_3')
     refine wl_gv (want_y rfl rfl rfl rfl (by rw [hg5_3]; rfl)) (x_move (tmI rfl rfl)) ?_
     refine wl_g (want_y rfl rfl rfl rfl (by rw [hg5_3]; rfl)) ?_; intro K hK
     refine ow_call Try.func37 rfl rfl (evs_cons (tmI rfl rfl) <| evs_nil) (right_no z (hbad.resolve_left (by omega)) _) ?_
     rintro e w ⟨rfl, hk⟩
     refine ⟨_, rfl, ?_⟩
     replace hS := hS.kept hk
     refine hK _ _ ?_; clear hK K
     refine wl_gv (want_y rfl rfl rfl rfl (by rw [hg5_3]; rfl)) (x_not (tmB rfl rfl)) ?_
     refine wl_v (x_pickF (tmB rfl rfl) hg5_3 (tmB rfl rfl)) ?_
     refine wl_nil ?_
     refine then_n (hK10 _ _ ?_); clear hK10 K10
     refine cnds (tm rfl) (fun hc1 => ?_) (fun hc1 => ?_)
     · exfalso
       simp at hc1
     try simp only [nrm] at hc1
     refine wp_seq_k ?_; intro K12 hK12
     refine wlit ?_
     refine wl_v (x_move (tmI rfl rfl)) ?_
     refine wl_v (x_eql (tmI rfl rfl) (ev_cN 1)) ?_
     refine wl_v (x_move (tmB rfl rfl)) ?_
     refine gs_wls (tm (t := 55) rfl) (fun hg6_2 => ?_) (fun hg6_2 => ?_)
     · exfalso
       exact absurd hg6_2 (by decide)
     have hg6_2' := hg6_2; (try simp only [nrm] at hg6_2')
     refine wl_gv (want_y rfl rfl rfl rfl (by rw [hg6_2]; rfl)) (x_loadA (cs := [_]) Try.underlying61 rfl ts_61 (tmP rfl rfl) (rangeB hS.ok 1 rfl rfl)) ?_
     refine wl_gv (want_y rfl rfl rfl rfl (by rw [hg6_2]; rfl)) (x_move (tmI rfl rfl)) ?_
     refine wl_g (want_y rfl rfl rfl rfl (by rw [hg6_2]; rfl)) ?_; intro K hK
     refine ow_call Try.func38 rfl rfl (evs_cons (tmA rfl rfl) <| evs_cons (tmI rfl rfl) <| evs_nil) (pick0_c _ _ _) ?_
     rintro e w ⟨rfl, hk⟩
     refine ⟨_, rfl, ?_⟩
     replace hS := hS.kept hk
     refine hK _ _ ?_; clear hK K
     refine wl_gv (want_y rfl rfl rfl rfl (by rw [hg6_2]; rfl)) (x_eql (tmI rfl rfl) ev_c) ?_
     refine wl_v (x_pickT (tmB rfl rfl) hg6_2 (tmB rfl rfl)) ?_
     refine wl_v (x_move (tmB rfl rfl)) ?_
     refine gs_wls (tm (t := 61) rfl) (fun hg6_8 => ?_) (fun hg6_8 => ?_)
     · exfalso
       exact absurd hg6_8 (by decide)
     have hg6_8' := hg6_8; (try simp only [nrm] at hg6_8')
     refine wl_gv (want_y rfl rfl rfl rfl (by rw [hg6_8]; rfl)) (x_loadA (cs := [_]) Try.underlying61 rfl ts_61 (tmP rfl rfl) (rangeB hS.ok 0 rfl rfl)) ?_
     refine wl_gv (want_y rfl rfl rfl rfl (by rw [hg6_8]; rfl)) (x_move (tmI rfl rfl)) ?_
     refine wl_g (want_y rfl rfl rfl rfl (by rw [hg6_8]; rfl)) ?_; intro K hK
     refine ow_call Try.func38 rfl rfl (evs_cons (tmA rfl rfl) <| evs_cons (tmI rfl rfl) <| evs_nil) (pick0_c _ _ _) ?_
     rintro e w ⟨rfl, hk⟩
     refine ⟨_, rfl, ?_⟩
     replace hS := hS.kept hk
     refine hK _ _ ?_; clear hK K
     refine wl_gv (want_y rfl rfl rfl rfl (by rw [hg6_8]; rfl)) (x_eql (tmI rfl rfl) ev_c) ?_
     refine wl_v (x_pickT (tmB rfl rfl) hg6_8 (tmB rfl rfl)) ?_
     refine wl_v (x_move (tmB rfl rfl)) ?_
     refine gs_wls (tm (t := 67) rfl) (fun hg6_14 => ?_) (fun hg6_14 => ?_)
     · exfalso
       exact absurd hg6_14 (by decide)
     have hg6_14' := hg6_14; (try simp only [nrm] at hg6_14')
     refine wl_gv (want_y rfl rfl rfl rfl (by rw [hg6_14]; rfl)) (x_loadA (cs := [_]) Try.underlying61 rfl ts_61 (tmP rfl rfl) (rangeB hS.ok 1 rfl rfl)) ?_
     refine wl_gv (want_y rfl rfl rfl rfl (by rw [hg6_14]; rfl)) (x_move (tmI rfl rfl)) ?_
     refine wl_g (want_y rfl rfl rfl rfl (by rw [hg6_14]; rfl)) ?_; intro K hK
     refine ow_call Try.func39 rfl rfl (evs_cons (tmA rfl rfl) <| evs_cons (tmI rfl rfl) <| evs_nil) (table_count_c 0 none 0 [] _ _ View.nil_ rfl (by omega)) ?_
     rintro e w ⟨rfl, hk⟩
     refine ⟨_, rfl, ?_⟩
     replace hS := hS.kept hk
     refine hK _ _ ?_; clear hK K
     refine wl_gv (want_y rfl rfl rfl rfl (by rw [hg6_14]; rfl)) (x_eql (tmI rfl rfl) (ev_cN 0)) ?_
     refine wl_v (x_pickT (tmB rfl rfl) hg6_14 (tmB rfl rfl)) ?_
     refine wl_v (x_move (tmB rfl rfl)) ?_
     refine gs_wls (tm (t := 73) rfl) (fun hg6_20 => ?_) (fun hg6_20 => ?_)
     · exfalso
       exact absurd hg6_20 (by simp [cntTo])
     have hg6_20' := hg6_20; (try simp only [nrm] at hg6_20')
     refine wl_g (want_y rfl rfl rfl rfl (by rw [hg6_20]; rfl)) ?_; intro K hK
     refine ow_call Try.func35 rfl rfl (evs_nil) (law41_awake_c _) ?_
     rintro e w ⟨rfl, hk⟩
     refine ⟨_, rfl, ?_⟩
     replace hS := hS.kept hk
     refine hK _ _ ?_; clear hK K
     refine wl_v (x_pickT (tmB rfl rfl) hg6_20 (tmB rfl rfl)) ?_
     refine wl_v (x_assign (tmB rfl rfl)) ?_
     refine wl_nil ?_
     refine then_n (hK12 _ _ ?_); clear hK12 K12
     refine wp_ret ?_
     refine then_r ?_
     refine ret1 rfl (.tmp rfl (show _ = Value.bool _ from rfl)) ?_
     exact ⟨rfl, hS.kp.below⟩
  have hg1_11' := hg1_11; (try simp only [nrm] at hg1_11')
  refine wl_s rfl (want_n rfl rfl rfl rfl (by rw [hg1_11]; rfl)) ?_
  refine wl_s rfl (want_n rfl rfl rfl rfl (by rw [hg1_11]; rfl)) ?_
  refine wl_gv (want_y rfl rfl rfl rfl (by rw [hg1_8]; rfl)) (x_pickF (tmB rfl rfl) hg1_11 ev_c) ?_
  refine wl_v (x_pickF (tmB rfl rfl) hg1_8 (tmB rfl rfl)) ?_
  refine wl_nil ?_
  refine then_n (hK3 _ _ ?_); clear hK3 K3
  refine cnd_f (tmB rfl rfl) rfl ?_
  refine wp_skip ?_
  refine then_n (hK2 _ _ ?_); clear hK2 K2
  refine wp_seq_k ?_; intro K13 hK13
  refine wlit ?_
  refine wl_v (x_move (tmI rfl rfl)) ?_
  refine wl_v (x_move (tmS rfl rfl)) ?_
  refine wl_e rfl ?_; intro K hK
  refine ow_call Try.func36 rfl rfl (evs_cons (tmI rfl rfl) <| evs_cons (tmS rfl rfl) <| evs_nil) (hnew _) ?_
  rintro e w ⟨rfl, hk⟩
  refine ⟨_, rfl, ?_⟩
  replace hS := hS.kept hk
  refine hK _ _ ?_; clear hK K
  refine wl_v (x_move (tmT rfl rfl)) ?_
  refine wl_v (x_ext (tmT rfl rfl) rfl) ?_
  refine wl_v (x_ext (tmT rfl rfl) rfl) ?_
  refine wl_e rfl ?_; intro K hK
  refine ow_alloc hS tz_61 rfl ?_
  clear hS; intro g3_6 w hg3_6 hS
  refine hK _ _ ?_; clear hK K
  refine wl_e rfl ?_; intro K hK
  refine ow_storeA hS 0 rfl ts_61 (tmP rfl rfl) (tmA rfl rfl) rfl rfl rfl ?_
  clear hS; intro w hS
  refine hK _ _ ?_; clear hK K
  refine wl_v (x_assign (tmI rfl rfl)) ?_
  refine wl_nil ?_
  refine then_n (hK13 _ _ ?_); clear hK13 K13
  refine wp_seq_k ?_; intro K14 hK14
  refine wlit ?_
  refine wl_e rfl ?_; intro K hK
  refine ow_alloc hS tz_61 rfl ?_
  clear hS; intro g4_0 w hg4_0 hS
  refine hK _ _ ?_; clear hK K
  refine wl_nil ?_
  refine then_n (hK14 _ _ ?_); clear hK14 K14
  refine wp_seq_k ?_; intro K15 hK15
  refine wp_seq_k ?_; intro K16 hK16
  refine wlit ?_
  refine wl_v (x_move (tmS rfl rfl)) ?_
  refine wl_v (x_len Try.underlying53 (tmS rfl rfl)) ?_
  refine wl_v (x_eql (tmI rfl rfl) (ev_cN 0)) ?_
  refine wl_v (x_move (tmB rfl rfl)) ?_
  refine gs_wl (tm (t := 48) rfl) (fun hg5_3 => ?_) (fun hg5_3 => ?_)
  · have hg5_3' := hg5_3; (try simp only [nrm] at hg5_3'); try (exfalso; first | with_reducible exact absurd hg5_3 Bool.false_ne_true | with_reducible exact absurd hg5_3.symm Bool.false_ne_true | omega)
    all_goals
     refine wl_s rfl (want_n rfl rfl rfl rfl (by rw [hg5_3]; rfl)) ?_
     refine wl_s rfl (want_n rfl rfl rfl rfl (by rw [hg5_3]; rfl)) ?_
     refine wl_s rfl (want_n rfl rfl rfl rfl (by rw [hg5_3]; rfl)) ?_
     refine wl_v (x_pickT (tmB rfl rfl) hg5_3 ev_c) ?_
     refine wl_nil ?_
     refine then_n (hK16 _ _ ?_); clear hK16 K16
     refine cnd_t (tmB rfl rfl) rfl ?_
     refine wp_seq_k ?_; intro K17 hK17
     refine wlit ?_
     refine wl_v (x_move (tmI rfl rfl)) ?_
     refine wl_v (x_eql (tmI rfl rfl) (ev_cN 1)) ?_
     refine wl_v (x_move (tmB rfl rfl)) ?_
     refine gs_wls (tm (t := 55) rfl) (fun hg6_2 => ?_) (fun hg6_2 => ?_)
     · exfalso
       exact absurd hg6_2 (by decide)
     have hg6_2' := hg6_2; (try simp only [nrm] at hg6_2')
     refine wl_gv (want_y rfl rfl rfl rfl (by rw [hg6_2]; rfl)) (x_loadA (cs := [_]) Try.underlying61 rfl ts_61 (tmP rfl rfl) (rangeB hS.ok 1 rfl rfl)) ?_
     refine wl_gv (want_y rfl rfl rfl rfl (by rw [hg6_2]; rfl)) (x_move (tmI rfl rfl)) ?_
     refine wl_g (want_y rfl rfl rfl rfl (by rw [hg6_2]; rfl)) ?_; intro K hK
     refine ow_call Try.func38 rfl rfl (evs_cons (tmA rfl rfl) <| evs_cons (tmI rfl rfl) <| evs_nil) (pick0_c _ _ _) ?_
     rintro e w ⟨rfl, hk⟩
     refine ⟨_, rfl, ?_⟩
     replace hS := hS.kept hk
     refine hK _ _ ?_; clear hK K
     refine wl_gv (want_y rfl rfl rfl rfl (by rw [hg6_2]; rfl)) (x_eql (tmI rfl rfl) ev_c) ?_
     refine wl_v (x_pickT (tmB rfl rfl) hg6_2 (tmB rfl rfl)) ?_
     refine wl_v (x_move (tmB rfl rfl)) ?_
     refine gs_wls (tm (t := 61) rfl) (fun hg6_8 => ?_) (fun hg6_8 => ?_)
     · exfalso
       exact absurd hg6_8 (by decide)
     have hg6_8' := hg6_8; (try simp only [nrm] at hg6_8')
     refine wl_gv (want_y rfl rfl rfl rfl (by rw [hg6_8]; rfl)) (x_loadA (cs := [_]) Try.underlying61 rfl ts_61 (tmP rfl rfl) (rangeB hS.ok 0 rfl rfl)) ?_
     refine wl_gv (want_y rfl rfl rfl rfl (by rw [hg6_8]; rfl)) (x_move (tmI rfl rfl)) ?_
     refine wl_g (want_y rfl rfl rfl rfl (by rw [hg6_8]; rfl)) ?_; intro K hK
     refine ow_call Try.func38 rfl rfl (evs_cons (tmA rfl rfl) <| evs_cons (tmI rfl rfl) <| evs_nil) (pick0_c _ _ _) ?_
     rintro e w ⟨rfl, hk⟩
     refine ⟨_, rfl, ?_⟩
     replace hS := hS.kept hk
     refine hK _ _ ?_; clear hK K
     refine wl_gv (want_y rfl rfl rfl rfl (by rw [hg6_8]; rfl)) (x_eql (tmI rfl rfl) ev_c) ?_
     refine wl_v (x_pickT (tmB rfl rfl) hg6_8 (tmB rfl rfl)) ?_
     refine wl_v (x_move (tmB rfl rfl)) ?_
     refine gs_wls (tm (t := 67) rfl) (fun hg6_14 => ?_) (fun hg6_14 => ?_)
     · exfalso
       exact absurd hg6_14 (by decide)
     have hg6_14' := hg6_14; (try simp only [nrm] at hg6_14')
     refine wl_gv (want_y rfl rfl rfl rfl (by rw [hg6_14]; rfl)) (x_loadA (cs := [_]) Try.underlying61 rfl ts_61 (tmP rfl rfl) (rangeB hS.ok 1 rfl rfl)) ?_
     refine wl_gv (want_y rfl rfl rfl rfl (by rw [hg6_14]; rfl)) (x_move (tmI rfl rfl)) ?_
     refine wl_g (want_y rfl rfl rfl rfl (by rw [hg6_14]; rfl)) ?_; intro K hK
     refine ow_call Try.func39 rfl rfl (evs_cons (tmA rfl rfl) <| evs_cons (tmI rfl rfl) <| evs_nil) (table_count_c 0 none 0 [] _ _ View.nil_ rfl (by omega)) ?_
     rintro e w ⟨rfl, hk⟩
     refine ⟨_, rfl, ?_⟩
     replace hS := hS.kept hk
     refine hK _ _ ?_; clear hK K
     refine wl_gv (want_y rfl rfl rfl rfl (by rw [hg6_14]; rfl)) (x_eql (tmI rfl rfl) (ev_cN 0)) ?_
     refine wl_v (x_pickT (tmB rfl rfl) hg6_14 (tmB rfl rfl)) ?_
     refine wl_v (x_move (tmB rfl rfl)) ?_
     refine gs_wls (tm (t := 73) rfl) (fun hg6_20 => ?_) (fun hg6_20 => ?_)
     · exfalso
       exact absurd hg6_20 (by simp [cntTo])
     have hg6_20' := hg6_20; (try simp only [nrm] at hg6_20')
     refine wl_g (want_y rfl rfl rfl rfl (by rw [hg6_20]; rfl)) ?_; intro K hK
     refine ow_call Try.func35 rfl rfl (evs_nil) (law41_awake_c _) ?_
     rintro e w ⟨rfl, hk⟩
     refine ⟨_, rfl, ?_⟩
     replace hS := hS.kept hk
     refine hK _ _ ?_; clear hK K
     refine wl_v (x_pickT (tmB rfl rfl) hg6_20 (tmB rfl rfl)) ?_
     refine wl_v (x_assign (tmB rfl rfl)) ?_
     refine wl_nil ?_
     refine then_n (hK17 _ _ ?_); clear hK17 K17
     refine wp_ret ?_
     refine then_r ?_
     refine ret1 rfl (.tmp rfl (show _ = Value.bool _ from rfl)) ?_
     exact ⟨rfl, hS.kp.below⟩
  have hg5_3' := hg5_3; (try simp only [nrm] at hg5_3')
  refine wl_gv (want_y rfl rfl rfl rfl (by rw [hg5_3]; rfl)) (x_move (tmI rfl rfl)) ?_
  refine wl_g (want_y rfl rfl rfl rfl (by rw [hg5_3]; rfl)) ?_; intro K hK
  refine ow_call Try.func37 rfl rfl (evs_cons (tmI rfl rfl) <| evs_nil) (right_no z (hbad.resolve_left (by omega)) _) ?_
  rintro e w ⟨rfl, hk⟩
  refine ⟨_, rfl, ?_⟩
  replace hS := hS.kept hk
  refine hK _ _ ?_; clear hK K
  refine wl_gv (want_y rfl rfl rfl rfl (by rw [hg5_3]; rfl)) (x_not (tmB rfl rfl)) ?_
  refine wl_v (x_pickF (tmB rfl rfl) hg5_3 (tmB rfl rfl)) ?_
  refine wl_nil ?_
  refine then_n (hK16 _ _ ?_); clear hK16 K16
  refine cnds (tm rfl) (fun hc1 => ?_) (fun hc1 => ?_)
  · exfalso
    simp at hc1
  try simp only [nrm] at hc1
  refine wp_seq_k ?_; intro K18 hK18
  refine wlit ?_
  refine wl_v (x_move (tmI rfl rfl)) ?_
  refine wl_v (x_eql (tmI rfl rfl) (ev_cN 1)) ?_
  refine wl_v (x_move (tmB rfl rfl)) ?_
  refine gs_wls (tm (t := 55) rfl) (fun hg6_2 => ?_) (fun hg6_2 => ?_)
  · exfalso
    exact absurd hg6_2 (by decide)
  have hg6_2' := hg6_2; (try simp only [nrm] at hg6_2')
  refine wl_gv (want_y rfl rfl rfl rfl (by rw [hg6_2]; rfl)) (x_loadA (cs := [_]) Try.underlying61 rfl ts_61 (tmP rfl rfl) (rangeB hS.ok 1 rfl rfl)) ?_
  refine wl_gv (want_y rfl rfl rfl rfl (by rw [hg6_2]; rfl)) (x_move (tmI rfl rfl)) ?_
  refine wl_g (want_y rfl rfl rfl rfl (by rw [hg6_2]; rfl)) ?_; intro K hK
  refine ow_call Try.func38 rfl rfl (evs_cons (tmA rfl rfl) <| evs_cons (tmI rfl rfl) <| evs_nil) (pick0_c _ _ _) ?_
  rintro e w ⟨rfl, hk⟩
  refine ⟨_, rfl, ?_⟩
  replace hS := hS.kept hk
  refine hK _ _ ?_; clear hK K
  refine wl_gv (want_y rfl rfl rfl rfl (by rw [hg6_2]; rfl)) (x_eql (tmI rfl rfl) ev_c) ?_
  refine wl_v (x_pickT (tmB rfl rfl) hg6_2 (tmB rfl rfl)) ?_
  refine wl_v (x_move (tmB rfl rfl)) ?_
  refine gs_wls (tm (t := 61) rfl) (fun hg6_8 => ?_) (fun hg6_8 => ?_)
  · exfalso
    exact absurd hg6_8 (by decide)
  have hg6_8' := hg6_8; (try simp only [nrm] at hg6_8')
  refine wl_gv (want_y rfl rfl rfl rfl (by rw [hg6_8]; rfl)) (x_loadA (cs := [_]) Try.underlying61 rfl ts_61 (tmP rfl rfl) (rangeB hS.ok 0 rfl rfl)) ?_
  refine wl_gv (want_y rfl rfl rfl rfl (by rw [hg6_8]; rfl)) (x_move (tmI rfl rfl)) ?_
  refine wl_g (want_y rfl rfl rfl rfl (by rw [hg6_8]; rfl)) ?_; intro K hK
  refine ow_call Try.func38 rfl rfl (evs_cons (tmA rfl rfl) <| evs_cons (tmI rfl rfl) <| evs_nil) (pick0_c _ _ _) ?_
  rintro e w ⟨rfl, hk⟩
  refine ⟨_, rfl, ?_⟩
  replace hS := hS.kept hk
  refine hK _ _ ?_; clear hK K
  refine wl_gv (want_y rfl rfl rfl rfl (by rw [hg6_8]; rfl)) (x_eql (tmI rfl rfl) ev_c) ?_
  refine wl_v (x_pickT (tmB rfl rfl) hg6_8 (tmB rfl rfl)) ?_
  refine wl_v (x_move (tmB rfl rfl)) ?_
  refine gs_wls (tm (t := 67) rfl) (fun hg6_14 => ?_) (fun hg6_14 => ?_)
  · exfalso
    exact absurd hg6_14 (by decide)
  have hg6_14' := hg6_14; (try simp only [nrm] at hg6_14')
  refine wl_gv (want_y rfl rfl rfl rfl (by rw [hg6_14]; rfl)) (x_loadA (cs := [_]) Try.underlying61 rfl ts_61 (tmP rfl rfl) (rangeB hS.ok 1 rfl rfl)) ?_
  refine wl_gv (want_y rfl rfl rfl rfl (by rw [hg6_14]; rfl)) (x_move (tmI rfl rfl)) ?_
  refine wl_g (want_y rfl rfl rfl rfl (by rw [hg6_14]; rfl)) ?_; intro K hK
  refine ow_call Try.func39 rfl rfl (evs_cons (tmA rfl rfl) <| evs_cons (tmI rfl rfl) <| evs_nil) (table_count_c 0 none 0 [] _ _ View.nil_ rfl (by omega)) ?_
  rintro e w ⟨rfl, hk⟩
  refine ⟨_, rfl, ?_⟩
  replace hS := hS.kept hk
  refine hK _ _ ?_; clear hK K
  refine wl_gv (want_y rfl rfl rfl rfl (by rw [hg6_14]; rfl)) (x_eql (tmI rfl rfl) (ev_cN 0)) ?_
  refine wl_v (x_pickT (tmB rfl rfl) hg6_14 (tmB rfl rfl)) ?_
  refine wl_v (x_move (tmB rfl rfl)) ?_
  refine gs_wls (tm (t := 73) rfl) (fun hg6_20 => ?_) (fun hg6_20 => ?_)
  · exfalso
    exact absurd hg6_20 (by simp [cntTo])
  have hg6_20' := hg6_20; (try simp only [nrm] at hg6_20')
  refine wl_g (want_y rfl rfl rfl rfl (by rw [hg6_20]; rfl)) ?_; intro K hK
  refine ow_call Try.func35 rfl rfl (evs_nil) (law41_awake_c _) ?_
  rintro e w ⟨rfl, hk⟩
  refine ⟨_, rfl, ?_⟩
  replace hS := hS.kept hk
  refine hK _ _ ?_; clear hK K
  refine wl_v (x_pickT (tmB rfl rfl) hg6_20 (tmB rfl rfl)) ?_
  refine wl_v (x_assign (tmB rfl rfl)) ?_
  refine wl_nil ?_
  refine then_n (hK18 _ _ ?_); clear hK18 K18
  refine wp_ret ?_
  refine then_r ?_
  refine ret1 rfl (.tmp rfl (show _ = Value.bool _ from rfl)) ?_
  exact ⟨rfl, hS.kp.below⟩
end SpreadPlaces
end Go.Proofs.Ytchpcijmgnfkfaa
