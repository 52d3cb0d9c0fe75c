
/- spread: errors, the chapter's example, the reference's Without. Conditions: none but bounds. -/
import Derived.Test.YtchpcijmgnfkfaaSpreadD
import Derived.Test.YtchpcijmgnfkfaaArgs
namespace Go.Proofs.Ytchpcijmgnfkfaa
open Go.RowKit

set_option maxRecDepth 100000 in
set_option maxHeartbeats 4000000 in
theorem new_bad (z : Int) (n : Nat) (A : Option Addr) (c : Nat) (w0 : World) (hz1 : -9223372036854775808 ≤ z) (hz2 : z ≤ 9223372036854775807) (h : n = 0 ∨ z < 1 ∨ 4096 < z) :
    Calls Try.prog 36 #[.int .i64 z, .slice A n c] w0 fun e w' => e = .returned (.tuple #[.agg #[.slice none 0 0], .int .i64 1]) ∧ Kp [] w0 w' := by
  have hS := St.sv w0
  refine ent (n := 45) Try.func36 rfl rfl ?_
  refine wp_seq_k ?_; intro K1 hK1
  refine wlit ?_
  refine wl_e rfl ?_; intro K hK
  refine ow_alloc hS tz_61 rfl ?_
  clear hS; intro g0_0 w hg0_0 hS
  refine hK _ _ ?_; clear hK K
  refine wl_v (x_assign (ev_cN 0)) ?_
  refine wl_nil ?_
  refine then_n (hK1 _ _ ?_); clear hK1 K1
  refine wp_seq_k ?_; intro K2 hK2
  refine wp_seq_k ?_; intro K3 hK3
  refine wlit ?_
  refine wl_v (x_move (tmS rfl rfl)) ?_
  refine wl_v (x_len Try.underlying53 (tmS rfl rfl)) ?_
  refine wl_v (x_eql (tmI rfl rfl) (ev_cN 0)) ?_
  refine wl_v (x_move (tmB rfl rfl)) ?_
  refine gs_wl (tm (t := 11) rfl) (fun hg1_3 => ?_) (fun hg1_3 => ?_)
  · have hg1_3' := hg1_3; (try simp only [nrm] at hg1_3'); try (exfalso; first | with_reducible exact absurd hg1_3 Bool.false_ne_true | with_reducible exact absurd hg1_3.symm Bool.false_ne_true | omega)
    all_goals
     refine wl_s rfl (want_n rfl rfl rfl rfl (by rw [hg1_3]; rfl)) ?_
     refine wl_s rfl (want_n rfl rfl rfl rfl (by rw [hg1_3]; rfl)) ?_
     refine wl_v (x_pickT (tmB rfl rfl) hg1_3 ev_c) ?_
     refine wl_v (x_move (tmB rfl rfl)) ?_
     refine wl_s rfl (want_n rfl rfl rfl rfl rfl) ?_
     refine wl_s rfl (want_n rfl rfl rfl rfl rfl) ?_
     refine wl_v (x_pickT (tmB rfl rfl) rfl ev_c) ?_
     refine wl_v (x_move (tmB rfl rfl)) ?_
     refine wl_s rfl (want_n rfl rfl rfl rfl rfl) ?_
     refine wl_s rfl (want_n rfl rfl rfl rfl rfl) ?_
     refine wl_s rfl (want_n rfl rfl rfl rfl rfl) ?_
     refine wl_s rfl (want_n rfl rfl rfl rfl rfl) ?_
     refine wl_s rfl (want_n rfl rfl rfl rfl rfl) ?_
     refine wl_v (x_pickT (tmB rfl rfl) rfl ev_c) ?_
     refine wl_nil ?_
     refine then_n (hK3 _ _ ?_); clear hK3 K3
     refine cnd_t (tmB rfl rfl) rfl ?_
     refine wp_seq_k ?_; intro K4 hK4
     refine wlit ?_
     refine wl_v (x_build (bc_skip (.slice none 0 0) <| bc_nil) (by kernel_rfl)) ?_
     refine wl_e rfl ?_; intro K hK
     refine ow_storeA hS 0 rfl ts_61 (tmP rfl rfl) (tmA rfl rfl) rfl rfl rfl ?_
     clear hS; intro w hS
     refine hK _ _ ?_; clear hK K
     refine wl_v (x_assign (ev_cN 1)) ?_
     refine wl_nil ?_
     refine then_n (hK4 _ _ ?_); clear hK4 K4
     refine wp_ret ?_
     refine then_r ?_
     refine ret2 rfl (.cell rfl rfl (load_rowB (cs := [_]) hS.ok 0 rfl Try.underlying61 rfl ts_61 rfl)) (.tmp rfl (show _ = Value.int _ _ from rfl)) ?_
     exact ⟨rfl, hS.kp⟩
  have hg1_3' := hg1_3; (try simp only [nrm] at hg1_3')
  refine wl_gv (want_y rfl rfl rfl rfl (by rw [hg1_3]; rfl)) (x_move (tmI rfl rfl)) ?_
  refine wl_gv (want_y rfl rfl rfl rfl (by rw [hg1_3]; rfl)) (x_lss (tmI rfl rfl) (ev_cN 1)) ?_
  refine wl_v (x_pickF (tmB rfl rfl) hg1_3 (tmB rfl rfl)) ?_
  refine wl_v (x_move (tmB rfl rfl)) ?_
  refine gs_wl (tm (t := 15) rfl) (fun hg1_7 => ?_) (fun hg1_7 => ?_)
  · have hg1_7' := hg1_7; (try simp only [nrm] at hg1_7'); try (exfalso; first | with_reducible exact absurd hg1_7 Bool.false_ne_true | with_reducible exact absurd hg1_7.symm Bool.false_ne_true | omega)
    all_goals
     refine wl_s rfl (want_n rfl rfl rfl rfl (by rw [hg1_7]; rfl)) ?_
     refine wl_s rfl (want_n rfl rfl rfl rfl (by rw [hg1_7]; rfl)) ?_
     refine wl_v (x_pickT (tmB rfl rfl) hg1_7 ev_c) ?_
     refine wl_v (x_move (tmB rfl rfl)) ?_
     refine wl_s rfl (want_n rfl rfl rfl rfl rfl) ?_
     refine wl_s rfl (want_n rfl rfl rfl rfl rfl) ?_
     refine wl_s rfl (want_n rfl rfl rfl rfl rfl) ?_
     refine wl_s rfl (want_n rfl rfl rfl rfl rfl) ?_
     refine wl_s rfl (want_n rfl rfl rfl rfl rfl) ?_
     refine wl_v (x_pickT (tmB rfl rfl) rfl ev_c) ?_
     refine wl_nil ?_
     refine then_n (hK3 _ _ ?_); clear hK3 K3
     refine cnd_t (tmB rfl rfl) rfl ?_
     refine wp_seq_k ?_; intro K6 hK6
     refine wlit ?_
     refine wl_v (x_build (bc_skip (.slice none 0 0) <| bc_nil) (by kernel_rfl)) ?_
     refine wl_e rfl ?_; intro K hK
     refine ow_storeA hS 0 rfl ts_61 (tmP rfl rfl) (tmA rfl rfl) rfl rfl rfl ?_
     clear hS; intro w hS
     refine hK _ _ ?_; clear hK K
     refine wl_v (x_assign (ev_cN 1)) ?_
     refine wl_nil ?_
     refine then_n (hK6 _ _ ?_); clear hK6 K6
     refine wp_ret ?_
     refine then_r ?_
     refine ret2 rfl (.cell rfl rfl (load_rowB (cs := [_]) hS.ok 0 rfl Try.underlying61 rfl ts_61 rfl)) (.tmp rfl (show _ = Value.int _ _ from rfl)) ?_
     exact ⟨rfl, hS.kp⟩
  have hg1_7' := hg1_7; (try simp only [nrm] at hg1_7')
  refine wl_gv (want_y rfl rfl rfl rfl (by rw [hg1_7]; rfl)) (x_move (tmI rfl rfl)) ?_
  refine wl_gv (want_y rfl rfl rfl rfl (by rw [hg1_7]; rfl)) (x_gtr (tmI rfl rfl) (ev_cN 4096)) ?_
  refine wl_v (x_pickF (tmB rfl rfl) hg1_7 (tmB rfl rfl)) ?_
  refine wl_v (x_move (tmB rfl rfl)) ?_
  refine gs_wls (tm (t := 19) rfl) (fun hg1_11 => ?_) (fun hg1_11 => ?_)
  · exfalso
    have h1 := of_decide_eq_false hg1_11
    omega
  have hg1_11' := hg1_11; (try simp only [nrm] at hg1_11')
  refine wl_s rfl (want_n rfl rfl rfl rfl (by rw [hg1_11]; rfl)) ?_
  refine wl_s rfl (want_n rfl rfl rfl rfl (by rw [hg1_11]; rfl)) ?_
  refine wl_s rfl (want_n rfl rfl rfl rfl (by rw [hg1_11]; rfl)) ?_
  refine wl_s rfl (want_n rfl rfl rfl rfl (by rw [hg1_11]; rfl)) ?_
  refine wl_s rfl (want_n rfl rfl rfl rfl (by rw [hg1_11]; rfl)) ?_
  refine wl_v (x_pickT (tmB rfl rfl) hg1_11 ev_c) ?_
  refine wl_nil ?_
  refine then_n (hK3 _ _ ?_); clear hK3 K3
  refine cnd_t (tmB rfl rfl) rfl ?_
  refine wp_seq_k ?_; intro K8 hK8
  refine wlit ?_
  refine wl_v (x_build (bc_skip (.slice none 0 0) <| bc_nil) (by kernel_rfl)) ?_
  refine wl_e rfl ?_; intro K hK
  refine ow_storeA hS 0 rfl ts_61 (tmP rfl rfl) (tmA rfl rfl) rfl rfl rfl ?_
  clear hS; intro w hS
  refine hK _ _ ?_; clear hK K
  refine wl_v (x_assign (ev_cN 1)) ?_
  refine wl_nil ?_
  refine then_n (hK8 _ _ ?_); clear hK8 K8
  refine wp_ret ?_
  refine then_r ?_
  refine ret2 rfl (.cell rfl rfl (load_rowB (cs := [_]) hS.ok 0 rfl Try.underlying61 rfl ts_61 rfl)) (.tmp rfl (show _ = Value.int _ _ from rfl)) ?_
  exact ⟨rfl, hS.kp⟩

set_option maxRecDepth 100000 in
set_option maxHeartbeats 4000000 in
theorem new_bad2 (mm : Nat) (n : Nat) (A : Option Addr) (c : Nat) (w0 : World) (hm : 1 ≤ mm) (hm4 : mm ≤ 4096) (hand : mm &&& (mm - 1) ≠ 0) (hn : n ≠ 0) :
    Calls Try.prog 36 #[.int .i64 (mm : Int), .slice A n c] w0 fun e w' => e = .returned (.tuple #[.agg #[.slice none 0 0], .int .i64 1]) ∧ Kp [] w0 w' := by
  have hS := St.sv w0
  refine ent (n := 45) Try.func36 rfl rfl ?_
  refine wp_seq_k ?_; intro K1 hK1
  refine wlit ?_
  refine wl_e rfl ?_; intro K hK
  refine ow_alloc hS tz_61 rfl ?_
  clear hS; intro g0_0 w hg0_0 hS
  refine hK _ _ ?_; clear hK K
  refine wl_v (x_assign (ev_cN 0)) ?_
  refine wl_nil ?_
  refine then_n (hK1 _ _ ?_); clear hK1 K1
  refine wp_seq_k ?_; intro K2 hK2
  refine wp_seq_k ?_; intro K3 hK3
  refine wlit ?_
  refine wl_v (x_move (tmS rfl rfl)) ?_
  refine wl_v (x_len Try.underlying53 (tmS rfl rfl)) ?_
  refine wl_v (x_eql (tmI rfl rfl) (ev_cN 0)) ?_
  refine wl_v (x_move (tmB rfl rfl)) ?_
  refine gs_wl (tm (t := 11) rfl) (fun hg1_3 => ?_) (fun hg1_3 => ?_)
  · have hg1_3' := hg1_3; (try simp only [nrm] at hg1_3'); try (exfalso; first | with_reducible exact absurd hg1_3 Bool.false_ne_true | with_reducible exact absurd hg1_3.symm Bool.false_ne_true | omega)
    all_goals
     refine wl_s rfl (want_n rfl rfl rfl rfl (by rw [hg1_3]; rfl)) ?_
     refine wl_s rfl (want_n rfl rfl rfl rfl (by rw [hg1_3]; rfl)) ?_
     refine wl_v (x_pickT (tmB rfl rfl) hg1_3 ev_c) ?_
     refine wl_v (x_move (tmB rfl rfl)) ?_
     refine wl_s rfl (want_n rfl rfl rfl rfl rfl) ?_
     refine wl_s rfl (want_n rfl rfl rfl rfl rfl) ?_
     refine wl_v (x_pickT (tmB rfl rfl) rfl ev_c) ?_
     refine wl_v (x_move (tmB rfl rfl)) ?_
     refine wl_s rfl (want_n rfl rfl rfl rfl rfl) ?_
     refine wl_s rfl (want_n rfl rfl rfl rfl rfl) ?_
     refine wl_s rfl (want_n rfl rfl rfl rfl rfl) ?_
     refine wl_s rfl (want_n rfl rfl rfl rfl rfl) ?_
     refine wl_s rfl (want_n rfl rfl rfl rfl rfl) ?_
     refine wl_v (x_pickT (tmB rfl rfl) rfl ev_c) ?_
     refine wl_nil ?_
     refine then_n (hK3 _ _ ?_); clear hK3 K3
     refine cnd_t (tmB rfl rfl) rfl ?_
     refine wp_seq_k ?_; intro K4 hK4
     refine wlit ?_
     refine wl_v (x_build (bc_skip (.slice none 0 0) <| bc_nil) (by kernel_rfl)) ?_
     refine wl_e rfl ?_; intro K hK
     refine ow_storeA hS 0 rfl ts_61 (tmP rfl rfl) (tmA rfl rfl) rfl rfl rfl ?_
     clear hS; intro w hS
     refine hK _ _ ?_; clear hK K
     refine wl_v (x_assign (ev_cN 1)) ?_
     refine wl_nil ?_
     refine then_n (hK4 _ _ ?_); clear hK4 K4
     refine wp_ret ?_
     refine then_r ?_
     refine ret2 rfl (.cell rfl rfl (load_rowB (cs := [_]) hS.ok 0 rfl Try.underlying61 rfl ts_61 rfl)) (.tmp rfl (show _ = Value.int _ _ from rfl)) ?_
     exact ⟨rfl, hS.kp⟩
  have hg1_3' := hg1_3; (try simp only [nrm] at hg1_3')
  refine wl_gv (want_y rfl rfl rfl rfl (by rw [hg1_3]; rfl)) (x_move (tmI rfl rfl)) ?_
  refine wl_gv (want_y rfl rfl rfl rfl (by rw [hg1_3]; rfl)) (x_lss (tmI rfl rfl) (ev_cN 1)) ?_
  refine wl_v (x_pickF (tmB rfl rfl) hg1_3 (tmB rfl rfl)) ?_
  refine wl_v (x_move (tmB rfl rfl)) ?_
  refine gs_wl (tm (t := 15) rfl) (fun hg1_7 => ?_) (fun hg1_7 => ?_)
  · have hg1_7' := hg1_7; (try simp only [nrm] at hg1_7'); try (exfalso; first | with_reducible exact absurd hg1_7 Bool.false_ne_true | with_reducible exact absurd hg1_7.symm Bool.false_ne_true | omega)
    all_goals
     refine wl_s rfl (want_n rfl rfl rfl rfl (by rw [hg1_7]; rfl)) ?_
     refine wl_s rfl (want_n rfl rfl rfl rfl (by rw [hg1_7]; rfl)) ?_
     refine wl_v (x_pickT (tmB rfl rfl) hg1_7 ev_c) ?_
     refine wl_v (x_move (tmB rfl rfl)) ?_
     refine wl_s rfl (want_n rfl rfl rfl rfl rfl) ?_
     refine wl_s rfl (want_n rfl rfl rfl rfl rfl) ?_
     refine wl_s rfl (want_n rfl rfl rfl rfl rfl) ?_
     refine wl_s rfl (want_n rfl rfl rfl rfl rfl) ?_
     refine wl_s rfl (want_n rfl rfl rfl rfl rfl) ?_
     refine wl_v (x_pickT (tmB rfl rfl) rfl ev_c) ?_
     refine wl_nil ?_
     refine then_n (hK3 _ _ ?_); clear hK3 K3
     refine cnd_t (tmB rfl rfl) rfl ?_
     refine wp_seq_k ?_; intro K6 hK6
     refine wlit ?_
     refine wl_v (x_build (bc_skip (.slice none 0 0) <| bc_nil) (by kernel_rfl)) ?_
     refine wl_e rfl ?_; intro K hK
     refine ow_storeA hS 0 rfl ts_61 (tmP rfl rfl) (tmA rfl rfl) rfl rfl rfl ?_
     clear hS; intro w hS
     refine hK _ _ ?_; clear hK K
     refine wl_v (x_assign (ev_cN 1)) ?_
     refine wl_nil ?_
     refine then_n (hK6 _ _ ?_); clear hK6 K6
     refine wp_ret ?_
     refine then_r ?_
     refine ret2 rfl (.cell rfl rfl (load_rowB (cs := [_]) hS.ok 0 rfl Try.underlying61 rfl ts_61 rfl)) (.tmp rfl (show _ = Value.int _ _ from rfl)) ?_
     exact ⟨rfl, hS.kp⟩
  have hg1_7' := hg1_7; (try simp only [nrm] at hg1_7')
  refine wl_gv (want_y rfl rfl rfl rfl (by rw [hg1_7]; rfl)) (x_move (tmI rfl rfl)) ?_
  refine wl_gv (want_y rfl rfl rfl rfl (by rw [hg1_7]; rfl)) (x_gtr (tmI rfl rfl) (ev_cN 4096)) ?_
  refine wl_v (x_pickF (tmB rfl rfl) hg1_7 (tmB rfl rfl)) ?_
  refine wl_v (x_move (tmB rfl rfl)) ?_
  refine gs_wl (tm (t := 19) rfl) (fun hg1_11 => ?_) (fun hg1_11 => ?_)
  · have hg1_11' := hg1_11; (try simp only [nrm] at hg1_11'); try (exfalso; first | with_reducible exact absurd hg1_11 Bool.false_ne_true | with_reducible exact absurd hg1_11.symm Bool.false_ne_true | omega)
    all_goals
     refine wl_s rfl (want_n rfl rfl rfl rfl (by rw [hg1_11]; rfl)) ?_
     refine wl_s rfl (want_n rfl rfl rfl rfl (by rw [hg1_11]; rfl)) ?_
     refine wl_s rfl (want_n rfl rfl rfl rfl (by rw [hg1_11]; rfl)) ?_
     refine wl_s rfl (want_n rfl rfl rfl rfl (by rw [hg1_11]; rfl)) ?_
     refine wl_s rfl (want_n rfl rfl rfl rfl (by rw [hg1_11]; rfl)) ?_
     refine wl_v (x_pickT (tmB rfl rfl) hg1_11 ev_c) ?_
     refine wl_nil ?_
     refine then_n (hK3 _ _ ?_); clear hK3 K3
     refine cnd_t (tmB rfl rfl) rfl ?_
     refine wp_seq_k ?_; intro K8 hK8
     refine wlit ?_
     refine wl_v (x_build (bc_skip (.slice none 0 0) <| bc_nil) (by kernel_rfl)) ?_
     refine wl_e rfl ?_; intro K hK
     refine ow_storeA hS 0 rfl ts_61 (tmP rfl rfl) (tmA rfl rfl) rfl rfl rfl ?_
     clear hS; intro w hS
     refine hK _ _ ?_; clear hK K
     refine wl_v (x_assign (ev_cN 1)) ?_
     refine wl_nil ?_
     refine then_n (hK8 _ _ ?_); clear hK8 K8
     refine wp_ret ?_
     refine then_r ?_
     refine ret2 rfl (.cell rfl rfl (load_rowB (cs := [_]) hS.ok 0 rfl Try.underlying61 rfl ts_61 rfl)) (.tmp rfl (show _ = Value.int _ _ from rfl)) ?_
     exact ⟨rfl, hS.kp⟩
  have hg1_11' := hg1_11; (try simp only [nrm] at hg1_11')
  refine wl_gv (want_y rfl rfl rfl rfl (by rw [hg1_11]; rfl)) (x_move (tmI rfl rfl)) ?_
  refine wl_gv (want_y rfl rfl rfl rfl (by rw [hg1_11]; rfl)) (x_move (tmI rfl rfl)) ?_
  first
   | refine wl_gv (want_y rfl rfl rfl rfl (by rw [hg1_11]; rfl)) (x_subN (tmI rfl rfl) (ev_cN 1) (fit_i64 (by omega)) (by omega)) ?_
   | refine wl_gv (want_y rfl rfl rfl rfl (by rw [hg1_11]; rfl)) (x_subI (tmI rfl rfl) (ev_cN 1) (IntWalk.i64_in _ (by omega))) ?_
   | refine wl_gv (want_y rfl rfl rfl rfl (by rw [hg1_11]; rfl)) (x_sub (tmI rfl rfl) (ev_cN 1)) ?_
  refine wl_gv (want_y rfl rfl rfl rfl (by rw [hg1_11]; rfl)) (x_andN (tmI rfl rfl) (tmI rfl rfl) (fit_i64 (by omega)) (fit_i64 (by omega))) ?_
  refine wl_gv (want_y rfl rfl rfl rfl (by rw [hg1_11]; rfl)) (x_neq (tmI rfl rfl) (ev_cN 0)) ?_
  refine wl_v (x_pickF (tmB rfl rfl) hg1_11 (tmB rfl rfl)) ?_
  refine wl_nil ?_
  refine then_n (hK3 _ _ ?_); clear hK3 K3
  refine cnds (tm rfl) (fun hc0 => ?_) (fun hc0 => ?_)
  · exfalso
    simp at hc0
    omega
  try simp only [nrm] at hc0
  refine wp_seq_k ?_; intro K10 hK10
  refine wlit ?_
  refine wl_v (x_build (bc_skip (.slice none 0 0) <| bc_nil) (by kernel_rfl)) ?_
  refine wl_e rfl ?_; intro K hK
  refine ow_storeA hS 0 rfl ts_61 (tmP rfl rfl) (tmA rfl rfl) rfl rfl rfl ?_
  clear hS; intro w hS
  refine hK _ _ ?_; clear hK K
  refine wl_v (x_assign (ev_cN 1)) ?_
  refine wl_nil ?_
  refine then_n (hK10 _ _ ?_); clear hK10 K10
  refine wp_ret ?_
  refine then_r ?_
  refine ret2 rfl (.cell rfl rfl (load_rowB (cs := [_]) hS.ok 0 rfl Try.underlying61 rfl ts_61 rfl)) (.tmp rfl (show _ = Value.int _ _ from rfl)) ?_
  exact ⟨rfl, hS.kp⟩

set_option maxRecDepth 100000 in
set_option maxHeartbeats 4000000 in
theorem law41_awake_c (w0 : World) :
    Calls Try.prog 35 #[] w0 fun e w' => e = .returned (.bool true) ∧ Kp [] w0 w' := by
  have hS := St.sv w0
  refine ent (n := 20) Try.func35 rfl rfl ?_
  refine wp_seq_k ?_; intro K1 hK1
  refine wlit ?_
  refine wl_v (x_assign ev_c) ?_
  refine wl_nil ?_
  refine then_n (hK1 _ _ ?_); clear hK1 K1
  refine wp_seq_k ?_; intro K2 hK2
  refine wlit ?_
  refine wl_e rfl ?_; intro K hK
  refine ow_build hS Try.underlying53 tz_3 (bc_take (ev_cN 7) <| bc_take (ev_cN 8) <| bc_nil) rfl rfl (by kernel_rfl) ?_
  clear hS; intro g1_0 w hg1_0 hS
  refine hK _ _ ?_; clear hK K
  refine wl_e rfl ?_; intro K hK
  refine ow_call Try.func36 rfl rfl (evs_cons (ev_cN 4) <| evs_cons (tmS rfl rfl) <| evs_nil) (new_ok 4 _ _ [7, 8] _ (viewB hS.ok 0 rfl) (by decide) (by decide) (by decide) (by decide) (by decide)) ?_
  rintro e w ⟨A', c', rfl, hn, hk⟩
  refine ⟨_, rfl, ?_⟩
  replace hS := hS.add hk hn -- +1
  refine hK _ _ ?_; clear hK K
  refine wl_v (x_move (tmT rfl rfl)) ?_
  refine wl_v (x_ext (tmT rfl rfl) rfl) ?_
  refine wl_v (x_ext (tmT rfl rfl) rfl) ?_
  refine wl_e rfl ?_; intro K hK
  refine ow_alloc hS tz_61 rfl ?_
  clear hS; intro g1_5 w hg1_5 hS
  refine hK _ _ ?_; clear hK K
  refine wl_e rfl ?_; intro K hK
  refine ow_storeA hS 0 rfl ts_61 (tmP rfl rfl) (tmA rfl rfl) rfl rfl rfl ?_
  clear hS; intro w hS
  refine hK _ _ ?_; clear hK K
  refine wl_v (x_assign (tmI rfl rfl)) ?_
  refine wl_nil ?_
  refine then_n (hK2 _ _ ?_); clear hK2 K2
  refine wp_seq_k ?_; intro K3 hK3
  refine wlit ?_
  refine wl_v (x_move (tmI rfl rfl)) ?_
  refine wl_v (x_eql (tmI rfl rfl) (ev_cN 0)) ?_
  refine wl_v (x_move (tmB rfl rfl)) ?_
  refine gs_wls (tm (t := 10) rfl) (fun hg2_2 => ?_) (fun hg2_2 => ?_)
  · exfalso
    exact absurd hg2_2 (by decide)
  have hg2_2' := hg2_2; (try simp only [nrm] at hg2_2')
  refine wl_gv (want_y rfl rfl rfl rfl (by rw [hg2_2]; rfl)) (x_loadA (cs := [_]) Try.underlying61 rfl ts_61 (tmP rfl rfl) (rangeB hS.ok 0 rfl rfl)) ?_
  refine wl_g (want_y rfl rfl rfl rfl (by rw [hg2_2]; rfl)) ?_; intro K hK
  refine ow_call Try.func38 rfl rfl (evs_cons (tmA rfl rfl) <| evs_cons (ev_cN 0) <| evs_nil) (pick_c 4 _ _ (cyc [7, 8] 4) _ _ (viewR hS.ok 1 rfl) (by decide) (by decide) (by decide) (by decide)) ?_
  rintro e w ⟨rfl, hk⟩
  refine ⟨_, rfl, ?_⟩
  replace hS := hS.kept hk
  refine hK _ _ ?_; clear hK K
  refine wl_gv (want_y rfl rfl rfl rfl (by rw [hg2_2]; rfl)) (x_eql (tmI rfl rfl) (ev_cN 7)) ?_
  refine wl_v (x_pickT (tmB rfl rfl) hg2_2 (tmB rfl rfl)) ?_
  refine wl_v (x_move (tmB rfl rfl)) ?_
  refine gs_wls (tm (t := 15) rfl) (fun hg2_7 => ?_) (fun hg2_7 => ?_)
  · exfalso
    exact absurd hg2_7 (by decide)
  have hg2_7' := hg2_7; (try simp only [nrm] at hg2_7')
  refine wl_gv (want_y rfl rfl rfl rfl (by rw [hg2_7]; rfl)) (x_loadA (cs := [_]) Try.underlying61 rfl ts_61 (tmP rfl rfl) (rangeB hS.ok 0 rfl rfl)) ?_
  refine wl_g (want_y rfl rfl rfl rfl (by rw [hg2_7]; rfl)) ?_; intro K hK
  refine ow_call Try.func38 rfl rfl (evs_cons (tmA rfl rfl) <| evs_cons (ev_cN 5) <| evs_nil) (pick_c 4 _ _ (cyc [7, 8] 4) _ _ (viewR hS.ok 1 rfl) (by decide) (by decide) (by decide) (by decide)) ?_
  rintro e w ⟨rfl, hk⟩
  refine ⟨_, rfl, ?_⟩
  replace hS := hS.kept hk
  refine hK _ _ ?_; clear hK K
  refine wl_gv (want_y rfl rfl rfl rfl (by rw [hg2_7]; rfl)) (x_eql (tmI rfl rfl) (ev_cN 8)) ?_
  refine wl_v (x_pickT (tmB rfl rfl) hg2_7 (tmB rfl rfl)) ?_
  refine wl_v (x_assign (tmB rfl rfl)) ?_
  refine wl_nil ?_
  refine then_n (hK3 _ _ ?_); clear hK3 K3
  refine wp_ret ?_
  refine ret1 rfl (.tmp rfl (show _ = Value.bool _ from rfl)) ?_
  exact ⟨rfl, hS.kp⟩

set_option maxRecDepth 100000 in
set_option maxHeartbeats 4000000 in
theorem rwithout_bad (n : Nat) (A : Option Addr) (c : Nat) (l : List Int) (gone : Int) (n4 : Nat) (A4 : Option Addr) (c4 : Nat) (left : List Int) (w0 : World) (hv : View w0 w0.heap.size A (l.map i64v)) (hv4 : View w0 w0.heap.size A4 (left.map i64v)) (hl4 : left.length = n4) (hn4 : n4 ≤ 1000000)
    (he : oth gone left n4 = []) :
    Calls Try.prog 42 #[.slice A n c, .int .i64 gone, .slice A4 n4 c4] w0 fun e w' => e = .returned (.tuple #[.slice none 0 0, .bool false]) ∧ Kp [] w0 w' := by
  have hS := ((St.sv w0).vcons rfl hv).vcons rfl hv4
  refine ent (n := 63) Try.func42 rfl rfl ?_
  refine wp_seq_k ?_; intro K1 hK1
  refine wlit ?_
  refine wl_v (x_assign ev_c) ?_
  refine wl_v (x_assign ev_c) ?_
  refine wl_nil ?_
  refine then_n (hK1 _ _ ?_); clear hK1 K1
  refine wp_seq_k ?_; intro K2 hK2
  refine wlit ?_
  refine wl_v (x_assign ev_c) ?_
  refine wl_nil ?_
  refine then_n (hK2 _ _ ?_); clear hK2 K2
  refine wp_seq_k ?_; intro K3 hK3
  refine wp_seq_k ?_; intro K4 hK4
  refine wlit ?_
  refine wl_v (x_assign (ev_cN 0)) ?_
  refine wl_nil ?_
  refine then_n (hK4 _ _ ?_); clear hK4 K4
  refine wp_block ?_
  have hS := hS.nilrow 3 1
  refine lp [8, 9, 14, 15, 16, 17, 18, 19, 20, 21, 22, 23, 24, 25, 26, 27, 28, 29, 30, 31, 32] (fun m g w => ∃ (k : Nat), ∃ (o : List Int), ∃ (q : Nat), ∃ (A' : Option Addr), ∃ (c' : Nat), m = n4 - k ∧ g 9 = .int .i64 (k : Int) ∧ g 8 = .slice A' q c' ∧ St [] w0 [.row (.slice A' q c') 3 1 q (o.map i64v), .vw A4 (left.map i64v), .vw A (l.map i64v)] w ∧ (k ≤ n4) ∧ (o = oth gone left k) ∧ (q = o.length)) ?_ ?_
  · exact ⟨_, 0, [], 0, none, 0, rfl, (by first | rfl | go_num), (by first | rfl | go_num), hS, (by omega), (by first | rfl | (simp only [oth]; rw [if_pos hx, ← ho]) | (simp only [oth]; rw [if_neg hx, ← ho])), (by first | rfl | exact hq | (simp; exact hq))⟩
  · clear hS; intro m g w hI
    obtain ⟨k, o, q, A', c', rfl, hs9, hs8, hS, hk, ho, hq⟩ := hI
    refine fr_know (d := 9) hs9 ?_; clear hs9
    refine fr_know (d := 8) hs8 ?_; clear hs8
    refine wp_seq_k ?_; intro K5 hK5
    refine wp_seq_k ?_; intro K6 hK6
    refine wlit ?_
    refine wl_v (x_move (tmI rfl rfl)) ?_
    refine wl_v (x_move (tmS rfl rfl)) ?_
    refine wl_v (x_len Try.underlying53 (tmS rfl rfl)) ?_
    refine wl_v (x_lss (tmI rfl rfl) (tmI rfl rfl)) ?_
    refine wl_nil ?_
    refine then_n (hK6 _ _ ?_); clear hK6 K6
    refine cnd (tm rfl) (fun hc0 => ?_) (fun hc0 => ?_)
    · try (exfalso; first | with_reducible exact absurd hc0 Bool.false_ne_true | with_reducible exact absurd hc0.symm Bool.false_ne_true | (simp only [nrm] at hc0; omega))
      all_goals
       try simp only [nrm] at hc0
       obtain ⟨b4, o4, rfl⟩ := view_some hv4 (by simp; omega)
       have hql : o.length ≤ k := by rw [ho]; exact oth_le _ _ _
       refine wp_skip ?_
       refine then_n (hK5 _ _ ?_); clear hK5 K5
       refine wp_seq_k ?_; intro K7 hK7
       refine wp_block ?_
       refine wp_seq_k ?_; intro K8 hK8
       refine wlit ?_
       refine wl_v (x_move (tmS rfl rfl)) ?_
       refine wl_v (x_move (tmI rfl rfl)) ?_
       refine wl_v (x_ixs1 Try.underlying53 ts_3 (tmS rfl rfl) (tmI rfl rfl) (by omega)) ?_
       first
        | refine wl_v (x_load Try.underlying3 rfl (tmP rfl rfl) (cellB hS.ok 0 rfl rfl)) ?_
        | refine wl_v (x_load Try.underlying3 rfl (tmP rfl rfl) (cellB hS.ok 1 rfl rfl)) ?_
        | refine wl_v (x_load Try.underlying3 rfl (tmP rfl rfl) (cellB hS.ok 2 rfl rfl)) ?_
        | refine wl_v (x_load Try.underlying3 rfl (tmP rfl rfl) (cellV hS.ok 0 rfl rfl)) ?_
        | refine wl_v (x_load Try.underlying3 rfl (tmP rfl rfl) (cellV hS.ok 0 rfl (getm (by omega)))) ?_
        | refine wl_v (x_load Try.underlying3 rfl (tmP rfl rfl) (cellVs hS.ok 0 rfl (fun _ => rfl) rfl (by omega) rfl)) ?_
        | refine wl_v (x_load Try.underlying3 rfl (tmP rfl rfl) (cellR hS.ok 0 rfl rfl)) ?_
        | refine wl_v (x_load Try.underlying3 rfl (tmP rfl rfl) (cellR hS.ok 0 rfl (getm (by omega)))) ?_
        | refine wl_v (x_load Try.underlying3 rfl (tmP rfl rfl) (cellRs hS.ok 0 rfl (fun _ => rfl) rfl (by omega) rfl)) ?_
        | refine wl_v (x_load Try.underlying3 rfl (tmP rfl rfl) (cellV hS.ok 1 rfl rfl)) ?_
        | refine wl_v (x_load Try.underlying3 rfl (tmP rfl rfl) (cellV hS.ok 1 rfl (getm (by omega)))) ?_
        | refine wl_v (x_load Try.underlying3 rfl (tmP rfl rfl) (cellVs hS.ok 1 rfl (fun _ => rfl) rfl (by omega) rfl)) ?_
        | refine wl_v (x_load Try.underlying3 rfl (tmP rfl rfl) (cellR hS.ok 1 rfl rfl)) ?_
        | refine wl_v (x_load Try.underlying3 rfl (tmP rfl rfl) (cellR hS.ok 1 rfl (getm (by omega)))) ?_
        | refine wl_v (x_load Try.underlying3 rfl (tmP rfl rfl) (cellRs hS.ok 1 rfl (fun _ => rfl) rfl (by omega) rfl)) ?_
        | refine wl_v (x_load Try.underlying3 rfl (tmP rfl rfl) (cellV hS.ok 2 rfl rfl)) ?_
        | refine wl_v (x_load Try.underlying3 rfl (tmP rfl rfl) (cellV hS.ok 2 rfl (getm (by omega)))) ?_
        | refine wl_v (x_load Try.underlying3 rfl (tmP rfl rfl) (cellVs hS.ok 2 rfl (fun _ => rfl) rfl (by omega) rfl)) ?_
        | refine wl_v (x_load Try.underlying3 rfl (tmP rfl rfl) (cellR hS.ok 2 rfl rfl)) ?_
        | refine wl_v (x_load Try.underlying3 rfl (tmP rfl rfl) (cellR hS.ok 2 rfl (getm (by omega)))) ?_
        | refine wl_v (x_load Try.underlying3 rfl (tmP rfl rfl) (cellRs hS.ok 2 rfl (fun _ => rfl) rfl (by omega) rfl)) ?_
       refine wl_v (x_move (tmI rfl rfl)) ?_
       refine wl_v (x_neq (tmI rfl rfl) (tmI rfl rfl)) ?_
       refine wl_nil ?_
       refine then_n (hK8 _ _ ?_); clear hK8 K8
       refine cnd (tm rfl) (fun hc1 => ?_) (fun hc1 => ?_)
       · try (exfalso; first | with_reducible exact absurd hc1 Bool.false_ne_true | with_reducible exact absurd hc1.symm Bool.false_ne_true | (simp only [nrm] at hc1; omega))
         all_goals
          try simp only [nrm] at hc1
          have hx : ¬ left.getD k 0 = gone := by simpa using hc1
          refine wlit ?_
          refine wl_v (x_move (tmS rfl rfl)) ?_
          refine wl_v (x_move (tmS rfl rfl)) ?_
          refine wl_v (x_move (tmI rfl rfl)) ?_
          refine wl_v (x_ixs1 Try.underlying53 ts_3 (tmS rfl rfl) (tmI rfl rfl) (by omega)) ?_
          first
           | refine wl_v (x_load Try.underlying3 rfl (tmP rfl rfl) (cellB hS.ok 0 rfl rfl)) ?_
           | refine wl_v (x_load Try.underlying3 rfl (tmP rfl rfl) (cellB hS.ok 1 rfl rfl)) ?_
           | refine wl_v (x_load Try.underlying3 rfl (tmP rfl rfl) (cellB hS.ok 2 rfl rfl)) ?_
           | refine wl_v (x_load Try.underlying3 rfl (tmP rfl rfl) (cellV hS.ok 0 rfl rfl)) ?_
           | refine wl_v (x_load Try.underlying3 rfl (tmP rfl rfl) (cellV hS.ok 0 rfl (getm (by omega)))) ?_
           | refine wl_v (x_load Try.underlying3 rfl (tmP rfl rfl) (cellVs hS.ok 0 rfl (fun _ => rfl) rfl (by omega) rfl)) ?_
           | refine wl_v (x_load Try.underlying3 rfl (tmP rfl rfl) (cellR hS.ok 0 rfl rfl)) ?_
           | refine wl_v (x_load Try.underlying3 rfl (tmP rfl rfl) (cellR hS.ok 0 rfl (getm (by omega)))) ?_
           | refine wl_v (x_load Try.underlying3 rfl (tmP rfl rfl) (cellRs hS.ok 0 rfl (fun _ => rfl) rfl (by omega) rfl)) ?_
           | refine wl_v (x_load Try.underlying3 rfl (tmP rfl rfl) (cellV hS.ok 1 rfl rfl)) ?_
           | refine wl_v (x_load Try.underlying3 rfl (tmP rfl rfl) (cellV hS.ok 1 rfl (getm (by omega)))) ?_
           | refine wl_v (x_load Try.underlying3 rfl (tmP rfl rfl) (cellVs hS.ok 1 rfl (fun _ => rfl) rfl (by omega) rfl)) ?_
           | refine wl_v (x_load Try.underlying3 rfl (tmP rfl rfl) (cellR hS.ok 1 rfl rfl)) ?_
           | refine wl_v (x_load Try.underlying3 rfl (tmP rfl rfl) (cellR hS.ok 1 rfl (getm (by omega)))) ?_
           | refine wl_v (x_load Try.underlying3 rfl (tmP rfl rfl) (cellRs hS.ok 1 rfl (fun _ => rfl) rfl (by omega) rfl)) ?_
           | refine wl_v (x_load Try.underlying3 rfl (tmP rfl rfl) (cellV hS.ok 2 rfl rfl)) ?_
           | refine wl_v (x_load Try.underlying3 rfl (tmP rfl rfl) (cellV hS.ok 2 rfl (getm (by omega)))) ?_
           | refine wl_v (x_load Try.underlying3 rfl (tmP rfl rfl) (cellVs hS.ok 2 rfl (fun _ => rfl) rfl (by omega) rfl)) ?_
           | refine wl_v (x_load Try.underlying3 rfl (tmP rfl rfl) (cellR hS.ok 2 rfl rfl)) ?_
           | refine wl_v (x_load Try.underlying3 rfl (tmP rfl rfl) (cellR hS.ok 2 rfl (getm (by omega)))) ?_
           | refine wl_v (x_load Try.underlying3 rfl (tmP rfl rfl) (cellRs hS.ok 2 rfl (fun _ => rfl) rfl (by omega) rfl)) ?_
          refine wl_e rfl ?_; intro K hK
          refine ow_build hS Try.underlying53 tz_3 (bc_take (tmI rfl rfl) <| bc_nil) rfl rfl (by kernel_rfl) ?_
          clear hS; intro g6_5 w hg6_5 hS
          refine hK _ _ ?_; clear hK K
          refine wl_e rfl ?_; intro K hK
          refine ow_append hS 1 0 rfl rfl Try.underlying53 tz_3 rfl (tmS rfl rfl) (tmS rfl rfl) rfl ⟨by decide, by decide, rfl⟩ (by simp only [maxLen]; omega) (by omega) ?_
          clear hS; intro g6_6 cg6_6 w hS
          refine hK _ _ ?_; clear hK K
          refine wl_v (x_assign (tmS rfl rfl)) ?_
          refine wl_nil ?_
          refine inb_n ?_
          refine then_n (hK7 _ _ ?_); clear hK7 K7
          refine wlit ?_
          refine wl_v (x_move (tmI rfl rfl)) ?_
          first
           | refine wl_v (x_addN (tmI rfl rfl) (ev_cN 1) (fit_i64 (by omega))) ?_
           | refine wl_v (x_addI (tmI rfl rfl) (ev_cN 1) (IntWalk.i64_in _ (by omega))) ?_
           | refine wl_v (x_add (tmI rfl rfl) (ev_cN 1)) ?_
          refine wl_v (x_assign (tmI rfl rfl)) ?_
          refine wl_nil ?_
          first
           | exact then_n ⟨_, _, rfl, (by show _ < _; omega), (by repeat (first | exact agree_self | exact agree_refl | refine agree_upd rfl ?_ | refine agree_mix rfl ?_)), k + 1, o ++ [left.getD k 0], q + 1, _, _, rfl, (by first | rfl | go_num), (by first | rfl | go_num), (by rw [List.map_append]; exact hS.pick [1, 2, 3] rfl rfl), (by omega), (by first | rfl | (simp only [oth]; rw [if_pos hx, ← ho]) | (simp only [oth]; rw [if_neg hx, ← ho])), (by first | rfl | exact hq | (simp; exact hq))⟩
           | exact then_n ⟨_, _, rfl, (by show _ < _; omega), (by repeat (first | exact agree_self | exact agree_refl | refine agree_upd rfl ?_ | refine agree_mix rfl ?_)), k + 1, o, q, _, _, rfl, (by first | rfl | go_num), (by first | rfl | go_num), hS, (by omega), (by first | rfl | (simp only [oth]; rw [if_pos hx, ← ho]) | (simp only [oth]; rw [if_neg hx, ← ho])), (by first | rfl | exact hq | (simp; exact hq))⟩
       try simp only [nrm] at hc1
       have hx : left.getD k 0 = gone := by simpa using hc1
       refine wp_skip ?_
       refine inb_n ?_
       refine then_n (hK7 _ _ ?_); clear hK7 K7
       refine wlit ?_
       refine wl_v (x_move (tmI rfl rfl)) ?_
       first
        | refine wl_v (x_addN (tmI rfl rfl) (ev_cN 1) (fit_i64 (by omega))) ?_
        | refine wl_v (x_addI (tmI rfl rfl) (ev_cN 1) (IntWalk.i64_in _ (by omega))) ?_
        | refine wl_v (x_add (tmI rfl rfl) (ev_cN 1)) ?_
       refine wl_v (x_assign (tmI rfl rfl)) ?_
       refine wl_nil ?_
       first
        | exact then_n ⟨_, _, rfl, (by show _ < _; omega), (by repeat (first | exact agree_self | exact agree_refl | refine agree_upd rfl ?_ | refine agree_mix rfl ?_)), k + 1, o ++ [left.getD k 0], q + 1, _, _, rfl, (by first | rfl | go_num), (by first | rfl | go_num), (by rw [List.map_append]; exact hS.pick [1, 2, 3] rfl rfl), (by omega), (by first | rfl | (simp only [oth]; rw [if_pos hx, ← ho]) | (simp only [oth]; rw [if_neg hx, ← ho])), (by first | rfl | exact hq | (simp; exact hq))⟩
        | exact then_n ⟨_, _, rfl, (by show _ < _; omega), (by repeat (first | exact agree_self | exact agree_refl | refine agree_upd rfl ?_ | refine agree_mix rfl ?_)), k + 1, o, q, _, _, rfl, (by first | rfl | go_num), (by first | rfl | go_num), hS, (by omega), (by first | rfl | (simp only [oth]; rw [if_pos hx, ← ho]) | (simp only [oth]; rw [if_neg hx, ← ho])), (by first | rfl | exact hq | (simp; exact hq))⟩
    try simp only [nrm] at hc0
    refine wp_exit ?_
    refine then_x ?_; clear hK5 K5
    refine then_x ?_
    refine inb_x ?_
    refine then_n (hK3 _ _ ?_); clear hK3 K3
    refine wp_seq_k ?_; intro K9 hK9
    refine wp_seq_k ?_; intro K10 hK10
    obtain rfl : k = n4 := by omega
    refine wlit ?_
    refine wl_v (x_move (tmS rfl rfl)) ?_
    refine wl_v (x_len Try.underlying53 (tmS rfl rfl)) ?_
    refine wl_v (x_eql (tmI rfl rfl) (ev_cN 0)) ?_
    refine wl_nil ?_
    refine then_n (hK10 _ _ ?_); clear hK10 K10
    refine cnds (tm rfl) (fun hc2 => ?_) (fun hc2 => ?_)
    · exfalso
      have h0 : q = 0 := by rw [hq, ho, he]; rfl
      have h1 := of_decide_eq_false hc2
      omega
    try simp only [nrm] at hc2
    refine wp_seq_k ?_; intro K11 hK11
    refine wlit ?_
    refine wl_v (x_assign ev_c) ?_
    refine wl_v (x_assign ev_c) ?_
    refine wl_nil ?_
    refine then_n (hK11 _ _ ?_); clear hK11 K11
    refine wp_ret ?_
    refine then_r ?_
    refine ret2 rfl (.tmp rfl (show _ = Value.slice _ _ _ from rfl)) (.tmp rfl (show _ = Value.bool _ from rfl)) ?_
    exact ⟨rfl, hS.kp⟩
set_option maxRecDepth 100000 in
set_option maxHeartbeats 8000000 in
theorem rwithout_ok (n : Nat) (A : Option Addr) (c : Nat) (l : List Int) (gone : Int) (n4 : Nat) (A4 : Option Addr) (c4 : Nat) (left : List Int) (w0 : World) (hv : View w0 w0.heap.size A (l.map i64v)) (hv4 : View w0 w0.heap.size A4 (left.map i64v)) (hl4 : left.length = n4) (hn4 : n4 ≤ 1000000)
    (hl : l.length = n) (hn1 : n ≤ 1000000) (he : oth gone left n4 ≠ []) :
    Calls Try.prog 42 #[.slice A n c, .int .i64 gone, .slice A4 n4 c4] w0 fun e w' => ∃ A' c', e = .returned (.tuple #[.slice A' n c', .bool true]) ∧ New w0 w' (.row (.slice A' n c') 3 1 n ((wst l gone (oth gone left n4) n).1.map i64v)) ∧ Kp [] w0 w' := by
  have hS := ((St.sv w0).vcons rfl hv).vcons rfl hv4
  refine ent (n := 63) Try.func42 rfl rfl ?_
  refine wp_seq_k ?_; intro K1 hK1
  refine wlit ?_
  refine wl_v (x_assign ev_c) ?_
  refine wl_v (x_assign ev_c) ?_
  refine wl_nil ?_
  refine then_n (hK1 _ _ ?_); clear hK1 K1
  refine wp_seq_k ?_; intro K2 hK2
  refine wlit ?_
  refine wl_v (x_assign ev_c) ?_
  refine wl_nil ?_
  refine then_n (hK2 _ _ ?_); clear hK2 K2
  refine wp_seq_k ?_; intro K3 hK3
  refine wp_seq_k ?_; intro K4 hK4
  refine wlit ?_
  refine wl_v (x_assign (ev_cN 0)) ?_
  refine wl_nil ?_
  refine then_n (hK4 _ _ ?_); clear hK4 K4
  refine wp_block ?_
  have hS := hS.nilrow 3 1
  refine lp [8, 9, 14, 15, 16, 17, 18, 19, 20, 21, 22, 23, 24, 25, 26, 27, 28, 29, 30, 31, 32] (fun m g w => ∃ (k : Nat), ∃ (o : List Int), ∃ (q : Nat), ∃ (A' : Option Addr), ∃ (c' : Nat), m = n4 - k ∧ g 9 = .int .i64 (k : Int) ∧ g 8 = .slice A' q c' ∧ St [] w0 [.row (.slice A' q c') 3 1 q (o.map i64v), .vw A4 (left.map i64v), .vw A (l.map i64v)] w ∧ (k ≤ n4) ∧ (o = oth gone left k) ∧ (q = o.length)) ?_ ?_
  · exact ⟨_, 0, [], 0, none, 0, rfl, (by first | rfl | go_num), (by first | rfl | go_num), hS, (by omega), (by first | rfl | (simp only [oth]; rw [if_pos hx, ← ho]) | (simp only [oth]; rw [if_neg hx, ← ho])), (by first | rfl | exact hq | (simp; exact hq))⟩
  · clear hS; intro m g w hI
    obtain ⟨k, o, q, A', c', rfl, hs9, hs8, hS, hk, ho, hq⟩ := hI
    refine fr_know (d := 9) hs9 ?_; clear hs9
    refine fr_know (d := 8) hs8 ?_; clear hs8
    refine wp_seq_k ?_; intro K5 hK5
    refine wp_seq_k ?_; intro K6 hK6
    refine wlit ?_
    refine wl_v (x_move (tmI rfl rfl)) ?_
    refine wl_v (x_move (tmS rfl rfl)) ?_
    refine wl_v (x_len Try.underlying53 (tmS rfl rfl)) ?_
    refine wl_v (x_lss (tmI rfl rfl) (tmI rfl rfl)) ?_
    refine wl_nil ?_
    refine then_n (hK6 _ _ ?_); clear hK6 K6
    refine cnd (tm rfl) (fun hc0 => ?_) (fun hc0 => ?_)
    · try (exfalso; first | with_reducible exact absurd hc0 Bool.false_ne_true | with_reducible exact absurd hc0.symm Bool.false_ne_true | (simp only [nrm] at hc0; omega))
      all_goals
       try simp only [nrm] at hc0
       obtain ⟨b4, o4, rfl⟩ := view_some hv4 (by simp; omega)
       have hql : o.length ≤ k := by rw [ho]; exact oth_le _ _ _
       refine wp_skip ?_
       refine then_n (hK5 _ _ ?_); clear hK5 K5
       refine wp_seq_k ?_; intro K7 hK7
       refine wp_block ?_
       refine wp_seq_k ?_; intro K8 hK8
       refine wlit ?_
       refine wl_v (x_move (tmS rfl rfl)) ?_
       refine wl_v (x_move (tmI rfl rfl)) ?_
       refine wl_v (x_ixs1 Try.underlying53 ts_3 (tmS rfl rfl) (tmI rfl rfl) (by omega)) ?_
       first
        | refine wl_v (x_load Try.underlying3 rfl (tmP rfl rfl) (cellB hS.ok 0 rfl rfl)) ?_
        | refine wl_v (x_load Try.underlying3 rfl (tmP rfl rfl) (cellB hS.ok 1 rfl rfl)) ?_
        | refine wl_v (x_load Try.underlying3 rfl (tmP rfl rfl) (cellB hS.ok 2 rfl rfl)) ?_
        | refine wl_v (x_load Try.underlying3 rfl (tmP rfl rfl) (cellV hS.ok 0 rfl rfl)) ?_
        | refine wl_v (x_load Try.underlying3 rfl (tmP rfl rfl) (cellV hS.ok 0 rfl (getm (by omega)))) ?_
        | refine wl_v (x_load Try.underlying3 rfl (tmP rfl rfl) (cellVs hS.ok 0 rfl (fun _ => rfl) rfl (by omega) rfl)) ?_
        | refine wl_v (x_load Try.underlying3 rfl (tmP rfl rfl) (cellR hS.ok 0 rfl rfl)) ?_
        | refine wl_v (x_load Try.underlying3 rfl (tmP rfl rfl) (cellR hS.ok 0 rfl (getm (by omega)))) ?_
        | refine wl_v (x_load Try.underlying3 rfl (tmP rfl rfl) (cellRs hS.ok 0 rfl (fun _ => rfl) rfl (by omega) rfl)) ?_
        | refine wl_v (x_load Try.underlying3 rfl (tmP rfl rfl) (cellV hS.ok 1 rfl rfl)) ?_
        | refine wl_v (x_load Try.underlying3 rfl (tmP rfl rfl) (cellV hS.ok 1 rfl (getm (by omega)))) ?_
        | refine wl_v (x_load Try.underlying3 rfl (tmP rfl rfl) (cellVs hS.ok 1 rfl (fun _ => rfl) rfl (by omega) rfl)) ?_
        | refine wl_v (x_load Try.underlying3 rfl (tmP rfl rfl) (cellR hS.ok 1 rfl rfl)) ?_
        | refine wl_v (x_load Try.underlying3 rfl (tmP rfl rfl) (cellR hS.ok 1 rfl (getm (by omega)))) ?_
        | refine wl_v (x_load Try.underlying3 rfl (tmP rfl rfl) (cellRs hS.ok 1 rfl (fun _ => rfl) rfl (by omega) rfl)) ?_
        | refine wl_v (x_load Try.underlying3 rfl (tmP rfl rfl) (cellV hS.ok 2 rfl rfl)) ?_
        | refine wl_v (x_load Try.underlying3 rfl (tmP rfl rfl) (cellV hS.ok 2 rfl (getm (by omega)))) ?_
        | refine wl_v (x_load Try.underlying3 rfl (tmP rfl rfl) (cellVs hS.ok 2 rfl (fun _ => rfl) rfl (by omega) rfl)) ?_
        | refine wl_v (x_load Try.underlying3 rfl (tmP rfl rfl) (cellR hS.ok 2 rfl rfl)) ?_
        | refine wl_v (x_load Try.underlying3 rfl (tmP rfl rfl) (cellR hS.ok 2 rfl (getm (by omega)))) ?_
        | refine wl_v (x_load Try.underlying3 rfl (tmP rfl rfl) (cellRs hS.ok 2 rfl (fun _ => rfl) rfl (by omega) rfl)) ?_
       refine wl_v (x_move (tmI rfl rfl)) ?_
       refine wl_v (x_neq (tmI rfl rfl) (tmI rfl rfl)) ?_
       refine wl_nil ?_
       refine then_n (hK8 _ _ ?_); clear hK8 K8
       refine cnd (tm rfl) (fun hc1 => ?_) (fun hc1 => ?_)
       · try (exfalso; first | with_reducible exact absurd hc1 Bool.false_ne_true | with_reducible exact absurd hc1.symm Bool.false_ne_true | (simp only [nrm] at hc1; omega))
         all_goals
          try simp only [nrm] at hc1
          have hx : ¬ left.getD k 0 = gone := by simpa using hc1
          refine wlit ?_
          refine wl_v (x_move (tmS rfl rfl)) ?_
          refine wl_v (x_move (tmS rfl rfl)) ?_
          refine wl_v (x_move (tmI rfl rfl)) ?_
          refine wl_v (x_ixs1 Try.underlying53 ts_3 (tmS rfl rfl) (tmI rfl rfl) (by omega)) ?_
          first
           | refine wl_v (x_load Try.underlying3 rfl (tmP rfl rfl) (cellB hS.ok 0 rfl rfl)) ?_
           | refine wl_v (x_load Try.underlying3 rfl (tmP rfl rfl) (cellB hS.ok 1 rfl rfl)) ?_
           | refine wl_v (x_load Try.underlying3 rfl (tmP rfl rfl) (cellB hS.ok 2 rfl rfl)) ?_
           | refine wl_v (x_load Try.underlying3 rfl (tmP rfl rfl) (cellV hS.ok 0 rfl rfl)) ?_
           | refine wl_v (x_load Try.underlying3 rfl (tmP rfl rfl) (cellV hS.ok 0 rfl (getm (by omega)))) ?_
           | refine wl_v (x_load Try.underlying3 rfl (tmP rfl rfl) (cellVs hS.ok 0 rfl (fun _ => rfl) rfl (by omega) rfl)) ?_
           | refine wl_v (x_load Try.underlying3 rfl (tmP rfl rfl) (cellR hS.ok 0 rfl rfl)) ?_
           | refine wl_v (x_load Try.underlying3 rfl (tmP rfl rfl) (cellR hS.ok 0 rfl (getm (by omega)))) ?_
           | refine wl_v (x_load Try.underlying3 rfl (tmP rfl rfl) (cellRs hS.ok 0 rfl (fun _ => rfl) rfl (by omega) rfl)) ?_
           | refine wl_v (x_load Try.underlying3 rfl (tmP rfl rfl) (cellV hS.ok 1 rfl rfl)) ?_
           | refine wl_v (x_load Try.underlying3 rfl (tmP rfl rfl) (cellV hS.ok 1 rfl (getm (by omega)))) ?_
           | refine wl_v (x_load Try.underlying3 rfl (tmP rfl rfl) (cellVs hS.ok 1 rfl (fun _ => rfl) rfl (by omega) rfl)) ?_
           | refine wl_v (x_load Try.underlying3 rfl (tmP rfl rfl) (cellR hS.ok 1 rfl rfl)) ?_
           | refine wl_v (x_load Try.underlying3 rfl (tmP rfl rfl) (cellR hS.ok 1 rfl (getm (by omega)))) ?_
           | refine wl_v (x_load Try.underlying3 rfl (tmP rfl rfl) (cellRs hS.ok 1 rfl (fun _ => rfl) rfl (by omega) rfl)) ?_
           | refine wl_v (x_load Try.underlying3 rfl (tmP rfl rfl) (cellV hS.ok 2 rfl rfl)) ?_
           | refine wl_v (x_load Try.underlying3 rfl (tmP rfl rfl) (cellV hS.ok 2 rfl (getm (by omega)))) ?_
           | refine wl_v (x_load Try.underlying3 rfl (tmP rfl rfl) (cellVs hS.ok 2 rfl (fun _ => rfl) rfl (by omega) rfl)) ?_
           | refine wl_v (x_load Try.underlying3 rfl (tmP rfl rfl) (cellR hS.ok 2 rfl rfl)) ?_
           | refine wl_v (x_load Try.underlying3 rfl (tmP rfl rfl) (cellR hS.ok 2 rfl (getm (by omega)))) ?_
           | refine wl_v (x_load Try.underlying3 rfl (tmP rfl rfl) (cellRs hS.ok 2 rfl (fun _ => rfl) rfl (by omega) rfl)) ?_
          refine wl_e rfl ?_; intro K hK
          refine ow_build hS Try.underlying53 tz_3 (bc_take (tmI rfl rfl) <| bc_nil) rfl rfl (by kernel_rfl) ?_
          clear hS; intro g6_5 w hg6_5 hS
          refine hK _ _ ?_; clear hK K
          refine wl_e rfl ?_; intro K hK
          refine ow_append hS 1 0 rfl rfl Try.underlying53 tz_3 rfl (tmS rfl rfl) (tmS rfl rfl) rfl ⟨by decide, by decide, rfl⟩ (by simp only [maxLen]; omega) (by omega) ?_
          clear hS; intro g6_6 cg6_6 w hS
          refine hK _ _ ?_; clear hK K
          refine wl_v (x_assign (tmS rfl rfl)) ?_
          refine wl_nil ?_
          refine inb_n ?_
          refine then_n (hK7 _ _ ?_); clear hK7 K7
          refine wlit ?_
          refine wl_v (x_move (tmI rfl rfl)) ?_
          first
           | refine wl_v (x_addN (tmI rfl rfl) (ev_cN 1) (fit_i64 (by omega))) ?_
           | refine wl_v (x_addI (tmI rfl rfl) (ev_cN 1) (IntWalk.i64_in _ (by omega))) ?_
           | refine wl_v (x_add (tmI rfl rfl) (ev_cN 1)) ?_
          refine wl_v (x_assign (tmI rfl rfl)) ?_
          refine wl_nil ?_
          first
           | exact then_n ⟨_, _, rfl, (by show _ < _; omega), (by repeat (first | exact agree_self | exact agree_refl | refine agree_upd rfl ?_ | refine agree_mix rfl ?_)), k + 1, o ++ [left.getD k 0], q + 1, _, _, rfl, (by first | rfl | go_num), (by first | rfl | go_num), (by rw [List.map_append]; exact hS.pick [1, 2, 3] rfl rfl), (by omega), (by first | rfl | (simp only [oth]; rw [if_pos hx, ← ho]) | (simp only [oth]; rw [if_neg hx, ← ho])), (by first | rfl | exact hq | (simp; exact hq))⟩
           | exact then_n ⟨_, _, rfl, (by show _ < _; omega), (by repeat (first | exact agree_self | exact agree_refl | refine agree_upd rfl ?_ | refine agree_mix rfl ?_)), k + 1, o, q, _, _, rfl, (by first | rfl | go_num), (by first | rfl | go_num), hS, (by omega), (by first | rfl | (simp only [oth]; rw [if_pos hx, ← ho]) | (simp only [oth]; rw [if_neg hx, ← ho])), (by first | rfl | exact hq | (simp; exact hq))⟩
       try simp only [nrm] at hc1
       have hx : left.getD k 0 = gone := by simpa using hc1
       refine wp_skip ?_
       refine inb_n ?_
       refine then_n (hK7 _ _ ?_); clear hK7 K7
       refine wlit ?_
       refine wl_v (x_move (tmI rfl rfl)) ?_
       first
        | refine wl_v (x_addN (tmI rfl rfl) (ev_cN 1) (fit_i64 (by omega))) ?_
        | refine wl_v (x_addI (tmI rfl rfl) (ev_cN 1) (IntWalk.i64_in _ (by omega))) ?_
        | refine wl_v (x_add (tmI rfl rfl) (ev_cN 1)) ?_
       refine wl_v (x_assign (tmI rfl rfl)) ?_
       refine wl_nil ?_
       first
        | exact then_n ⟨_, _, rfl, (by show _ < _; omega), (by repeat (first | exact agree_self | exact agree_refl | refine agree_upd rfl ?_ | refine agree_mix rfl ?_)), k + 1, o ++ [left.getD k 0], q + 1, _, _, rfl, (by first | rfl | go_num), (by first | rfl | go_num), (by rw [List.map_append]; exact hS.pick [1, 2, 3] rfl rfl), (by omega), (by first | rfl | (simp only [oth]; rw [if_pos hx, ← ho]) | (simp only [oth]; rw [if_neg hx, ← ho])), (by first | rfl | exact hq | (simp; exact hq))⟩
        | exact then_n ⟨_, _, rfl, (by show _ < _; omega), (by repeat (first | exact agree_self | exact agree_refl | refine agree_upd rfl ?_ | refine agree_mix rfl ?_)), k + 1, o, q, _, _, rfl, (by first | rfl | go_num), (by first | rfl | go_num), hS, (by omega), (by first | rfl | (simp only [oth]; rw [if_pos hx, ← ho]) | (simp only [oth]; rw [if_neg hx, ← ho])), (by first | rfl | exact hq | (simp; exact hq))⟩
    try simp only [nrm] at hc0
    refine wp_exit ?_
    refine then_x ?_; clear hK5 K5
    refine then_x ?_
    refine inb_x ?_
    refine then_n (hK3 _ _ ?_); clear hK3 K3
    refine wp_seq_k ?_; intro K9 hK9
    refine wp_seq_k ?_; intro K10 hK10
    obtain rfl : k = n4 := by omega
    refine wlit ?_
    refine wl_v (x_move (tmS rfl rfl)) ?_
    refine wl_v (x_len Try.underlying53 (tmS rfl rfl)) ?_
    refine wl_v (x_eql (tmI rfl rfl) (ev_cN 0)) ?_
    refine wl_nil ?_
    refine then_n (hK10 _ _ ?_); clear hK10 K10
    refine cnd (tm rfl) (fun hc2 => ?_) (fun hc2 => ?_)
    · exfalso
      have h0 : 0 < q := by rw [hq, ho]; exact List.length_pos_iff.2 he
      have h1 := of_decide_eq_true hc2
      omega
    try simp only [nrm] at hc2
    have hq0 : 0 < q := by rw [hq, ho]; exact List.length_pos_iff.2 he
    have hqo : o.length = q := hq.symm
    have hqn : q ≤ k := by rw [hq, ho]; exact oth_le _ _ _
    obtain ⟨go, rfl⟩ := row_some (hS.rowOk 0 rfl) hq0
    refine wp_skip ?_
    refine then_n (hK9 _ _ ?_); clear hK9 K9
    refine wp_seq_k ?_; intro K11 hK11
    refine wlit ?_
    refine wl_v (x_assign ev_c) ?_
    refine wl_nil ?_
    refine then_n (hK11 _ _ ?_); clear hK11 K11
    refine wp_seq_k ?_; intro K12 hK12
    refine wlit ?_
    refine wl_v (x_assign (ev_cN 0)) ?_
    refine wl_nil ?_
    refine then_n (hK12 _ _ ?_); clear hK12 K12
    refine wp_seq_k ?_; intro K13 hK13
    refine wp_seq_k ?_; intro K14 hK14
    refine wlit ?_
    refine wl_v (x_assign (ev_cN 0)) ?_
    refine wl_nil ?_
    refine then_n (hK14 _ _ ?_); clear hK14 K14
    refine wp_block ?_
    have hS := hS.nilrow 3 1
    refine lp [10, 11, 12, 13, 36, 37, 38, 39, 40, 41, 42, 43, 44, 45, 46, 47, 48, 49, 50, 51, 52, 53, 54, 55, 56, 57, 58, 59, 60, 61] (fun m g w => ∃ (i : Nat), ∃ (r : Nat), ∃ (x : List Int), ∃ (Ax : Option Addr), ∃ (cx : Nat), m = n - i ∧ g 12 = .int .i64 (i : Int) ∧ g 11 = .int .i64 (r : Int) ∧ g 10 = .slice Ax i cx ∧ St [] w0 [.row (.slice Ax i cx) 3 1 i (x.map i64v), .row (.slice (some ⟨go, 0, none⟩) q c') 3 1 q (o.map i64v), .vw A4 (left.map i64v), .vw A (l.map i64v)] w ∧ (i ≤ n) ∧ (r = (wst l gone o i).2) ∧ (x = (wst l gone o i).1)) ?_ ?_
    · exact ⟨_, 0, 0, [], none, 0, rfl, (by first | rfl | go_num), (by first | rfl | go_num), (by first | rfl | go_num), hS, (by omega), (by first | rfl | (simp only [wst]; rw [if_pos hx2, ← hr]) | (simp only [wst]; rw [if_neg hx2, ← hr])), (by first | rfl | (simp only [wst]; rw [if_pos hx2, ← hx, ← hr, hqo]) | (simp only [wst]; rw [if_neg hx2, ← hx]))⟩
    · clear hS; intro m g w hI
      obtain ⟨i, r, x, Ax, cx, rfl, hs12, hs11, hs10, hS, hi, hr, hx⟩ := hI
      refine fr_know (d := 12) hs12 ?_; clear hs12
      refine fr_know (d := 11) hs11 ?_; clear hs11
      refine fr_know (d := 10) hs10 ?_; clear hs10
      refine wp_seq_k ?_; intro K15 hK15
      refine wp_seq_k ?_; intro K16 hK16
      refine wlit ?_
      refine wl_v (x_move (tmI rfl rfl)) ?_
      refine wl_v (x_move (tmS rfl rfl)) ?_
      refine wl_v (x_len Try.underlying53 (tmS rfl rfl)) ?_
      refine wl_v (x_lss (tmI rfl rfl) (tmI rfl rfl)) ?_
      refine wl_nil ?_
      refine then_n (hK16 _ _ ?_); clear hK16 K16
      refine cnd (tm rfl) (fun hc3 => ?_) (fun hc3 => ?_)
      · try (exfalso; first | with_reducible exact absurd hc3 Bool.false_ne_true | with_reducible exact absurd hc3.symm Bool.false_ne_true | (simp only [nrm] at hc3; omega))
        all_goals
         try simp only [nrm] at hc3
         obtain ⟨bl, ol, rfl⟩ := view_some hv (by simp; omega)
         have hrl := (wst_len l gone o i).2
         refine wp_skip ?_
         refine then_n (hK15 _ _ ?_); clear hK15 K15
         refine wp_seq_k ?_; intro K17 hK17
         refine wp_block ?_
         refine wp_seq_k ?_; intro K18 hK18
         refine wlit ?_
         refine wl_v (x_move (tmS rfl rfl)) ?_
         refine wl_v (x_move (tmI rfl rfl)) ?_
         refine wl_v (x_ixs1 Try.underlying53 ts_3 (tmS rfl rfl) (tmI rfl rfl) (by omega)) ?_
         first
          | refine wl_v (x_load Try.underlying3 rfl (tmP rfl rfl) (cellB hS.ok 0 rfl rfl)) ?_
          | refine wl_v (x_load Try.underlying3 rfl (tmP rfl rfl) (cellB hS.ok 1 rfl rfl)) ?_
          | refine wl_v (x_load Try.underlying3 rfl (tmP rfl rfl) (cellB hS.ok 2 rfl rfl)) ?_
          | refine wl_v (x_load Try.underlying3 rfl (tmP rfl rfl) (cellB hS.ok 3 rfl rfl)) ?_
          | refine wl_v (x_load Try.underlying3 rfl (tmP rfl rfl) (cellV hS.ok 0 rfl rfl)) ?_
          | refine wl_v (x_load Try.underlying3 rfl (tmP rfl rfl) (cellV hS.ok 0 rfl (getm (by omega)))) ?_
          | refine wl_v (x_load Try.underlying3 rfl (tmP rfl rfl) (cellVs hS.ok 0 rfl (fun _ => rfl) rfl (by omega) rfl)) ?_
          | refine wl_v (x_load Try.underlying3 rfl (tmP rfl rfl) (cellR hS.ok 0 rfl rfl)) ?_
          | refine wl_v (x_load Try.underlying3 rfl (tmP rfl rfl) (cellR hS.ok 0 rfl (getm (by omega)))) ?_
          | refine wl_v (x_load Try.underlying3 rfl (tmP rfl rfl) (cellRs hS.ok 0 rfl (fun _ => rfl) rfl (by omega) rfl)) ?_
          | refine wl_v (x_load Try.underlying3 rfl (tmP rfl rfl) (cellV hS.ok 1 rfl rfl)) ?_
          | refine wl_v (x_load Try.underlying3 rfl (tmP rfl rfl) (cellV hS.ok 1 rfl (getm (by omega)))) ?_
          | refine wl_v (x_load Try.underlying3 rfl (tmP rfl rfl) (cellVs hS.ok 1 rfl (fun _ => rfl) rfl (by omega) rfl)) ?_
          | refine wl_v (x_load Try.underlying3 rfl (tmP rfl rfl) (cellR hS.ok 1 rfl rfl)) ?_
          | refine wl_v (x_load Try.underlying3 rfl (tmP rfl rfl) (cellR hS.ok 1 rfl (getm (by omega)))) ?_
          | refine wl_v (x_load Try.underlying3 rfl (tmP rfl rfl) (cellRs hS.ok 1 rfl (fun _ => rfl) rfl (by omega) rfl)) ?_
          | refine wl_v (x_load Try.underlying3 rfl (tmP rfl rfl) (cellV hS.ok 2 rfl rfl)) ?_
          | refine wl_v (x_load Try.underlying3 rfl (tmP rfl rfl) (cellV hS.ok 2 rfl (getm (by omega)))) ?_
          | refine wl_v (x_load Try.underlying3 rfl (tmP rfl rfl) (cellVs hS.ok 2 rfl (fun _ => rfl) rfl (by omega) rfl)) ?_
          | refine wl_v (x_load Try.underlying3 rfl (tmP rfl rfl) (cellR hS.ok 2 rfl rfl)) ?_
          | refine wl_v (x_load Try.underlying3 rfl (tmP rfl rfl) (cellR hS.ok 2 rfl (getm (by omega)))) ?_
          | refine wl_v (x_load Try.underlying3 rfl (tmP rfl rfl) (cellRs hS.ok 2 rfl (fun _ => rfl) rfl (by omega) rfl)) ?_
          | refine wl_v (x_load Try.underlying3 rfl (tmP rfl rfl) (cellV hS.ok 3 rfl rfl)) ?_
          | refine wl_v (x_load Try.underlying3 rfl (tmP rfl rfl) (cellV hS.ok 3 rfl (getm (by omega)))) ?_
          | refine wl_v (x_load Try.underlying3 rfl (tmP rfl rfl) (cellVs hS.ok 3 rfl (fun _ => rfl) rfl (by omega) rfl)) ?_
          | refine wl_v (x_load Try.underlying3 rfl (tmP rfl rfl) (cellR hS.ok 3 rfl rfl)) ?_
          | refine wl_v (x_load Try.underlying3 rfl (tmP rfl rfl) (cellR hS.ok 3 rfl (getm (by omega)))) ?_
          | refine wl_v (x_load Try.underlying3 rfl (tmP rfl rfl) (cellRs hS.ok 3 rfl (fun _ => rfl) rfl (by omega) rfl)) ?_
         refine wl_v (x_assign (tmI rfl rfl)) ?_
         refine wl_nil ?_
         refine then_n (hK18 _ _ ?_); clear hK18 K18
         refine wp_seq_k ?_; intro K19 hK19
         refine wp_seq_k ?_; intro K20 hK20
         refine wlit ?_
         refine wl_v (x_move (tmI rfl rfl)) ?_
         refine wl_v (x_move (tmI rfl rfl)) ?_
         refine wl_v (x_eql (tmI rfl rfl) (tmI rfl rfl)) ?_
         refine wl_nil ?_
         refine then_n (hK20 _ _ ?_); clear hK20 K20
         refine cnd (tm rfl) (fun hc4 => ?_) (fun hc4 => ?_)
         · try (exfalso; first | with_reducible exact absurd hc4 Bool.false_ne_true | with_reducible exact absurd hc4.symm Bool.false_ne_true | (simp only [nrm] at hc4; omega))
           all_goals
            try simp only [nrm] at hc4
            have hx2 : l.getD i 0 = gone := hc4
            have hmod : r % q < q := Nat.mod_lt _ hq0
            refine wp_seq_k ?_; intro K21 hK21
            refine wlit ?_
            refine wl_v (x_move (tmS rfl rfl)) ?_
            refine wl_v (x_move (tmI rfl rfl)) ?_
            refine wl_v (x_move (tmS rfl rfl)) ?_
            refine wl_v (x_len Try.underlying53 (tmS rfl rfl)) ?_
            first
             | refine wl_v (x_remN (tmI rfl rfl) (tmI rfl rfl) (by omega)) ?_
             | refine wl_v (x_rem (tmI rfl rfl) (tmI rfl rfl) (by omega)) ?_
            refine wl_v (x_ixs1 Try.underlying53 ts_3 (tmS rfl rfl) (tmI rfl rfl) (by omega)) ?_
            first
             | refine wl_v (x_load Try.underlying3 rfl (tmP rfl rfl) (cellB hS.ok 0 rfl rfl)) ?_
             | refine wl_v (x_load Try.underlying3 rfl (tmP rfl rfl) (cellB hS.ok 1 rfl rfl)) ?_
             | refine wl_v (x_load Try.underlying3 rfl (tmP rfl rfl) (cellB hS.ok 2 rfl rfl)) ?_
             | refine wl_v (x_load Try.underlying3 rfl (tmP rfl rfl) (cellB hS.ok 3 rfl rfl)) ?_
             | refine wl_v (x_load Try.underlying3 rfl (tmP rfl rfl) (cellV hS.ok 0 rfl rfl)) ?_
             | refine wl_v (x_load Try.underlying3 rfl (tmP rfl rfl) (cellV hS.ok 0 rfl (getm (by omega)))) ?_
             | refine wl_v (x_load Try.underlying3 rfl (tmP rfl rfl) (cellVs hS.ok 0 rfl (fun _ => rfl) rfl (by omega) rfl)) ?_
             | refine wl_v (x_load Try.underlying3 rfl (tmP rfl rfl) (cellR hS.ok 0 rfl rfl)) ?_
             | refine wl_v (x_load Try.underlying3 rfl (tmP rfl rfl) (cellR hS.ok 0 rfl (getm (by omega)))) ?_
             | refine wl_v (x_load Try.underlying3 rfl (tmP rfl rfl) (cellRs hS.ok 0 rfl (fun _ => rfl) rfl (by omega) rfl)) ?_
             | refine wl_v (x_load Try.underlying3 rfl (tmP rfl rfl) (cellV hS.ok 1 rfl rfl)) ?_
             | refine wl_v (x_load Try.underlying3 rfl (tmP rfl rfl) (cellV hS.ok 1 rfl (getm (by omega)))) ?_
             | refine wl_v (x_load Try.underlying3 rfl (tmP rfl rfl) (cellVs hS.ok 1 rfl (fun _ => rfl) rfl (by omega) rfl)) ?_
             | refine wl_v (x_load Try.underlying3 rfl (tmP rfl rfl) (cellR hS.ok 1 rfl rfl)) ?_
             | refine wl_v (x_load Try.underlying3 rfl (tmP rfl rfl) (cellR hS.ok 1 rfl (getm (by omega)))) ?_
             | refine wl_v (x_load Try.underlying3 rfl (tmP rfl rfl) (cellRs hS.ok 1 rfl (fun _ => rfl) rfl (by omega) rfl)) ?_
             | refine wl_v (x_load Try.underlying3 rfl (tmP rfl rfl) (cellV hS.ok 2 rfl rfl)) ?_
             | refine wl_v (x_load Try.underlying3 rfl (tmP rfl rfl) (cellV hS.ok 2 rfl (getm (by omega)))) ?_
             | refine wl_v (x_load Try.underlying3 rfl (tmP rfl rfl) (cellVs hS.ok 2 rfl (fun _ => rfl) rfl (by omega) rfl)) ?_
             | refine wl_v (x_load Try.underlying3 rfl (tmP rfl rfl) (cellR hS.ok 2 rfl rfl)) ?_
             | refine wl_v (x_load Try.underlying3 rfl (tmP rfl rfl) (cellR hS.ok 2 rfl (getm (by omega)))) ?_
             | refine wl_v (x_load Try.underlying3 rfl (tmP rfl rfl) (cellRs hS.ok 2 rfl (fun _ => rfl) rfl (by omega) rfl)) ?_
             | refine wl_v (x_load Try.underlying3 rfl (tmP rfl rfl) (cellV hS.ok 3 rfl rfl)) ?_
             | refine wl_v (x_load Try.underlying3 rfl (tmP rfl rfl) (cellV hS.ok 3 rfl (getm (by omega)))) ?_
             | refine wl_v (x_load Try.underlying3 rfl (tmP rfl rfl) (cellVs hS.ok 3 rfl (fun _ => rfl) rfl (by omega) rfl)) ?_
             | refine wl_v (x_load Try.underlying3 rfl (tmP rfl rfl) (cellR hS.ok 3 rfl rfl)) ?_
             | refine wl_v (x_load Try.underlying3 rfl (tmP rfl rfl) (cellR hS.ok 3 rfl (getm (by omega)))) ?_
             | refine wl_v (x_load Try.underlying3 rfl (tmP rfl rfl) (cellRs hS.ok 3 rfl (fun _ => rfl) rfl (by omega) rfl)) ?_
            refine wl_v (x_assign (tmI rfl rfl)) ?_
            refine wl_nil ?_
            refine then_n (hK21 _ _ ?_); clear hK21 K21
            refine wlit ?_
            refine wl_v (x_move (tmI rfl rfl)) ?_
            first
             | refine wl_v (x_addN (tmI rfl rfl) (ev_cN 1) (fit_i64 (by omega))) ?_
             | refine wl_v (x_addI (tmI rfl rfl) (ev_cN 1) (IntWalk.i64_in _ (by omega))) ?_
             | refine wl_v (x_add (tmI rfl rfl) (ev_cN 1)) ?_
            refine wl_v (x_assign (tmI rfl rfl)) ?_
            refine wl_nil ?_
            refine then_n (hK19 _ _ ?_); clear hK19 K19
            refine wlit ?_
            refine wl_v (x_move (tmS rfl rfl)) ?_
            refine wl_v (x_move (tmI rfl rfl)) ?_
            refine wl_e rfl ?_; intro K hK
            refine ow_build hS Try.underlying53 tz_3 (bc_take (tmI rfl rfl) <| bc_nil) rfl rfl (by kernel_rfl) ?_
            clear hS; intro g18_2 w hg18_2 hS
            refine hK _ _ ?_; clear hK K
            refine wl_e rfl ?_; intro K hK
            first
             | refine ow_append hS 1 0 rfl rfl Try.underlying53 tz_3 rfl (tmS rfl rfl) (tmS rfl rfl) rfl ⟨by decide, by decide, rfl⟩ (by simp only [maxLen]; omega) (by omega) ?_
             | refine ow_append hS 2 0 rfl rfl Try.underlying53 tz_3 rfl (tmS rfl rfl) (tmS rfl rfl) rfl ⟨by decide, by decide, rfl⟩ (by simp only [maxLen]; omega) (by omega) ?_
            clear hS; intro g18_3 cg18_3 w hS
            refine hK _ _ ?_; clear hK K
            refine wl_v (x_assign (tmS rfl rfl)) ?_
            refine wl_nil ?_
            refine inb_n ?_
            refine then_n (hK17 _ _ ?_); clear hK17 K17
            refine wlit ?_
            refine wl_v (x_move (tmI rfl rfl)) ?_
            first
             | refine wl_v (x_addN (tmI rfl rfl) (ev_cN 1) (fit_i64 (by omega))) ?_
             | refine wl_v (x_addI (tmI rfl rfl) (ev_cN 1) (IntWalk.i64_in _ (by omega))) ?_
             | refine wl_v (x_add (tmI rfl rfl) (ev_cN 1)) ?_
            refine wl_v (x_assign (tmI rfl rfl)) ?_
            refine wl_nil ?_
            first
             | exact then_n ⟨_, _, rfl, (by show _ < _; omega), (by repeat (first | exact agree_self | exact agree_refl | refine agree_upd rfl ?_ | refine agree_mix rfl ?_)), i + 1, r + 1, x ++ [o.getD (r % q) 0], _, _, rfl, (by first | rfl | go_num), (by first | rfl | go_num), (by first | rfl | go_num), (by rw [List.map_append]; exact hS.pick [1, 2, 3, 4] rfl rfl), (by omega), (by first | rfl | (simp only [wst]; rw [if_pos hx2, ← hr]) | (simp only [wst]; rw [if_neg hx2, ← hr])), (by first | rfl | (simp only [wst]; rw [if_pos hx2, ← hx, ← hr, hqo]) | (simp only [wst]; rw [if_neg hx2, ← hx]))⟩
             | exact then_n ⟨_, _, rfl, (by show _ < _; omega), (by repeat (first | exact agree_self | exact agree_refl | refine agree_upd rfl ?_ | refine agree_mix rfl ?_)), i + 1, r, x ++ [l.getD i 0], _, _, rfl, (by first | rfl | go_num), (by first | rfl | go_num), (by first | rfl | go_num), (by rw [List.map_append]; exact hS.pick [1, 2, 3, 4] rfl rfl), (by omega), (by first | rfl | (simp only [wst]; rw [if_pos hx2, ← hr]) | (simp only [wst]; rw [if_neg hx2, ← hr])), (by first | rfl | (simp only [wst]; rw [if_pos hx2, ← hx, ← hr, hqo]) | (simp only [wst]; rw [if_neg hx2, ← hx]))⟩
         try simp only [nrm] at hc4
         have hx2 : ¬ l.getD i 0 = gone := hc4
         refine wp_skip ?_
         refine then_n (hK19 _ _ ?_); clear hK19 K19
         refine wlit ?_
         refine wl_v (x_move (tmS rfl rfl)) ?_
         refine wl_v (x_move (tmI rfl rfl)) ?_
         refine wl_e rfl ?_; intro K hK
         refine ow_build hS Try.underlying53 tz_3 (bc_take (tmI rfl rfl) <| bc_nil) rfl rfl (by kernel_rfl) ?_
         clear hS; intro g18_2 w hg18_2 hS
         refine hK _ _ ?_; clear hK K
         refine wl_e rfl ?_; intro K hK
         first
          | refine ow_append hS 1 0 rfl rfl Try.underlying53 tz_3 rfl (tmS rfl rfl) (tmS rfl rfl) rfl ⟨by decide, by decide, rfl⟩ (by simp only [maxLen]; omega) (by omega) ?_
          | refine ow_append hS 2 0 rfl rfl Try.underlying53 tz_3 rfl (tmS rfl rfl) (tmS rfl rfl) rfl ⟨by decide, by decide, rfl⟩ (by simp only [maxLen]; omega) (by omega) ?_
         clear hS; intro g18_3 cg18_3 w hS
         refine hK _ _ ?_; clear hK K
         refine wl_v (x_assign (tmS rfl rfl)) ?_
         refine wl_nil ?_
         refine inb_n ?_
         refine then_n (hK17 _ _ ?_); clear hK17 K17
         refine wlit ?_
         refine wl_v (x_move (tmI rfl rfl)) ?_
         first
          | refine wl_v (x_addN (tmI rfl rfl) (ev_cN 1) (fit_i64 (by omega))) ?_
          | refine wl_v (x_addI (tmI rfl rfl) (ev_cN 1) (IntWalk.i64_in _ (by omega))) ?_
          | refine wl_v (x_add (tmI rfl rfl) (ev_cN 1)) ?_
         refine wl_v (x_assign (tmI rfl rfl)) ?_
         refine wl_nil ?_
         first
          | exact then_n ⟨_, _, rfl, (by show _ < _; omega), (by repeat (first | exact agree_self | exact agree_refl | refine agree_upd rfl ?_ | refine agree_mix rfl ?_)), i + 1, r + 1, x ++ [o.getD (r % q) 0], _, _, rfl, (by first | rfl | go_num), (by first | rfl | go_num), (by first | rfl | go_num), (by rw [List.map_append]; exact hS.pick [1, 2, 3, 4] rfl rfl), (by omega), (by first | rfl | (simp only [wst]; rw [if_pos hx2, ← hr]) | (simp only [wst]; rw [if_neg hx2, ← hr])), (by first | rfl | (simp only [wst]; rw [if_pos hx2, ← hx, ← hr, hqo]) | (simp only [wst]; rw [if_neg hx2, ← hx]))⟩
          | exact then_n ⟨_, _, rfl, (by show _ < _; omega), (by repeat (first | exact agree_self | exact agree_refl | refine agree_upd rfl ?_ | refine agree_mix rfl ?_)), i + 1, r, x ++ [l.getD i 0], _, _, rfl, (by first | rfl | go_num), (by first | rfl | go_num), (by first | rfl | go_num), (by rw [List.map_append]; exact hS.pick [1, 2, 3, 4] rfl rfl), (by omega), (by first | rfl | (simp only [wst]; rw [if_pos hx2, ← hr]) | (simp only [wst]; rw [if_neg hx2, ← hr])), (by first | rfl | (simp only [wst]; rw [if_pos hx2, ← hx, ← hr, hqo]) | (simp only [wst]; rw [if_neg hx2, ← hx]))⟩
      try simp only [nrm] at hc3
      refine wp_exit ?_
      refine then_x ?_; clear hK15 K15
      refine then_x ?_
      refine inb_x ?_
      refine then_n (hK13 _ _ ?_); clear hK13 K13
      refine wp_seq_k ?_; intro K22 hK22
      refine wlit ?_
      refine wl_v (x_move (tmS rfl rfl)) ?_
      refine wl_v (x_assign (tmS rfl rfl)) ?_
      refine wl_v (x_assign ev_c) ?_
      refine wl_nil ?_
      refine then_n (hK22 _ _ ?_); clear hK22 K22
      refine wp_ret ?_
      refine ret2 rfl (.tmp rfl (show _ = Value.slice _ _ _ from rfl)) (.tmp rfl (show _ = Value.bool _ from rfl)) ?_
      obtain rfl : i = n := by omega
      rw [hx, ho] at hS
      exact ⟨_, _, rfl, hS.new 0 rfl rfl, hS.kp⟩

namespace SpreadPlaces
theorem pow_and : ∀ j, j ≤ 12 → (2 ^ j) &&& (2 ^ j - 1) = 0 := by
  intro j hj
  have : ∀ i, i < 13 → (2 ^ i) &&& (2 ^ i - 1) = 0 := by decide
  exact this j (by omega)
theorem and_pow_ : ∀ a, a < 65 → ∀ b, b < 64 → 1 ≤ 64 * a + b → 64 * a + b ≤ 4096 → (64 * a + b) &&& (64 * a + b - 1) = 0 → ∃ j, j < 13 ∧ 64 * a + b = 2 ^ j := by decide +kernel
theorem and_pow (m : Nat) (h : m < 4097) (h1 : 1 ≤ m) (h2 : m &&& (m - 1) = 0) : ∃ j, j < 13 ∧ m = 2 ^ j := by
  have e : 64 * (m / 64) + m % 64 = m := by omega
  have := and_pow_ (m / 64) (by omega) (m % 64) (by omega) (by omega) (by omega)
  rw [e] at this
  exact this h2
theorem cyc_get (to : List Int) (m k : Nat) (h : k < m) : (cyc to m).getD (k % m) 0 = (cyc to m).getD k 0 := by rw [Nat.mod_eq_of_lt h]

end SpreadPlaces
end Go.Proofs.Ytchpcijmgnfkfaa
