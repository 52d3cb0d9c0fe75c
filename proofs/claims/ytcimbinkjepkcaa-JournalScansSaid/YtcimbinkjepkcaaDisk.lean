
/- disk by contract. Conditions: none but bounds. -/
import Derived.Test.YtcimbinkjepkcaaOct
namespace Go.Proofs.Ytcimbinkjepkcaa
open Go.RowKit

def dkV (A : Option Addr) (m c safe most syncs : Nat) : List Value := [.slice A m c, .int .i64 (safe : Int), .int .i64 (most : Int), .int .i64 (syncs : Int)]

set_option maxRecDepth 100000 in
set_option maxHeartbeats 4000000 in
theorem dnew_c (most : Nat) (w0 : World) :
    Calls Try.prog 10 #[.int .i64 (most : Int)] w0 fun e w' => ∃ g, e = .returned (.pointer (some ⟨g, 0, none⟩)) ∧ New w0 w' (.blk g 54 (dkV none 0 0 0 most 0)) ∧ Kp [] w0 w' := by
  have hS := St.sv w0
  have hm : max most 0 = most := by omega
  refine ent (n := 7) Try.func10 rfl rfl ?_
  refine wp_seq_k ?_; intro K1 hK1
  refine wlit ?_
  refine wl_v (x_assign ev_c) ?_
  refine wl_nil ?_
  refine then_n (hK1 _ _ ?_); clear hK1 K1
  refine wp_seq_k ?_; intro K2 hK2
  refine wlit ?_
  refine wl_v (x_move (tmI rfl rfl)) ?_
  first
   | refine wl_v (x_max (tmI rfl rfl) (ev_cN 0)) ?_
   | refine wl_v (x_maxI (tmI rfl rfl) (ev_cN 0)) ?_
  refine wl_v (x_build (bc_skip (.slice none 0 0) <| bc_skip (.int .i64 0) <| bc_take (tmI rfl (congrArg (fun q : Nat => Value.int .i64 (q : Int)) hm)) <| bc_skip (.int .i64 0) <| bc_nil) (by kernel_rfl)) ?_
  refine wl_e rfl ?_; intro K hK
  refine ow_box hS (tmA rfl rfl) rfl ?_
  clear hS; intro g1_3 w hg1_3 hS
  refine hK _ _ ?_; clear hK K
  refine wl_v (x_assign (tmP rfl rfl)) ?_
  refine wl_nil ?_
  refine then_n (hK2 _ _ ?_); clear hK2 K2
  refine wp_ret ?_
  refine ret1 rfl (.tmp rfl (show _ = Value.pointer _ from rfl)) ?_
  exact ⟨_, rfl, hS.new 0 rfl rfl, hS.kp⟩

set_option maxRecDepth 100000 in
set_option maxHeartbeats 4000000 in
theorem dappend_c (g : Nat) (A : Option Addr) (m c safe most syncs : Nat) (l : List Nat) (B : Option Addr) (n cb : Nat) (b : List Nat) (F : List Nat) (w0 : World)
    (hS : St F w0 [.row (.slice A m c) 5 1 m (l.map u8v), .blk g 54 (dkV A m c safe most syncs), .vw B (b.map u8v)] w0) (hl : b.length = n) (hm : m + n ≤ most) (hm4 : most ≤ 1000000) :
    Calls Try.prog 29 #[.pointer (some ⟨g, 0, none⟩), .slice B n cb] w0 fun e w' => ∃ A' c', e = .returned (.int .i64 0) ∧ St F w0 [.row (.slice A' (m + n) c') 5 1 (m + n) ((l ++ b).map u8v), .blk g 54 (dkV A' (m + n) c' safe most syncs), .vw B (b.map u8v)] w' := by
  refine ent (n := 29) Try.func29 rfl rfl ?_
  refine wp_seq_k ?_; intro K1 hK1
  refine wlit ?_
  refine wl_v (x_assign (ev_cN 0)) ?_
  refine wl_nil ?_
  refine then_n (hK1 _ _ ?_); clear hK1 K1
  refine wp_seq_k ?_; intro K2 hK2
  refine wp_seq_k ?_; intro K3 hK3
  refine wlit ?_
  refine wl_v (x_move (tmP rfl rfl)) ?_
  first
   | refine wl_v (x_peql Try.underlying31 (tmP rfl rfl) ev_c) ?_
   | refine wl_v (x_peqln Try.underlying31 (tmP rfl rfl) ev_c) ?_
  refine wl_nil ?_
  refine then_n (hK3 _ _ ?_); clear hK3 K3
  refine cnd (tm rfl) (fun hc0 => ?_) (fun hc0 => ?_)
  · exfalso
    simp at hc0
  try (exfalso; first | with_reducible exact absurd hc0 Bool.false_ne_true | with_reducible exact absurd hc0.symm Bool.false_ne_true | (simp only [nrm] at hc0; omega) | (simp at hc0; done))
  all_goals
   try simp only [nrm] at hc0
   refine wp_skip ?_
   refine then_n (hK2 _ _ ?_); clear hK2 K2
   refine wp_seq_k ?_; intro K4 hK4
   refine wp_seq_k ?_; intro K5 hK5
   refine rg_startk 0 hS mixed_ ?_
   clear hS; intro w hS
   refine rg_take 0 rfl rfl (by kernel_rfl) (by kernel_rfl) (by kernel_rfl) (want_0) (fun w hok => x_move (tmS rfl rfl)) ?_
   refine rg_take 1 rfl rfl (by kernel_rfl) (by kernel_rfl) (by kernel_rfl) (want_0) (fun w hok => x_len Try.underlying22 (tmS rfl rfl)) ?_
   refine rg_take 2 rfl rfl (by kernel_rfl) (by kernel_rfl) (by kernel_rfl) (want_0) (fun w hok => x_move (tmP rfl rfl)) ?_
   refine rg_take 3 rfl rfl (by kernel_rfl) (by kernel_rfl) (by kernel_rfl) (want_0) (fun w hok => x_nil (A := none) (tmP rfl rfl)) ?_
   refine rg_take 4 rfl rfl (by kernel_rfl) (by kernel_rfl) (by kernel_rfl) (want_0) (fun w hok => x_fa 2 Try.underlying54 rfl rfl ts_3 (tmP rfl rfl)) ?_
   first
    | refine rg_take 5 rfl rfl (by kernel_rfl) (by kernel_rfl) (by kernel_rfl) (want_0) (fun w hok => x_load Try.underlying3 rfl (tmP rfl rfl) (cellB hok 1 rfl rfl)) ?_
    | refine rg_take 5 rfl rfl (by kernel_rfl) (by kernel_rfl) (by kernel_rfl) (want_0) (fun w hok => x_load Try.underlying3 rfl (tmP rfl rfl) (cellR hok 0 rfl rfl)) ?_
    | refine rg_take 5 rfl rfl (by kernel_rfl) (by kernel_rfl) (by kernel_rfl) (want_0) (fun w hok => x_load Try.underlying3 rfl (tmP rfl rfl) (cellR hok 0 rfl (getm (by omega)))) ?_
    | refine rg_take 5 rfl rfl (by kernel_rfl) (by kernel_rfl) (by kernel_rfl) (want_0) (fun w hok => x_load Try.underlying3 rfl (tmP rfl rfl) (cellRs hok 0 rfl (fun _ => rfl) rfl (by omega) rfl)) ?_
    | refine rg_take 5 rfl rfl (by kernel_rfl) (by kernel_rfl) (by kernel_rfl) (want_0) (fun w hok => x_load Try.underlying3 rfl (tmP rfl rfl) (cellV hok 2 rfl rfl)) ?_
    | refine rg_take 5 rfl rfl (by kernel_rfl) (by kernel_rfl) (by kernel_rfl) (want_0) (fun w hok => x_load Try.underlying3 rfl (tmP rfl rfl) (cellV hok 2 rfl (getm (by omega)))) ?_
    | refine rg_take 5 rfl rfl (by kernel_rfl) (by kernel_rfl) (by kernel_rfl) (want_0) (fun w hok => x_load Try.underlying3 rfl (tmP rfl rfl) (cellVs hok 2 rfl (fun _ => rfl) rfl (by omega) rfl)) ?_
   refine rg_take 6 rfl rfl (by kernel_rfl) (by kernel_rfl) (by kernel_rfl) (want_0) (fun w hok => x_move (tmP rfl rfl)) ?_
   refine rg_take 7 rfl rfl (by kernel_rfl) (by kernel_rfl) (by kernel_rfl) (want_0) (fun w hok => x_nil (A := none) (tmP rfl rfl)) ?_
   refine rg_take 8 rfl rfl (by kernel_rfl) (by kernel_rfl) (by kernel_rfl) (want_0) (fun w hok => x_fa 0 Try.underlying54 rfl rfl ts_22 (tmP rfl rfl)) ?_
   first
    | refine rg_take 9 rfl rfl (by kernel_rfl) (by kernel_rfl) (by kernel_rfl) (want_0) (fun w hok => x_load Try.underlying22 rfl (tmP rfl rfl) (cellB hok 1 rfl rfl)) ?_
    | refine rg_take 9 rfl rfl (by kernel_rfl) (by kernel_rfl) (by kernel_rfl) (want_0) (fun w hok => x_load Try.underlying22 rfl (tmP rfl rfl) (cellR hok 0 rfl rfl)) ?_
    | refine rg_take 9 rfl rfl (by kernel_rfl) (by kernel_rfl) (by kernel_rfl) (want_0) (fun w hok => x_load Try.underlying22 rfl (tmP rfl rfl) (cellR hok 0 rfl (getm (by omega)))) ?_
    | refine rg_take 9 rfl rfl (by kernel_rfl) (by kernel_rfl) (by kernel_rfl) (want_0) (fun w hok => x_load Try.underlying22 rfl (tmP rfl rfl) (cellRs hok 0 rfl (fun _ => rfl) rfl (by omega) rfl)) ?_
    | refine rg_take 9 rfl rfl (by kernel_rfl) (by kernel_rfl) (by kernel_rfl) (want_0) (fun w hok => x_load Try.underlying22 rfl (tmP rfl rfl) (cellV hok 2 rfl rfl)) ?_
    | refine rg_take 9 rfl rfl (by kernel_rfl) (by kernel_rfl) (by kernel_rfl) (want_0) (fun w hok => x_load Try.underlying22 rfl (tmP rfl rfl) (cellV hok 2 rfl (getm (by omega)))) ?_
    | refine rg_take 9 rfl rfl (by kernel_rfl) (by kernel_rfl) (by kernel_rfl) (want_0) (fun w hok => x_load Try.underlying22 rfl (tmP rfl rfl) (cellVs hok 2 rfl (fun _ => rfl) rfl (by omega) rfl)) ?_
   refine rg_take 10 rfl rfl (by kernel_rfl) (by kernel_rfl) (by kernel_rfl) (want_0) (fun w hok => x_len Try.underlying22 (tmS rfl rfl)) ?_
   first
    | refine rg_take 11 rfl rfl (by kernel_rfl) (by kernel_rfl) (by kernel_rfl) (want_0) (fun w hok => x_subN (tmI rfl rfl) (tmI rfl rfl) (fit_i64 (by omega)) (by omega)) ?_
    | refine rg_take 11 rfl rfl (by kernel_rfl) (by kernel_rfl) (by kernel_rfl) (want_0) (fun w hok => x_subI (tmI rfl rfl) (tmI rfl rfl) (IntWalk.i64_in _ (by omega))) ?_
    | refine rg_take 11 rfl rfl (by kernel_rfl) (by kernel_rfl) (by kernel_rfl) (want_0) (fun w hok => x_sub (tmI rfl rfl) (tmI rfl rfl)) ?_
   refine rg_take 12 rfl rfl (by kernel_rfl) (by kernel_rfl) (by kernel_rfl) (want_0) (fun w hok => x_gtr (tmI rfl rfl) (tmI rfl rfl)) ?_
   refine rg_done (oks_drop hS 0 rfl) (by kernel_rfl) ?_
   refine then_n (hK5 _ _ ?_); clear hK5 K5
   refine cnd (tm rfl) (fun hc1 => ?_) (fun hc1 => ?_)
   · try (exfalso; first | with_reducible exact absurd hc1 Bool.false_ne_true | with_reducible exact absurd hc1.symm Bool.false_ne_true | (simp only [nrm] at hc1; omega) | (simp at hc1; done))
     all_goals
      try simp only [nrm] at hc1
      refine wp_seq_k ?_; intro K6 hK6
      refine wlit ?_
      refine wl_v (x_assign (ev_cN 23)) ?_
      refine wl_nil ?_
      refine then_n (hK6 _ _ ?_); clear hK6 K6
      refine wp_ret ?_
      refine then_r ?_
      refine ret1 rfl (.tmp rfl (show _ = Value.int _ _ from rfl)) ?_
      rw [← List.map_append] at hS
      exact ⟨_, _, rfl, hS.pick [0, 1, 2] rfl rfl⟩
   try (exfalso; first | with_reducible exact absurd hc1 Bool.false_ne_true | with_reducible exact absurd hc1.symm Bool.false_ne_true | (simp only [nrm] at hc1; omega) | (simp at hc1; done))
   all_goals
    try simp only [nrm] at hc1
    refine wp_skip ?_
    refine then_n (hK4 _ _ ?_); clear hK4 K4
    refine wp_seq_k ?_; intro K7 hK7
    refine wlit ?_
    refine wl_v (x_move (tmP rfl rfl)) ?_
    refine wl_v (x_move (tmP rfl rfl)) ?_
    refine wl_v (x_nil (A := none) (tmP rfl rfl)) ?_
    refine wl_v (x_fa 0 Try.underlying54 rfl rfl ts_22 (tmP rfl rfl)) ?_
    first
     | refine wl_v (x_load Try.underlying22 rfl (tmP rfl rfl) (cellB hS.ok 1 rfl rfl)) ?_
     | refine wl_v (x_load Try.underlying22 rfl (tmP rfl rfl) (cellR hS.ok 0 rfl rfl)) ?_
     | refine wl_v (x_load Try.underlying22 rfl (tmP rfl rfl) (cellR hS.ok 0 rfl (getm (by omega)))) ?_
     | refine wl_v (x_load Try.underlying22 rfl (tmP rfl rfl) (cellRs hS.ok 0 rfl (fun _ => rfl) rfl (by omega) rfl)) ?_
     | refine wl_v (x_load Try.underlying22 rfl (tmP rfl rfl) (cellV hS.ok 2 rfl rfl)) ?_
     | refine wl_v (x_load Try.underlying22 rfl (tmP rfl rfl) (cellV hS.ok 2 rfl (getm (by omega)))) ?_
     | refine wl_v (x_load Try.underlying22 rfl (tmP rfl rfl) (cellVs hS.ok 2 rfl (fun _ => rfl) rfl (by omega) rfl)) ?_
    refine wl_v (x_move (tmS rfl rfl)) ?_
    refine wl_e rfl ?_; intro K hK
    first
     | (refine ow_append hS 0 1 rfl rfl Try.underlying22 tz_5 rfl (tmS rfl rfl) (tmS rfl rfl) rfl ⟨by decide, by decide, rfl⟩ (by simp only [maxLen]; omega) (by omega) ?_; clear hS; intro g5_6 cg5_6 w hS)
     | (refine ow_append hS 0 2 rfl rfl Try.underlying22 tz_5 rfl (tmS rfl rfl) (tmS rfl rfl) rfl ⟨by decide, by decide, rfl⟩ (by simp only [maxLen]; omega) (by omega) ?_; clear hS; intro g5_6 cg5_6 w hS)
     | (refine ow_appendV hS 0 rfl (viewR hS.ok 0 rfl) Try.underlying22 tz_5 rfl (tmS rfl rfl) (tmS rfl rfl) (by first | exact u8v_one _ | (intro u hu; simp at hu; first | (rcases hu with rfl | rfl <;> rfl) | (obtain ⟨_, _, rfl⟩ := hu; rfl))) ⟨by decide, by first | rfl | (simp; done) | (simp; omega)⟩ (by simp only [maxLen]; omega) (by omega) ?_; clear hS; intro g5_6 cg5_6 w hAg5_6 hCg5_6 hS)
     | (refine ow_appendV hS 0 rfl (viewB hS.ok 1 rfl) Try.underlying22 tz_5 rfl (tmS rfl rfl) (tmS rfl rfl) (by first | exact u8v_one _ | (intro u hu; simp at hu; first | (rcases hu with rfl | rfl <;> rfl) | (obtain ⟨_, _, rfl⟩ := hu; rfl))) ⟨by decide, by first | rfl | (simp; done) | (simp; omega)⟩ (by simp only [maxLen]; omega) (by omega) ?_; clear hS; intro g5_6 cg5_6 w hAg5_6 hCg5_6 hS)
     | (refine ow_appendV hS 0 rfl (viewV hS.ok 2 rfl) Try.underlying22 tz_5 rfl (tmS rfl rfl) (tmS rfl rfl) (by first | exact u8v_one _ | (intro u hu; simp at hu; first | (rcases hu with rfl | rfl <;> rfl) | (obtain ⟨_, _, rfl⟩ := hu; rfl))) ⟨by decide, by first | rfl | (simp; done) | (simp; omega)⟩ (by simp only [maxLen]; omega) (by omega) ?_; clear hS; intro g5_6 cg5_6 w hAg5_6 hCg5_6 hS)
     | (refine ow_appendV hS 0 rfl View.nil_ Try.underlying22 tz_5 rfl (tmS rfl rfl) (tmS rfl rfl) (by first | exact u8v_one _ | (intro u hu; simp at hu; first | (rcases hu with rfl | rfl <;> rfl) | (obtain ⟨_, _, rfl⟩ := hu; rfl))) ⟨by decide, by first | rfl | (simp; done) | (simp; omega)⟩ (by simp only [maxLen]; omega) (by omega) ?_; clear hS; intro g5_6 cg5_6 w hAg5_6 hCg5_6 hS)
    refine hK _ _ ?_; clear hK K
    refine wl_v (x_nil (A := none) (tmP rfl rfl)) ?_
    refine wl_v (x_fa 0 Try.underlying54 rfl rfl ts_22 (tmP rfl rfl)) ?_
    refine wl_e rfl ?_; intro K hK
    first
     | refine ow_store hS 0 rfl ts_22 (tmP rfl rfl) (tmS rfl rfl) rfl rfl ?_
     | refine ow_storeX hS 0 rfl ts_22 (tmP rfl rfl) (tmS rfl rfl) rfl (by simp; omega) ?_
     | refine ow_storeRs hS 0 rfl ts_22 (tmP rfl rfl) (tmS rfl rfl) rfl (by first | omega | (simp; omega)) ?_
     | refine ow_storeR hS 0 rfl ts_22 (tmP rfl rfl) (tmS rfl rfl) rfl (by first | omega | (simp; omega)) ?_
     | refine ow_store hS 1 rfl ts_22 (tmP rfl rfl) (tmS rfl rfl) rfl rfl ?_
     | refine ow_storeX hS 1 rfl ts_22 (tmP rfl rfl) (tmS rfl rfl) rfl (by simp; omega) ?_
     | refine ow_storeRs hS 1 rfl ts_22 (tmP rfl rfl) (tmS rfl rfl) rfl (by first | omega | (simp; omega)) ?_
     | refine ow_storeR hS 1 rfl ts_22 (tmP rfl rfl) (tmS rfl rfl) rfl (by first | omega | (simp; omega)) ?_
    clear hS; intro w hS
    refine hK _ _ ?_; clear hK K
    refine wl_nil ?_
    refine then_n (hK7 _ _ ?_); clear hK7 K7
    refine wp_seq_k ?_; intro K8 hK8
    refine wlit ?_
    refine wl_v (x_assign (ev_cN 0)) ?_
    refine wl_nil ?_
    refine then_n (hK8 _ _ ?_); clear hK8 K8
    refine wp_ret ?_
    refine ret1 rfl (.tmp rfl (show _ = Value.int _ _ from rfl)) ?_
    rw [← List.map_append] at hS
    exact ⟨_, _, rfl, hS.pick [0, 1, 2] rfl rfl⟩

set_option maxRecDepth 100000 in
set_option maxHeartbeats 4000000 in
theorem dsync_c (g : Nat) (A : Option Addr) (m c safe most syncs : Nat) (F : List Nat) (w0 : World)
    (hS : St F w0 [.blk g 54 (dkV A m c safe most syncs)] w0) (hm4 : syncs ≤ 1000000) :
    Calls Try.prog 30 #[.pointer (some ⟨g, 0, none⟩)] w0 fun e w' => e = .returned (.int .i64 0) ∧ St F w0 [.blk g 54 (dkV A m c m most (syncs + 1))] w' := by
  refine ent (n := 20) Try.func30 rfl rfl ?_
  refine wp_seq_k ?_; intro K1 hK1
  refine wlit ?_
  refine wl_v (x_assign (ev_cN 0)) ?_
  refine wl_nil ?_
  refine then_n (hK1 _ _ ?_); clear hK1 K1
  refine wp_seq_k ?_; intro K2 hK2
  refine wp_seq_k ?_; intro K3 hK3
  refine wlit ?_
  refine wl_v (x_move (tmP rfl rfl)) ?_
  first
   | refine wl_v (x_peql Try.underlying31 (tmP rfl rfl) ev_c) ?_
   | refine wl_v (x_peqln Try.underlying31 (tmP rfl rfl) ev_c) ?_
  refine wl_nil ?_
  refine then_n (hK3 _ _ ?_); clear hK3 K3
  refine cnd (tm rfl) (fun hc0 => ?_) (fun hc0 => ?_)
  · exfalso
    simp at hc0
  try (exfalso; first | with_reducible exact absurd hc0 Bool.false_ne_true | with_reducible exact absurd hc0.symm Bool.false_ne_true | (simp only [nrm] at hc0; omega) | (simp at hc0; done))
  all_goals
   try simp only [nrm] at hc0
   refine wp_skip ?_
   refine then_n (hK2 _ _ ?_); clear hK2 K2
   refine wp_seq_k ?_; intro K4 hK4
   refine wlit ?_
   refine wl_v (x_move (tmP rfl rfl)) ?_
   refine wl_v (x_move (tmP rfl rfl)) ?_
   refine wl_v (x_nil (A := none) (tmP rfl rfl)) ?_
   refine wl_v (x_fa 0 Try.underlying54 rfl rfl ts_22 (tmP rfl rfl)) ?_
   refine wl_v (x_load Try.underlying22 rfl (tmP rfl rfl) (cellB hS.ok 0 rfl rfl)) ?_
   refine wl_v (x_len Try.underlying22 (tmS rfl rfl)) ?_
   refine wl_v (x_nil (A := none) (tmP rfl rfl)) ?_
   refine wl_v (x_fa 1 Try.underlying54 rfl rfl ts_3 (tmP rfl rfl)) ?_
   refine wl_e rfl ?_; intro K hK
   first
    | refine ow_store hS 0 rfl ts_3 (tmP rfl rfl) (tmI rfl rfl) rfl rfl ?_
    | refine ow_storeX hS 0 rfl ts_3 (tmP rfl rfl) (tmI rfl rfl) rfl (by simp; omega) ?_
    | refine ow_storeRs hS 0 rfl ts_3 (tmP rfl rfl) (tmI rfl rfl) rfl (by first | omega | (simp; omega)) ?_
    | refine ow_storeR hS 0 rfl ts_3 (tmP rfl rfl) (tmI rfl rfl) rfl (by first | omega | (simp; omega)) ?_
   clear hS; intro w hS
   refine hK _ _ ?_; clear hK K
   refine wl_nil ?_
   refine then_n (hK4 _ _ ?_); clear hK4 K4
   refine wp_seq_k ?_; intro K5 hK5
   refine wlit ?_
   refine wl_v (x_move (tmP rfl rfl)) ?_
   refine wl_v (x_nil (A := none) (tmP rfl rfl)) ?_
   refine wl_v (x_fa 3 Try.underlying54 rfl rfl ts_3 (tmP rfl rfl)) ?_
   refine wl_v (x_load Try.underlying3 rfl (tmP rfl rfl) (cellB hS.ok 0 rfl rfl)) ?_
   first
    | refine wl_v (x_addN (tmI rfl rfl) (ev_cN 1) (fit_i64 (by omega))) ?_
    | refine wl_v (x_addI (tmI rfl rfl) (ev_cN 1) (IntWalk.i64_in _ (by omega))) ?_
    | refine wl_v (x_add (tmI rfl rfl) (ev_cN 1)) ?_
   refine wl_v (x_nil (A := none) (tmP rfl rfl)) ?_
   refine wl_v (x_fa 3 Try.underlying54 rfl rfl ts_3 (tmP rfl rfl)) ?_
   refine wl_e rfl ?_; intro K hK
   first
    | refine ow_store hS 0 rfl ts_3 (tmP rfl rfl) (tmI rfl rfl) rfl rfl ?_
    | refine ow_storeX hS 0 rfl ts_3 (tmP rfl rfl) (tmI rfl rfl) rfl (by simp; omega) ?_
    | refine ow_storeRs hS 0 rfl ts_3 (tmP rfl rfl) (tmI rfl rfl) rfl (by first | omega | (simp; omega)) ?_
    | refine ow_storeR hS 0 rfl ts_3 (tmP rfl rfl) (tmI rfl rfl) rfl (by first | omega | (simp; omega)) ?_
   clear hS; intro w hS
   refine hK _ _ ?_; clear hK K
   refine wl_nil ?_
   refine then_n (hK5 _ _ ?_); clear hK5 K5
   refine wp_seq_k ?_; intro K6 hK6
   refine wlit ?_
   refine wl_v (x_assign (ev_cN 0)) ?_
   refine wl_nil ?_
   refine then_n (hK6 _ _ ?_); clear hK6 K6
   refine wp_ret ?_
   refine ret1 rfl (.tmp rfl (show _ = Value.int _ _ from rfl)) ?_
   exact ⟨rfl, hS⟩

set_option maxRecDepth 100000 in
set_option maxHeartbeats 4000000 in
theorem dlen_c (g : Nat) (A : Option Addr) (m c safe most syncs : Nat) (w0 : World) (hv : View w0 w0.heap.size (some ⟨g, 0, none⟩) (dkV A m c safe most syncs)) :
    Calls Try.prog 31 #[.pointer (some ⟨g, 0, none⟩)] w0 fun e w' => e = .returned (.int .i64 (m : Int)) ∧ Kp [] w0 w' := by
  have hS := (St.sv w0).vcons rfl hv
  refine ent (n := 10) Try.func31 rfl rfl ?_
  refine wp_seq_k ?_; intro K1 hK1
  refine wlit ?_
  refine wl_v (x_assign (ev_cN 0)) ?_
  refine wl_nil ?_
  refine then_n (hK1 _ _ ?_); clear hK1 K1
  refine wp_seq_k ?_; intro K2 hK2
  refine wp_seq_k ?_; intro K3 hK3
  refine wlit ?_
  refine wl_v (x_move (tmP rfl rfl)) ?_
  first
   | refine wl_v (x_peql Try.underlying31 (tmP rfl rfl) ev_c) ?_
   | refine wl_v (x_peqln Try.underlying31 (tmP rfl rfl) ev_c) ?_
  refine wl_nil ?_
  refine then_n (hK3 _ _ ?_); clear hK3 K3
  refine cnd (tm rfl) (fun hc0 => ?_) (fun hc0 => ?_)
  · exfalso
    simp at hc0
  try (exfalso; first | with_reducible exact absurd hc0 Bool.false_ne_true | with_reducible exact absurd hc0.symm Bool.false_ne_true | (simp only [nrm] at hc0; omega) | (simp at hc0; done))
  all_goals
   try simp only [nrm] at hc0
   refine wp_skip ?_
   refine then_n (hK2 _ _ ?_); clear hK2 K2
   refine wp_seq_k ?_; intro K4 hK4
   refine wlit ?_
   refine wl_v (x_move (tmP rfl rfl)) ?_
   refine wl_v (x_nil (A := none) (tmP rfl rfl)) ?_
   refine wl_v (x_fa 0 Try.underlying54 rfl rfl ts_22 (tmP rfl rfl)) ?_
   first
    | refine wl_v (x_load Try.underlying22 rfl (tmP rfl rfl) (cellV hS.ok 0 rfl rfl)) ?_
    | refine wl_v (x_load Try.underlying22 rfl (tmP rfl rfl) (cellV hS.ok 0 rfl (getm (by omega)))) ?_
    | refine wl_v (x_load Try.underlying22 rfl (tmP rfl rfl) (cellVs hS.ok 0 rfl (fun _ => rfl) rfl (by omega) rfl)) ?_
   refine wl_v (x_len Try.underlying22 (tmS rfl rfl)) ?_
   refine wl_v (x_assign (tmI rfl rfl)) ?_
   refine wl_nil ?_
   refine then_n (hK4 _ _ ?_); clear hK4 K4
   refine wp_ret ?_
   refine ret1 rfl (.tmp rfl (show _ = Value.int _ _ from rfl)) ?_
   exact ⟨rfl, hS.kp⟩

set_option maxRecDepth 100000 in
set_option maxHeartbeats 4000000 in
theorem dsafe_c (g : Nat) (A : Option Addr) (m c safe most syncs : Nat) (w0 : World) (hv : View w0 w0.heap.size (some ⟨g, 0, none⟩) (dkV A m c safe most syncs)) :
    Calls Try.prog 32 #[.pointer (some ⟨g, 0, none⟩)] w0 fun e w' => e = .returned (.int .i64 (safe : Int)) ∧ Kp [] w0 w' := by
  have hS := (St.sv w0).vcons rfl hv
  refine ent (n := 9) Try.func32 rfl rfl ?_
  refine wp_seq_k ?_; intro K1 hK1
  refine wlit ?_
  refine wl_v (x_assign (ev_cN 0)) ?_
  refine wl_nil ?_
  refine then_n (hK1 _ _ ?_); clear hK1 K1
  refine wp_seq_k ?_; intro K2 hK2
  refine wp_seq_k ?_; intro K3 hK3
  refine wlit ?_
  refine wl_v (x_move (tmP rfl rfl)) ?_
  first
   | refine wl_v (x_peql Try.underlying31 (tmP rfl rfl) ev_c) ?_
   | refine wl_v (x_peqln Try.underlying31 (tmP rfl rfl) ev_c) ?_
  refine wl_nil ?_
  refine then_n (hK3 _ _ ?_); clear hK3 K3
  refine cnd (tm rfl) (fun hc0 => ?_) (fun hc0 => ?_)
  · exfalso
    simp at hc0
  try (exfalso; first | with_reducible exact absurd hc0 Bool.false_ne_true | with_reducible exact absurd hc0.symm Bool.false_ne_true | (simp only [nrm] at hc0; omega) | (simp at hc0; done))
  all_goals
   try simp only [nrm] at hc0
   refine wp_skip ?_
   refine then_n (hK2 _ _ ?_); clear hK2 K2
   refine wp_seq_k ?_; intro K4 hK4
   refine wlit ?_
   refine wl_v (x_move (tmP rfl rfl)) ?_
   refine wl_v (x_nil (A := none) (tmP rfl rfl)) ?_
   refine wl_v (x_fa 1 Try.underlying54 rfl rfl ts_3 (tmP rfl rfl)) ?_
   first
    | refine wl_v (x_load Try.underlying3 rfl (tmP rfl rfl) (cellV hS.ok 0 rfl rfl)) ?_
    | refine wl_v (x_load Try.underlying3 rfl (tmP rfl rfl) (cellV hS.ok 0 rfl (getm (by omega)))) ?_
    | refine wl_v (x_load Try.underlying3 rfl (tmP rfl rfl) (cellVs hS.ok 0 rfl (fun _ => rfl) rfl (by omega) rfl)) ?_
   refine wl_v (x_assign (tmI rfl rfl)) ?_
   refine wl_nil ?_
   refine then_n (hK4 _ _ ?_); clear hK4 K4
   refine wp_ret ?_
   refine ret1 rfl (.tmp rfl (show _ = Value.int _ _ from rfl)) ?_
   exact ⟨rfl, hS.kp⟩

set_option maxRecDepth 100000 in
set_option maxHeartbeats 4000000 in
theorem dread_c (g : Nat) (A : Option Addr) (m c safe most syncs : Nat) (l : List Nat) (w0 : World) (hv : View w0 w0.heap.size (some ⟨g, 0, none⟩) (dkV A m c safe most syncs)) (hv2 : View w0 w0.heap.size A (l.map u8v)) (hl : l.length = m) (hm : m ≤ 1000000) :
    Calls Try.prog 27 #[.pointer (some ⟨g, 0, none⟩)] w0 fun e w' => ∃ A' c', e = .returned (.slice A' m c') ∧ New w0 w' (.row (.slice A' m c') 5 1 m (l.map u8v)) ∧ Kp [] w0 w' := by
  have hS := ((St.sv w0).vcons rfl hv2).vcons rfl hv
  refine ent (n := 10) Try.func27 rfl rfl ?_
  refine wp_seq_k ?_; intro K1 hK1
  refine wlit ?_
  refine wl_v (x_assign ev_c) ?_
  refine wl_nil ?_
  refine then_n (hK1 _ _ ?_); clear hK1 K1
  refine wp_seq_k ?_; intro K2 hK2
  refine wp_seq_k ?_; intro K3 hK3
  refine wlit ?_
  refine wl_v (x_move (tmP rfl rfl)) ?_
  first
   | refine wl_v (x_peql Try.underlying31 (tmP rfl rfl) ev_c) ?_
   | refine wl_v (x_peqln Try.underlying31 (tmP rfl rfl) ev_c) ?_
  refine wl_nil ?_
  refine then_n (hK3 _ _ ?_); clear hK3 K3
  refine cnd (tm rfl) (fun hc0 => ?_) (fun hc0 => ?_)
  · exfalso
    simp at hc0
  try (exfalso; first | with_reducible exact absurd hc0 Bool.false_ne_true | with_reducible exact absurd hc0.symm Bool.false_ne_true | (simp only [nrm] at hc0; omega) | (simp at hc0; done))
  all_goals
   try simp only [nrm] at hc0
   refine wp_skip ?_
   refine then_n (hK2 _ _ ?_); clear hK2 K2
   refine wp_seq_k ?_; intro K4 hK4
   refine wlit ?_
   refine wl_v (x_move (tmP rfl rfl)) ?_
   refine wl_v (x_nil (A := none) (tmP rfl rfl)) ?_
   refine wl_v (x_fa 0 Try.underlying54 rfl rfl ts_22 (tmP rfl rfl)) ?_
   first
    | refine wl_v (x_load Try.underlying22 rfl (tmP rfl rfl) (cellV hS.ok 0 rfl rfl)) ?_
    | refine wl_v (x_load Try.underlying22 rfl (tmP rfl rfl) (cellV hS.ok 0 rfl (getm (by omega)))) ?_
    | refine wl_v (x_load Try.underlying22 rfl (tmP rfl rfl) (cellVs hS.ok 0 rfl (fun _ => rfl) rfl (by omega) rfl)) ?_
    | refine wl_v (x_load Try.underlying22 rfl (tmP rfl rfl) (cellV hS.ok 1 rfl rfl)) ?_
    | refine wl_v (x_load Try.underlying22 rfl (tmP rfl rfl) (cellV hS.ok 1 rfl (getm (by omega)))) ?_
    | refine wl_v (x_load Try.underlying22 rfl (tmP rfl rfl) (cellVs hS.ok 1 rfl (fun _ => rfl) rfl (by omega) rfl)) ?_
   refine wl_e rfl ?_; intro K hK
   refine ow_call Try.func18 rfl rfl (evs_cons (tmS rfl rfl) <| evs_nil) (clone_c m A c l _ (viewV hS.ok 1 rfl) hl hm) ?_
   rintro e w ⟨A', c', rfl, hn, hk⟩
   refine ⟨_, rfl, ?_⟩
   replace hS := hS.add hk hn -- +1
   refine hK _ _ ?_; clear hK K
   refine wl_v (x_assign (tmS rfl rfl)) ?_
   refine wl_nil ?_
   refine then_n (hK4 _ _ ?_); clear hK4 K4
   refine wp_ret ?_
   refine ret1 rfl (.tmp rfl (show _ = Value.slice _ _ _ from rfl)) ?_
   exact ⟨_, _, rfl, hS.new 0 rfl rfl, hS.kp⟩

set_option maxRecDepth 100000 in
set_option maxHeartbeats 4000000 in
theorem dkeep_c (g : Nat) (A : Option Addr) (m c safe most syncs k : Nat) (l : List Nat) (F : List Nat) (w0 : World)
    (hS : St F w0 [.row (.slice A m c) 5 1 m (l.map u8v), .blk g 54 (dkV A m c safe most syncs)] w0) (hk : k ≤ m) :
    Calls Try.prog 33 #[.pointer (some ⟨g, 0, none⟩), .int .i64 (k : Int)] w0 fun e w' => e = .returned (.tuple #[]) ∧ St F w0 [.row (.slice A k c) 5 1 k ((l.take k).map u8v), .blk g 54 (dkV A k c k most syncs)] w' := by
  have hcap := row_cap (hS.rowOk 0 rfl) (by omega)
  refine ent (n := 17) Try.func33 rfl rfl ?_
  refine wp_seq_k ?_; intro K1 hK1
  refine wlit ?_
  refine wl_v (x_move (tmP rfl rfl)) ?_
  refine wl_v (x_move (tmP rfl rfl)) ?_
  refine wl_v (x_nil (A := none) (tmP rfl rfl)) ?_
  refine wl_v (x_fa 0 Try.underlying54 rfl rfl ts_22 (tmP rfl rfl)) ?_
  first
   | refine wl_v (x_load Try.underlying22 rfl (tmP rfl rfl) (cellB hS.ok 1 rfl rfl)) ?_
   | refine wl_v (x_load Try.underlying22 rfl (tmP rfl rfl) (cellR hS.ok 0 rfl rfl)) ?_
   | refine wl_v (x_load Try.underlying22 rfl (tmP rfl rfl) (cellR hS.ok 0 rfl (getm (by omega)))) ?_
   | refine wl_v (x_load Try.underlying22 rfl (tmP rfl rfl) (cellRs hS.ok 0 rfl (fun _ => rfl) rfl (by omega) rfl)) ?_
  refine wl_v (x_move (tmI rfl rfl)) ?_
  refine wl_v (x_sliceH Try.underlying22 ts_5 (tmS rfl rfl) (tmI rfl rfl) (by omega)) ?_
  refine wl_v (x_nil (A := none) (tmP rfl rfl)) ?_
  refine wl_v (x_fa 0 Try.underlying54 rfl rfl ts_22 (tmP rfl rfl)) ?_
  refine wl_e rfl ?_; intro K hK
  first
   | refine ow_store hS 0 rfl ts_22 (tmP rfl rfl) (tmS rfl rfl) rfl rfl ?_
   | refine ow_storeX hS 0 rfl ts_22 (tmP rfl rfl) (tmS rfl rfl) rfl (by simp; omega) ?_
   | refine ow_storeRs hS 0 rfl ts_22 (tmP rfl rfl) (tmS rfl rfl) rfl (by first | omega | (simp; omega)) ?_
   | refine ow_storeR hS 0 rfl ts_22 (tmP rfl rfl) (tmS rfl rfl) rfl (by first | omega | (simp; omega)) ?_
   | refine ow_store hS 1 rfl ts_22 (tmP rfl rfl) (tmS rfl rfl) rfl rfl ?_
   | refine ow_storeX hS 1 rfl ts_22 (tmP rfl rfl) (tmS rfl rfl) rfl (by simp; omega) ?_
   | refine ow_storeRs hS 1 rfl ts_22 (tmP rfl rfl) (tmS rfl rfl) rfl (by first | omega | (simp; omega)) ?_
   | refine ow_storeR hS 1 rfl ts_22 (tmP rfl rfl) (tmS rfl rfl) rfl (by first | omega | (simp; omega)) ?_
  clear hS; intro w hS
  refine hK _ _ ?_; clear hK K
  refine wl_nil ?_
  refine then_n (hK1 _ _ ?_); clear hK1 K1
  refine wlit ?_
  refine wl_v (x_move (tmP rfl rfl)) ?_
  refine wl_v (x_move (tmI rfl rfl)) ?_
  refine wl_v (x_nil (A := none) (tmP rfl rfl)) ?_
  refine wl_v (x_fa 1 Try.underlying54 rfl rfl ts_3 (tmP rfl rfl)) ?_
  refine wl_e rfl ?_; intro K hK
  first
   | refine ow_store hS 0 rfl ts_3 (tmP rfl rfl) (tmI rfl rfl) rfl rfl ?_
   | refine ow_storeX hS 0 rfl ts_3 (tmP rfl rfl) (tmI rfl rfl) rfl (by simp; omega) ?_
   | refine ow_storeRs hS 0 rfl ts_3 (tmP rfl rfl) (tmI rfl rfl) rfl (by first | omega | (simp; omega)) ?_
   | refine ow_storeR hS 0 rfl ts_3 (tmP rfl rfl) (tmI rfl rfl) rfl (by first | omega | (simp; omega)) ?_
   | refine ow_store hS 1 rfl ts_3 (tmP rfl rfl) (tmI rfl rfl) rfl rfl ?_
   | refine ow_storeX hS 1 rfl ts_3 (tmP rfl rfl) (tmI rfl rfl) rfl (by simp; omega) ?_
   | refine ow_storeRs hS 1 rfl ts_3 (tmP rfl rfl) (tmI rfl rfl) rfl (by first | omega | (simp; omega)) ?_
   | refine ow_storeR hS 1 rfl ts_3 (tmP rfl rfl) (tmI rfl rfl) rfl (by first | omega | (simp; omega)) ?_
  clear hS; intro w hS
  refine hK _ _ ?_; clear hK K
  refine wl_nil ?_
  refine end_n ?_
  refine ret0 rfl ?_
  replace hS := hS.shrink 0 k rfl hk
  rw [Nat.mul_one, ← List.map_take, cutA_zero] at hS
  exact ⟨rfl, hS⟩

set_option maxRecDepth 100000 in
set_option maxHeartbeats 4000000 in
theorem dcrash_c (g : Nat) (A : Option Addr) (m c safe most syncs q : Nat) (keep : Int) (bits : Nat) (l : List Nat) (F : List Nat) (w0 : World)
    (hS : St F w0 [.row (.slice A m c) 5 1 m (l.map u8v), .blk g 54 (dkV A m c safe most syncs)] w0) (hl : l.length = m) (hb : Bytes l) (hs : safe ≤ m) (hm4 : m ≤ 1000000) (hbt : bits ≤ 255) (hq : min (max keep ((0 : Nat) : Int)) ((m - safe : Nat) : Int) = (q : Int)) :
    Calls Try.prog 14 #[.pointer (some ⟨g, 0, none⟩), .int .i64 keep, .int .u8 (bits : Int)] w0 fun e w' => ∃ l', e = .returned (.int .i64 ((m - safe - q : Nat) : Int)) ∧ l'.length = safe + q ∧ l'.take safe = l.take safe ∧ Bytes l' ∧ St F w0 [.row (.slice A (safe + q) c) 5 1 (safe + q) (l'.map u8v), .blk g 54 (dkV A (safe + q) c (safe + q) most syncs)] w' := by
  have hq2 : q ≤ m - safe := by omega
  refine ent (n := 46) Try.func14 rfl rfl ?_
  refine wp_seq_k ?_; intro K1 hK1
  refine wlit ?_
  refine wl_v (x_assign (ev_cN 0)) ?_
  refine wl_nil ?_
  refine then_n (hK1 _ _ ?_); clear hK1 K1
  refine wp_seq_k ?_; intro K2 hK2
  refine wlit ?_
  refine wl_v (x_move (tmP rfl rfl)) ?_
  refine wl_e rfl ?_; intro K hK
  refine ow_call Try.func31 rfl rfl (evs_cons (tmP rfl rfl) <| evs_nil) (dlen_c g A m c safe most syncs _ (viewB hS.ok 1 rfl)) ?_
  rintro e w ⟨rfl, hk⟩
  refine ⟨_, rfl, ?_⟩
  replace hS := hS.kept hk
  clear hk
  refine hK _ _ ?_; clear hK K
  refine wl_v (x_move (tmP rfl rfl)) ?_
  refine wl_e rfl ?_; intro K hK
  refine ow_call Try.func32 rfl rfl (evs_cons (tmP rfl rfl) <| evs_nil) (dsafe_c g A m c safe most syncs _ (viewB hS.ok 1 rfl)) ?_
  rintro e w ⟨rfl, hk⟩
  refine ⟨_, rfl, ?_⟩
  replace hS := hS.kept hk
  clear hk
  refine hK _ _ ?_; clear hK K
  first
   | refine wl_v (x_subN (tmI rfl rfl) (tmI rfl rfl) (fit_i64 (by omega)) (by omega)) ?_
   | refine wl_v (x_subI (tmI rfl rfl) (tmI rfl rfl) (IntWalk.i64_in _ (by omega))) ?_
   | refine wl_v (x_sub (tmI rfl rfl) (tmI rfl rfl)) ?_
  refine wl_v (x_assign (tmI rfl rfl)) ?_
  refine wl_nil ?_
  refine then_n (hK2 _ _ ?_); clear hK2 K2
  refine wp_seq_k ?_; intro K3 hK3
  refine wlit ?_
  refine wl_v (x_move (tmI rfl rfl)) ?_
  refine wl_v (x_maxI (tmI rfl rfl) (ev_cN 0)) ?_
  refine wl_v (x_move (tmI rfl rfl)) ?_
  refine wl_v (x_minI (tmI rfl rfl) (tmI rfl rfl)) ?_
  refine wl_v (x_assign (tmI rfl (congrArg (Value.int .i64) hq))) ?_
  refine wl_nil ?_
  refine then_n (hK3 _ _ ?_); clear hK3 K3
  refine wp_seq_k ?_; intro K4 hK4
  refine wp_seq_k ?_; intro K5 hK5
  refine wlit ?_
  refine wl_v (x_move (tmI rfl rfl)) ?_
  refine wl_v (x_eql (tmI rfl rfl) (ev_cN 0)) ?_
  refine wl_nil ?_
  refine then_n (hK5 _ _ ?_); clear hK5 K5
  refine cnd (tm rfl) (fun hc0 => ?_) (fun hc0 => ?_)
  · try (exfalso; first | with_reducible exact absurd hc0 Bool.false_ne_true | with_reducible exact absurd hc0.symm Bool.false_ne_true | (simp only [nrm] at hc0; omega) | (simp at hc0; done))
    all_goals
     try simp only [nrm] at hc0
     obtain rfl : m = safe := by omega
     obtain rfl : q = 0 := by omega
     refine wp_seq_k ?_; intro K6 hK6
     refine wlit ?_
     refine wl_v (x_assign (ev_cN 0)) ?_
     refine wl_nil ?_
     refine then_n (hK6 _ _ ?_); clear hK6 K6
     refine wp_ret ?_
     refine then_r ?_
     refine ret1 rfl (.tmp rfl (show _ = Value.int _ _ from rfl)) ?_
     first
       | exact ⟨l, by simp, hl, rfl, hb, hS⟩
       | exact ⟨l.take (safe + q), rfl, by rw [List.length_take]; omega, by rw [List.take_take]; congr 1; omega, hb.take _, hS⟩
       | exact ⟨(l.take (safe + q)).set (safe + q - 1) ((l.take (safe + q)).getD (safe + q - 1) 0 ^^^ bits), rfl, by rw [List.length_set]; exact hlt, by rw [List.take_set_of_le (by omega), List.take_take]; congr 1; omega, (hb.take _).set_ _ _ (by first | exact Nat.xor_lt_two_pow (n := 8) hcell (by omega)), hS⟩
  try (exfalso; first | with_reducible exact absurd hc0 Bool.false_ne_true | with_reducible exact absurd hc0.symm Bool.false_ne_true | (simp only [nrm] at hc0; omega) | (simp at hc0; done))
  all_goals
   try simp only [nrm] at hc0
   refine wp_skip ?_
   refine then_n (hK4 _ _ ?_); clear hK4 K4
   refine wp_seq_k ?_; intro K7 hK7
   refine wlit ?_
   refine wl_v (x_move (tmP rfl rfl)) ?_
   refine wl_v (x_move (tmP rfl rfl)) ?_
   refine wl_v (x_nil (A := none) (tmP rfl rfl)) ?_
   refine wl_v (x_fa 1 Try.underlying54 rfl rfl ts_3 (tmP rfl rfl)) ?_
   first
    | refine wl_v (x_load Try.underlying3 rfl (tmP rfl rfl) (cellB hS.ok 1 rfl rfl)) ?_
    | refine wl_v (x_load Try.underlying3 rfl (tmP rfl rfl) (cellR hS.ok 0 rfl rfl)) ?_
    | refine wl_v (x_load Try.underlying3 rfl (tmP rfl rfl) (cellR hS.ok 0 rfl (getm (by omega)))) ?_
    | refine wl_v (x_load Try.underlying3 rfl (tmP rfl rfl) (cellRs hS.ok 0 rfl (fun _ => rfl) rfl (by omega) rfl)) ?_
   refine wl_v (x_move (tmI rfl rfl)) ?_
   first
    | refine wl_v (x_addN (tmI rfl rfl) (tmI rfl rfl) (fit_i64 (by omega))) ?_
    | refine wl_v (x_addI (tmI rfl rfl) (tmI rfl rfl) (IntWalk.i64_in _ (by omega))) ?_
    | refine wl_v (x_add (tmI rfl rfl) (tmI rfl rfl)) ?_
   refine wl_e rfl ?_; intro K hK
   refine ow_call Try.func33 rfl rfl (evs_cons (tmP rfl rfl) <| evs_cons (tmI rfl rfl) <| evs_nil) (dkeep_c g A m c safe most syncs (safe + q) l _ _ (hS.enter [0, 1] [] rfl rfl) (by omega)) ?_
   rintro e w ⟨rfl, hS2⟩
   refine ⟨_, rfl, ?_⟩
   replace hS := hS.leave [0, 1] [] rfl rfl rfl hS2 rfl
   clear hS2
   try replace hS := St.nm (M' := [.row _ _ _ _ _, _]) hS rfl
   refine hK _ _ ?_; clear hK K
   refine wl_nil ?_
   refine then_n (hK7 _ _ ?_); clear hK7 K7
   refine wp_seq_k ?_; intro K8 hK8
   refine wp_seq_k ?_; intro K9 hK9
   refine wlit ?_
   refine wl_v (x_move (tmI rfl rfl)) ?_
   refine wl_v (x_gtr (tmI rfl rfl) (ev_cN 0)) ?_
   refine wl_nil ?_
   refine then_n (hK9 _ _ ?_); clear hK9 K9
   refine cnd (tm rfl) (fun hc1 => ?_) (fun hc1 => ?_)
   · try (exfalso; first | with_reducible exact absurd hc1 Bool.false_ne_true | with_reducible exact absurd hc1.symm Bool.false_ne_true | (simp only [nrm] at hc1; omega) | (simp at hc1; done))
     all_goals
      try simp only [nrm] at hc1
      have hlt : (l.take (safe + q)).length = safe + q := by rw [List.length_take]; omega
      have hcell : (l.take (safe + q)).getD (safe + q - 1) 0 < 256 := nth_lt (hb.take _) _
      obtain ⟨ga, rfl⟩ := row_some (hS.rowOk 0 rfl) (by omega)
      refine rg_startk 1 hS mixed_ ?_
      clear hS; intro w hS
      refine rg_take 0 rfl rfl (by kernel_rfl) (by kernel_rfl) (by kernel_rfl) (want_0) (fun w hok => x_move (tmP rfl rfl)) ?_
      refine rg_take 1 rfl rfl (by kernel_rfl) (by kernel_rfl) (by kernel_rfl) (want_0) (fun w hok => x_nil (A := none) (tmP rfl rfl)) ?_
      refine rg_take 2 rfl rfl (by kernel_rfl) (by kernel_rfl) (by kernel_rfl) (want_0) (fun w hok => x_fa 0 Try.underlying54 rfl rfl ts_22 (tmP rfl rfl)) ?_
      refine rg_take 3 rfl rfl (by kernel_rfl) (by kernel_rfl) (by kernel_rfl) (want_0) (fun w hok => x_load Try.underlying22 rfl (tmP rfl rfl) (cellB hok 0 rfl rfl)) ?_
      refine rg_take 4 rfl rfl (by kernel_rfl) (by kernel_rfl) (by kernel_rfl) (want_0) (fun w hok => x_move (tmP rfl rfl)) ?_
      refine rg_take 5 rfl rfl (by kernel_rfl) (by kernel_rfl) (by kernel_rfl) (want_0) (fun w hok => x_nil (A := none) (tmP rfl rfl)) ?_
      refine rg_take 6 rfl rfl (by kernel_rfl) (by kernel_rfl) (by kernel_rfl) (want_0) (fun w hok => x_fa 1 Try.underlying54 rfl rfl ts_3 (tmP rfl rfl)) ?_
      refine rg_take 7 rfl rfl (by kernel_rfl) (by kernel_rfl) (by kernel_rfl) (want_0) (fun w hok => x_load Try.underlying3 rfl (tmP rfl rfl) (cellB hok 0 rfl rfl)) ?_
      first
       | refine rg_take 8 rfl rfl (by kernel_rfl) (by kernel_rfl) (by kernel_rfl) (want_0) (fun w hok => x_subN (tmI rfl rfl) (ev_cN 1) (fit_i64 (by omega)) (by omega)) ?_
       | refine rg_take 8 rfl rfl (by kernel_rfl) (by kernel_rfl) (by kernel_rfl) (want_0) (fun w hok => x_subI (tmI rfl rfl) (ev_cN 1) (IntWalk.i64_in _ (by omega))) ?_
       | refine rg_take 8 rfl rfl (by kernel_rfl) (by kernel_rfl) (by kernel_rfl) (want_0) (fun w hok => x_sub (tmI rfl rfl) (ev_cN 1)) ?_
      refine rg_take 9 rfl rfl (by kernel_rfl) (by kernel_rfl) (by kernel_rfl) (want_0) (fun w hok => x_ixs1 Try.underlying22 ts_5 (tmS rfl rfl) (tmI rfl rfl) (by omega)) ?_
      refine rg_take 11 rfl rfl (by kernel_rfl) (by kernel_rfl) (by kernel_rfl) (want_0) (fun w hok => x_move (tmI rfl rfl)) ?_
      refine rg_step 10 rfl (by kernel_rfl) (want_0) (oks_drop hS 1 rfl) ?_; intro K hK
      first
       | refine ow_v (x_load Try.underlying5 rfl (tmP rfl rfl) (cellB hS.ok 1 rfl rfl)) ?_
       | refine ow_v (x_load Try.underlying5 rfl (tmP rfl rfl) (cellR hS.ok 0 rfl rfl)) ?_
       | refine ow_v (x_load Try.underlying5 rfl (tmP rfl rfl) (cellR hS.ok 0 rfl (getm (by omega)))) ?_
       | refine ow_v (x_load Try.underlying5 rfl (tmP rfl rfl) (cellRs hS.ok 0 rfl (fun _ => rfl) rfl (by omega) rfl)) ?_
      refine hK _ _ ?_; clear hK K
      refine rg_take 12 rfl rfl (by kernel_rfl) (by kernel_rfl) (by kernel_rfl) (want_0) (fun w hok => x_xorN (tmI rfl rfl) (tmI rfl rfl) (fit_u8 (by omega)) (fit_u8 (by omega))) ?_
      refine rg_take 13 rfl rfl (by kernel_rfl) (by kernel_rfl) (by kernel_rfl) (want_0) (fun w hok => x_ixs1 Try.underlying22 ts_5 (tmS rfl rfl) (tmI rfl rfl) (by omega)) ?_
      refine rg_step 14 rfl (by kernel_rfl) (want_0) (oks_drop hS 1 rfl) ?_; intro K hK
      first
       | refine ow_store hS 0 rfl ts_5 (tmP rfl rfl) (tmI rfl rfl) rfl rfl ?_
       | refine ow_storeX hS 0 rfl ts_5 (tmP rfl rfl) (tmI rfl rfl) rfl (by simp; omega) ?_
       | refine ow_storeRs hS 0 rfl ts_5 (tmP rfl rfl) (tmI rfl rfl) rfl (by first | omega | (simp; omega)) ?_
       | refine ow_storeR hS 0 rfl ts_5 (tmP rfl rfl) (tmI rfl rfl) rfl (by first | omega | (simp; omega)) ?_
       | refine ow_store hS 1 rfl ts_5 (tmP rfl rfl) (tmI rfl rfl) rfl rfl ?_
       | refine ow_storeX hS 1 rfl ts_5 (tmP rfl rfl) (tmI rfl rfl) rfl (by simp; omega) ?_
       | refine ow_storeRs hS 1 rfl ts_5 (tmP rfl rfl) (tmI rfl rfl) rfl (by first | omega | (simp; omega)) ?_
       | refine ow_storeR hS 1 rfl ts_5 (tmP rfl rfl) (tmI rfl rfl) rfl (by first | omega | (simp; omega)) ?_
      clear hS; intro w hS
      refine hK _ _ ?_; clear hK K
      refine rg_done (oks_drop hS 1 rfl) (by kernel_rfl) ?_
      replace hS : St F w0 [.row (.slice (some ⟨ga, 0, none⟩) (safe + q) c) 5 1 (safe + q) (((l.take (safe + q)).set (safe + q - 1) ((l.take (safe + q)).getD (safe + q - 1) 0 ^^^ bits)).map u8v), .blk g 54 (dkV (some ⟨ga, 0, none⟩) (safe + q) c (safe + q) most syncs)] w := by rw [← map_set_u8v]; exact hS
      refine then_n (hK8 _ _ ?_); clear hK8 K8
      refine wp_seq_k ?_; intro K10 hK10
      refine wlit ?_
      refine wl_v (x_move (tmI rfl rfl)) ?_
      refine wl_v (x_move (tmI rfl rfl)) ?_
      first
       | refine wl_v (x_subN (tmI rfl rfl) (tmI rfl rfl) (fit_i64 (by omega)) (by omega)) ?_
       | refine wl_v (x_subI (tmI rfl rfl) (tmI rfl rfl) (IntWalk.i64_in _ (by omega))) ?_
       | refine wl_v (x_sub (tmI rfl rfl) (tmI rfl rfl)) ?_
      refine wl_v (x_assign (tmI rfl rfl)) ?_
      refine wl_nil ?_
      refine then_n (hK10 _ _ ?_); clear hK10 K10
      refine wp_ret ?_
      refine ret1 rfl (.tmp rfl (show _ = Value.int _ _ from rfl)) ?_
      first
        | exact ⟨l, by simp, hl, rfl, hb, hS⟩
        | exact ⟨l.take (safe + q), rfl, by rw [List.length_take]; omega, by rw [List.take_take]; congr 1; omega, hb.take _, hS⟩
        | exact ⟨(l.take (safe + q)).set (safe + q - 1) ((l.take (safe + q)).getD (safe + q - 1) 0 ^^^ bits), rfl, by rw [List.length_set]; exact hlt, by rw [List.take_set_of_le (by omega), List.take_take]; congr 1; omega, (hb.take _).set_ _ _ (by first | exact Nat.xor_lt_two_pow (n := 8) hcell (by omega)), hS⟩
   try (exfalso; first | with_reducible exact absurd hc1 Bool.false_ne_true | with_reducible exact absurd hc1.symm Bool.false_ne_true | (simp only [nrm] at hc1; omega) | (simp at hc1; done))
   all_goals
    try simp only [nrm] at hc1
    refine wp_skip ?_
    refine then_n (hK8 _ _ ?_); clear hK8 K8
    refine wp_seq_k ?_; intro K11 hK11
    refine wlit ?_
    refine wl_v (x_move (tmI rfl rfl)) ?_
    refine wl_v (x_move (tmI rfl rfl)) ?_
    first
     | refine wl_v (x_subN (tmI rfl rfl) (tmI rfl rfl) (fit_i64 (by omega)) (by omega)) ?_
     | refine wl_v (x_subI (tmI rfl rfl) (tmI rfl rfl) (IntWalk.i64_in _ (by omega))) ?_
     | refine wl_v (x_sub (tmI rfl rfl) (tmI rfl rfl)) ?_
    refine wl_v (x_assign (tmI rfl rfl)) ?_
    refine wl_nil ?_
    refine then_n (hK11 _ _ ?_); clear hK11 K11
    refine wp_ret ?_
    refine ret1 rfl (.tmp rfl (show _ = Value.int _ _ from rfl)) ?_
    first
      | exact ⟨l, by simp, hl, rfl, hb, hS⟩
      | exact ⟨l.take (safe + q), rfl, by rw [List.length_take]; omega, by rw [List.take_take]; congr 1; omega, hb.take _, hS⟩
      | exact ⟨(l.take (safe + q)).set (safe + q - 1) ((l.take (safe + q)).getD (safe + q - 1) 0 ^^^ bits), rfl, by rw [List.length_set]; exact hlt, by rw [List.take_set_of_le (by omega), List.take_take]; congr 1; omega, (hb.take _).set_ _ _ (by first | exact Nat.xor_lt_two_pow (n := 8) hcell (by omega)), hS⟩
end Go.Proofs.Ytcimbinkjepkcaa
