
/- cid: leases, an ID that is read again, the law's awake. Conditions: none but bounds. -/
import Derived.Test.YtilgolflpdpfnaaCidR
namespace Go.Proofs.Ytilgolflpdpfnaa
open Go.RowKit
def lsV (n e : Nat) : List Value := [.int .u64 (n : Int), .int .u64 (e : Int)]
def leftN (n e : Nat) : Nat := if e ≤ n then 0 else e - n
theorem left1 {n e : Nat} (h : e ≤ n) : leftN n e = 0 := if_pos h
theorem left2 {n e : Nat} (h : n < e) : leftN n e = e - n := if_neg (by omega)
set_option maxRecDepth 100000 in
set_option maxHeartbeats 4000000 in
theorem lease_left_c (n e : Nat) (w0 : World) (hn : n ≤ 18446744073709551615) (he : e ≤ 18446744073709551615) :
    Calls Try.prog 55 #[.agg (lsV n e).toArray] w0 fun e' w' => e' = .returned (.int .u64 (leftN n e : Int)) ∧ Kp [] w0 w' := by
  have hS := St.sv w0
  refine ent (n := 13) Try.func55 rfl rfl ?_
  refine wp_seq_k ?_; intro K1 hK1
  refine wlit ?_
  refine wl_e rfl ?_; intro K hK
  refine ow_box hS (tmA rfl rfl) rfl ?_
  clear hS; intro g0_0 w hg0_0 hS
  refine hK _ _ ?_; clear hK K
  refine wl_v (x_assign (ev_cN 0)) ?_
  refine wl_nil ?_
  refine then_n (hK1 _ _ ?_); clear hK1 K1
  refine wp_seq_k ?_; intro K2 hK2
  refine wp_seq_k ?_; intro K3 hK3
  refine wlit ?_
  refine wl_v (x_fa 1 Try.underlying98 rfl rfl ts_24 (tmP rfl rfl)) ?_
  first
   | refine wl_v (x_load Try.underlying24 rfl (tmP rfl rfl) (cellB hS.ok 0 rfl rfl)) ?_
   | refine wl_v (x_load Try.underlying24 rfl (tmP rfl rfl) (cellB hS.ok 0 rfl (getm (by omega)))) ?_
  refine wl_v (x_fa 0 Try.underlying98 rfl rfl ts_24 (tmP rfl rfl)) ?_
  first
   | refine wl_v (x_load Try.underlying24 rfl (tmP rfl rfl) (cellB hS.ok 0 rfl rfl)) ?_
   | refine wl_v (x_load Try.underlying24 rfl (tmP rfl rfl) (cellB hS.ok 0 rfl (getm (by omega)))) ?_
  refine wl_v (x_leq (tmI rfl rfl) (tmI rfl rfl)) ?_
  refine wl_nil ?_
  refine then_n (hK3 _ _ ?_); clear hK3 K3
  refine cnd (tm rfl) (fun hc0 => ?_) (fun hc0 => ?_)
  · try (exfalso; first | with_reducible exact absurd hc0 Bool.false_ne_true | with_reducible exact absurd hc0.symm Bool.false_ne_true | (simp only [nrm] at hc0; omega) | (simp at hc0; done))
    all_goals
     try simp only [nrm] at hc0
     refine wp_seq_k ?_; intro K4 hK4
     refine wlit ?_
     refine wl_v (x_assign (ev_cN 0)) ?_
     refine wl_nil ?_
     refine then_n (hK4 _ _ ?_); clear hK4 K4
     refine wp_ret ?_
     refine then_r ?_
     refine ret1 rfl (.tmp rfl (show _ = Value.int _ _ from rfl)) ?_
     refine ⟨?_, hS.kp⟩
     first
       | (rw [left1 (by omega)]; first | done | rfl)
       | (rw [left2 (by omega)]; first | done | rfl)
  try (exfalso; first | with_reducible exact absurd hc0 Bool.false_ne_true | with_reducible exact absurd hc0.symm Bool.false_ne_true | (simp only [nrm] at hc0; omega) | (simp at hc0; done))
  all_goals
   try simp only [nrm] at hc0
   refine wp_skip ?_
   refine then_n (hK2 _ _ ?_); clear hK2 K2
   refine wp_seq_k ?_; intro K5 hK5
   refine wlit ?_
   refine wl_v (x_fa 1 Try.underlying98 rfl rfl ts_24 (tmP rfl rfl)) ?_
   first
    | refine wl_v (x_load Try.underlying24 rfl (tmP rfl rfl) (cellB hS.ok 0 rfl rfl)) ?_
    | refine wl_v (x_load Try.underlying24 rfl (tmP rfl rfl) (cellB hS.ok 0 rfl (getm (by omega)))) ?_
   refine wl_v (x_fa 0 Try.underlying98 rfl rfl ts_24 (tmP rfl rfl)) ?_
   first
    | refine wl_v (x_load Try.underlying24 rfl (tmP rfl rfl) (cellB hS.ok 0 rfl rfl)) ?_
    | refine wl_v (x_load Try.underlying24 rfl (tmP rfl rfl) (cellB hS.ok 0 rfl (getm (by omega)))) ?_
   refine wl_v (x_subN (tmI rfl rfl) (tmI rfl rfl) (fit_u64 (by omega)) (by omega)) ?_
   refine wl_v (x_assign (tmI rfl rfl)) ?_
   refine wl_nil ?_
   refine then_n (hK5 _ _ ?_); clear hK5 K5
   refine wp_ret ?_
   refine ret1 rfl (.tmp rfl (show _ = Value.int _ _ from rfl)) ?_
   refine ⟨?_, hS.kp⟩
   first
     | (rw [left1 (by omega)]; first | done | rfl)
     | (rw [left2 (by omega)]; first | done | rfl)
set_option maxRecDepth 100000 in
set_option maxHeartbeats 4000000 in
theorem rlease_left_c (n e : Nat) (w0 : World) (hn : n ≤ 18446744073709551615) (he : e ≤ 18446744073709551615) :
    Calls Try.prog 53 #[.int .u64 (n : Int), .int .u64 (e : Int)] w0 fun e' w' => e' = .returned (.int .u64 (leftN n e : Int)) ∧ Kp [] w0 w' := by
  have hS := St.sv w0
  refine ent (n := 11) Try.func53 rfl rfl ?_
  refine wp_seq_k ?_; intro K1 hK1
  refine wlit ?_
  refine wl_v (x_assign (ev_cN 0)) ?_
  refine wl_nil ?_
  refine then_n (hK1 _ _ ?_); clear hK1 K1
  refine wp_seq_k ?_; intro K2 hK2
  refine wp_seq_k ?_; intro K3 hK3
  refine wlit ?_
  refine wl_v (x_move (tmI rfl rfl)) ?_
  refine wl_v (x_move (tmI rfl rfl)) ?_
  refine wl_v (x_leq (tmI rfl rfl) (tmI rfl rfl)) ?_
  refine wl_nil ?_
  refine then_n (hK3 _ _ ?_); clear hK3 K3
  refine cnd (tm rfl) (fun hc0 => ?_) (fun hc0 => ?_)
  · try (exfalso; first | with_reducible exact absurd hc0 Bool.false_ne_true | with_reducible exact absurd hc0.symm Bool.false_ne_true | (simp only [nrm] at hc0; omega) | (simp at hc0; done))
    all_goals
     try simp only [nrm] at hc0
     refine wp_seq_k ?_; intro K4 hK4
     refine wlit ?_
     refine wl_v (x_assign (ev_cN 0)) ?_
     refine wl_nil ?_
     refine then_n (hK4 _ _ ?_); clear hK4 K4
     refine wp_ret ?_
     refine then_r ?_
     refine ret1 rfl (.tmp rfl (show _ = Value.int _ _ from rfl)) ?_
     refine ⟨?_, hS.kp⟩
     first
       | (rw [left1 (by omega)]; first | done | rfl)
       | (rw [left2 (by omega)]; first | done | rfl)
  try (exfalso; first | with_reducible exact absurd hc0 Bool.false_ne_true | with_reducible exact absurd hc0.symm Bool.false_ne_true | (simp only [nrm] at hc0; omega) | (simp at hc0; done))
  all_goals
   try simp only [nrm] at hc0
   refine wp_skip ?_
   refine then_n (hK2 _ _ ?_); clear hK2 K2
   refine wp_seq_k ?_; intro K5 hK5
   refine wlit ?_
   refine wl_v (x_move (tmI rfl rfl)) ?_
   refine wl_v (x_move (tmI rfl rfl)) ?_
   refine wl_v (x_subN (tmI rfl rfl) (tmI rfl rfl) (fit_u64 (by omega)) (by omega)) ?_
   refine wl_v (x_assign (tmI rfl rfl)) ?_
   refine wl_nil ?_
   refine then_n (hK5 _ _ ?_); clear hK5 K5
   refine wp_ret ?_
   refine ret1 rfl (.tmp rfl (show _ = Value.int _ _ from rfl)) ?_
   refine ⟨?_, hS.kp⟩
   first
     | (rw [left1 (by omega)]; first | done | rfl)
     | (rw [left2 (by omega)]; first | done | rfl)
set_option maxRecDepth 100000 in
set_option maxHeartbeats 4000000 in
theorem cut_bad_c (n e c : Nat) (w0 : World) (hn : n ≤ 18446744073709551615) (he : e ≤ 18446744073709551615) (hc : leftN n e < c) :
    Calls Try.prog 54 #[.agg (lsV n e).toArray, .int .u64 (c : Int)] w0 fun e' w' => e' = .returned (.tuple #[.agg (lsV 0 0).toArray, .agg (lsV n e).toArray, .int .i64 6]) ∧ Kp [] w0 w' := by
  have hS := St.sv w0
  have hL := fun w => lease_left_c n e w hn he
  generalize leftN n e = L9 at *
  refine ent (n := 26) Try.func54 rfl rfl ?_
  refine wp_seq_k ?_; intro K1 hK1
  refine wlit ?_
  refine wl_e rfl ?_; intro K hK
  refine ow_box hS (tmA rfl rfl) rfl ?_
  clear hS; intro g0_0 w hg0_0 hS
  refine hK _ _ ?_; clear hK K
  refine wl_e rfl ?_; intro K hK
  refine ow_alloc hS tz_98 rfl ?_
  clear hS; intro g0_1 w hg0_1 hS
  refine hK _ _ ?_; clear hK K
  refine wl_e rfl ?_; intro K hK
  refine ow_alloc hS tz_98 rfl ?_
  clear hS; intro g0_2 w hg0_2 hS
  refine hK _ _ ?_; clear hK K
  refine wl_v (x_assign (ev_cN 0)) ?_
  refine wl_nil ?_
  refine then_n (hK1 _ _ ?_); clear hK1 K1
  refine wp_seq_k ?_; intro K2 hK2
  refine wp_seq_k ?_; intro K3 hK3
  refine wlit ?_
  refine wl_v (x_move (tmI rfl rfl)) ?_
  refine wl_v (x_loadA (cs := [_, _]) Try.underlying98 rfl ts_98 (tmP rfl rfl) (rangeB hS.ok 2 rfl rfl)) ?_
  refine wl_e rfl ?_; intro K hK
  refine ow_call Try.func55 rfl rfl (evs_cons (tmA rfl rfl) <| evs_nil) (hL _) ?_
  rintro e w ⟨rfl, hk⟩
  refine ⟨_, rfl, ?_⟩
  replace hS := hS.kept hk
  clear hk
  refine hK _ _ ?_; clear hK K
  refine wl_v (x_gtr (tmI rfl rfl) (tmI rfl rfl)) ?_
  refine wl_nil ?_
  refine then_n (hK3 _ _ ?_); clear hK3 K3
  refine cnds (tm rfl) (fun hc0 => ?_) (fun hc0 => ?_)
  · exfalso
    simp only [nrm] at hc0
    omega
  try (exfalso; first | with_reducible exact absurd hc0 Bool.false_ne_true | with_reducible exact absurd hc0.symm Bool.false_ne_true | (simp only [nrm] at hc0; omega) | (simp at hc0; done))
  all_goals
   try simp only [nrm] at hc0
   refine wp_seq_k ?_; intro K4 hK4
   replace hS := hS.pick [1, 0, 2] rfl rfl
   try replace hS := St.nm (M' := [.blk _ _ [_, _], .blk _ _ [_, _], .blk _ _ [_, _]]) hS rfl
   refine rg_startk 2 hS mixed_ ?_
   clear hS; intro w hS
   refine rg_take 0 rfl rfl (by kernel_rfl) (by kernel_rfl) (by kernel_rfl) (want_0) (fun w hok => x_build (bc_skip (.int .u64 0) <| bc_skip (.int .u64 0) <| bc_nil) (by kernel_rfl)) ?_
   refine rg_take 1 rfl rfl (by kernel_rfl) (by kernel_rfl) (by kernel_rfl) (want_0) (fun w hok => x_loadA (cs := [_, _]) Try.underlying98 rfl ts_98 (tmP rfl rfl) (rangeB hok 0 rfl rfl)) ?_
   refine rg_step 2 rfl (by kernel_rfl) (want_0) (oks_drop hS 2 rfl) ?_; intro K hK
   refine ow_storeA hS 0 rfl ts_98 (tmP rfl rfl) (tmA rfl rfl) rfl rfl rfl ?_
   clear hS; intro w hS
   refine hK _ _ ?_; clear hK K
   refine rg_step 3 rfl (by kernel_rfl) (want_0) (oks_drop hS 2 rfl) ?_; intro K hK
   refine ow_storeA hS 1 rfl ts_98 (tmP rfl rfl) (tmA rfl rfl) rfl rfl rfl ?_
   clear hS; intro w hS
   refine hK _ _ ?_; clear hK K
   refine rg_take 4 rfl rfl (by kernel_rfl) (by kernel_rfl) (by kernel_rfl) (want_0) (fun w hok => x_assign (ev_cN 6)) ?_
   refine rg_done (oks_drop hS 2 rfl) (by kernel_rfl) ?_
   refine then_n (hK4 _ _ ?_); clear hK4 K4
   refine wp_ret ?_
   refine then_r ?_
   refine ret3 rfl (.cell rfl rfl (load_rowB (cs := [_, _]) hS.ok 0 rfl Try.underlying98 rfl ts_98 rfl)) (.cell rfl rfl (load_rowB (cs := [_, _]) hS.ok 1 rfl Try.underlying98 rfl ts_98 rfl)) (.tmp rfl (show _ = Value.int _ _ from rfl)) ?_
   exact ⟨rfl, hS.kp⟩
set_option maxRecDepth 100000 in
set_option maxHeartbeats 4000000 in
theorem cut_c (n e c : Nat) (w0 : World) (hn : n ≤ 18446744073709551615) (he : e ≤ 18446744073709551615) (hc : c ≤ leftN n e) :
    Calls Try.prog 54 #[.agg (lsV n e).toArray, .int .u64 (c : Int)] w0 fun e' w' => e' = .returned (.tuple #[.agg (lsV n (n + c)).toArray, .agg (lsV (n + c) e).toArray, .int .i64 0]) ∧ Kp [] w0 w' := by
  have hS := St.sv w0
  have hL := fun w => lease_left_c n e w hn he
  have hnc : n + c ≤ 18446744073709551615 := by unfold leftN at hc; split at hc <;> omega
  generalize leftN n e = L9 at *
  refine ent (n := 26) Try.func54 rfl rfl ?_
  refine wp_seq_k ?_; intro K1 hK1
  refine wlit ?_
  refine wl_e rfl ?_; intro K hK
  refine ow_box hS (tmA rfl rfl) rfl ?_
  clear hS; intro g0_0 w hg0_0 hS
  refine hK _ _ ?_; clear hK K
  refine wl_e rfl ?_; intro K hK
  refine ow_alloc hS tz_98 rfl ?_
  clear hS; intro g0_1 w hg0_1 hS
  refine hK _ _ ?_; clear hK K
  refine wl_e rfl ?_; intro K hK
  refine ow_alloc hS tz_98 rfl ?_
  clear hS; intro g0_2 w hg0_2 hS
  refine hK _ _ ?_; clear hK K
  refine wl_v (x_assign (ev_cN 0)) ?_
  refine wl_nil ?_
  refine then_n (hK1 _ _ ?_); clear hK1 K1
  refine wp_seq_k ?_; intro K2 hK2
  refine wp_seq_k ?_; intro K3 hK3
  refine wlit ?_
  refine wl_v (x_move (tmI rfl rfl)) ?_
  refine wl_v (x_loadA (cs := [_, _]) Try.underlying98 rfl ts_98 (tmP rfl rfl) (rangeB hS.ok 2 rfl rfl)) ?_
  refine wl_e rfl ?_; intro K hK
  refine ow_call Try.func55 rfl rfl (evs_cons (tmA rfl rfl) <| evs_nil) (hL _) ?_
  rintro e w ⟨rfl, hk⟩
  refine ⟨_, rfl, ?_⟩
  replace hS := hS.kept hk
  clear hk
  refine hK _ _ ?_; clear hK K
  refine wl_v (x_gtr (tmI rfl rfl) (tmI rfl rfl)) ?_
  refine wl_nil ?_
  refine then_n (hK3 _ _ ?_); clear hK3 K3
  refine cnd (tm rfl) (fun hc0 => ?_) (fun hc0 => ?_)
  · exfalso
    simp only [nrm] at hc0
    omega
  try (exfalso; first | with_reducible exact absurd hc0 Bool.false_ne_true | with_reducible exact absurd hc0.symm Bool.false_ne_true | (simp only [nrm] at hc0; omega) | (simp at hc0; done))
  all_goals
   try simp only [nrm] at hc0
   refine wp_skip ?_
   refine then_n (hK2 _ _ ?_); clear hK2 K2
   refine wp_seq_k ?_; intro K4 hK4
   refine wlit ?_
   refine wl_v (x_fa 0 Try.underlying98 rfl rfl ts_24 (tmP rfl rfl)) ?_
   first
    | refine wl_v (x_load Try.underlying24 rfl (tmP rfl rfl) (cellB hS.ok 2 rfl rfl)) ?_
    | refine wl_v (x_load Try.underlying24 rfl (tmP rfl rfl) (cellB hS.ok 2 rfl (getm (by omega)))) ?_
   refine wl_v (x_move (tmI rfl rfl)) ?_
   first
    | refine wl_v (x_addN (tmI rfl rfl) (tmI rfl rfl) (fit_u64 (by omega))) ?_
    | refine wl_v (x_addI (tmI rfl rfl) (tmI rfl rfl) (IntWalk.u64_in _ (by omega))) ?_
    | refine wl_v (x_addU (tmI rfl rfl) (tmI rfl rfl) rfl) ?_
    | refine wl_v (x_add (tmI rfl rfl) (tmI rfl rfl)) ?_
   refine wl_v (x_assign (tmI rfl rfl)) ?_
   refine wl_nil ?_
   refine then_n (hK4 _ _ ?_); clear hK4 K4
   refine wp_seq_k ?_; intro K5 hK5
   replace hS := hS.pick [1, 0, 2] rfl rfl
   try replace hS := St.nm (M' := [.blk _ _ [_, _], .blk _ _ [_, _], .blk _ _ [_, _]]) hS rfl
   refine rg_startk 2 hS mixed_ ?_
   clear hS; intro w hS
   refine rg_take 0 rfl rfl (by kernel_rfl) (by kernel_rfl) (by kernel_rfl) (want_0) (fun w hok => x_fa 0 Try.underlying98 rfl rfl ts_24 (tmP rfl rfl)) ?_
   first
    | refine rg_take 1 rfl rfl (by kernel_rfl) (by kernel_rfl) (by kernel_rfl) (want_0) (fun w hok => x_load Try.underlying24 rfl (tmP rfl rfl) (cellB hok 0 rfl rfl)) ?_
    | refine rg_take 1 rfl rfl (by kernel_rfl) (by kernel_rfl) (by kernel_rfl) (want_0) (fun w hok => x_load Try.underlying24 rfl (tmP rfl rfl) (cellB hok 0 rfl (getm (by omega)))) ?_
   refine rg_take 2 rfl rfl (by kernel_rfl) (by kernel_rfl) (by kernel_rfl) (want_0) (fun w hok => x_move (tmI rfl rfl)) ?_
   refine rg_take 3 rfl rfl (by kernel_rfl) (by kernel_rfl) (by kernel_rfl) (want_0) (fun w hok => x_build (bc_take (tmI rfl rfl) <| bc_take (tmI rfl rfl) <| bc_nil) (by kernel_rfl)) ?_
   refine rg_take 4 rfl rfl (by kernel_rfl) (by kernel_rfl) (by kernel_rfl) (want_0) (fun w hok => x_move (tmI rfl rfl)) ?_
   refine rg_take 5 rfl rfl (by kernel_rfl) (by kernel_rfl) (by kernel_rfl) (want_0) (fun w hok => x_fa 1 Try.underlying98 rfl rfl ts_24 (tmP rfl rfl)) ?_
   first
    | refine rg_take 6 rfl rfl (by kernel_rfl) (by kernel_rfl) (by kernel_rfl) (want_0) (fun w hok => x_load Try.underlying24 rfl (tmP rfl rfl) (cellB hok 0 rfl rfl)) ?_
    | refine rg_take 6 rfl rfl (by kernel_rfl) (by kernel_rfl) (by kernel_rfl) (want_0) (fun w hok => x_load Try.underlying24 rfl (tmP rfl rfl) (cellB hok 0 rfl (getm (by omega)))) ?_
   refine rg_take 7 rfl rfl (by kernel_rfl) (by kernel_rfl) (by kernel_rfl) (want_0) (fun w hok => x_build (bc_take (tmI rfl rfl) <| bc_take (tmI rfl rfl) <| bc_nil) (by kernel_rfl)) ?_
   refine rg_step 8 rfl (by kernel_rfl) (want_0) (oks_drop hS 2 rfl) ?_; intro K hK
   refine ow_storeA hS 0 rfl ts_98 (tmP rfl rfl) (tmA rfl rfl) rfl rfl rfl ?_
   clear hS; intro w hS
   refine hK _ _ ?_; clear hK K
   refine rg_step 9 rfl (by kernel_rfl) (want_0) (oks_drop hS 2 rfl) ?_; intro K hK
   refine ow_storeA hS 1 rfl ts_98 (tmP rfl rfl) (tmA rfl rfl) rfl rfl rfl ?_
   clear hS; intro w hS
   refine hK _ _ ?_; clear hK K
   refine rg_take 10 rfl rfl (by kernel_rfl) (by kernel_rfl) (by kernel_rfl) (want_0) (fun w hok => x_assign (ev_cN 0)) ?_
   refine rg_done (oks_drop hS 2 rfl) (by kernel_rfl) ?_
   refine then_n (hK5 _ _ ?_); clear hK5 K5
   refine wp_ret ?_
   refine ret3 rfl (.cell rfl rfl (load_rowB (cs := [_, _]) hS.ok 0 rfl Try.underlying98 rfl ts_98 rfl)) (.cell rfl rfl (load_rowB (cs := [_, _]) hS.ok 1 rfl Try.underlying98 rfl ts_98 rfl)) (.tmp rfl (show _ = Value.int _ _ from rfl)) ?_
   exact ⟨rfl, hS.kp⟩
set_option maxRecDepth 100000 in
set_option maxHeartbeats 4000000 in
theorem law13_awake_c (w0 : World) :
    Calls Try.prog 49 #[] w0 fun e w' => e = .returned (.bool true) ∧ Kp [] w0 w' := by
  have hS := St.sv w0
  refine ent (n := 27) Try.func49 rfl rfl ?_
  refine wp_seq_k ?_; intro K1 hK1
  refine wlit ?_
  refine wl_v (x_assign ev_c) ?_
  refine wl_nil ?_
  refine then_n (hK1 _ _ ?_); clear hK1 K1
  refine wp_seq_k ?_; intro K2 hK2
  refine wlit ?_
  refine wl_v (x_build (bc_take (ev_cN 3) <| bc_take (ev_cN 5) <| bc_nil) (by kernel_rfl)) ?_
  refine wl_e rfl ?_; intro K hK
  refine ow_call Try.func54 rfl rfl (evs_cons (tmA rfl rfl) <| evs_cons (ev_cN 1) <| evs_nil) (cut_c 3 5 1 _ (by omega) (by omega) (by decide)) ?_
  rintro e w ⟨rfl, hk⟩
  refine ⟨_, rfl, ?_⟩
  replace hS := hS.kept hk
  clear hk
  refine hK _ _ ?_; clear hK K
  refine wl_v (x_move (tmT rfl rfl)) ?_
  refine wl_v (x_ext (tmT rfl rfl) rfl) ?_
  refine wl_v (x_ext (tmT rfl rfl) rfl) ?_
  refine wl_v (x_ext (tmT rfl rfl) rfl) ?_
  refine wl_e rfl ?_; intro K hK
  refine ow_alloc hS tz_98 rfl ?_
  clear hS; intro g1_6 w hg1_6 hS
  refine hK _ _ ?_; clear hK K
  refine wl_e rfl ?_; intro K hK
  refine ow_alloc hS tz_98 rfl ?_
  clear hS; intro g1_7 w hg1_7 hS
  refine hK _ _ ?_; clear hK K
  refine wl_e rfl ?_; intro K hK
  refine ow_storeA hS 1 rfl ts_98 (tmP rfl rfl) (tmA rfl rfl) rfl rfl rfl ?_
  clear hS; intro w hS
  refine hK _ _ ?_; clear hK K
  refine wl_e rfl ?_; intro K hK
  refine ow_storeA hS 0 rfl ts_98 (tmP rfl rfl) (tmA rfl rfl) rfl rfl rfl ?_
  clear hS; intro w hS
  refine hK _ _ ?_; clear hK K
  refine wl_v (x_assign (tmI rfl rfl)) ?_
  refine wl_nil ?_
  refine then_n (hK2 _ _ ?_); clear hK2 K2
  refine wp_seq_k ?_; intro K3 hK3
  refine wlit ?_
  refine wl_v (x_move (tmI rfl rfl)) ?_
  refine wl_v (x_eql (tmI rfl rfl) (ev_cN 0)) ?_
  refine wl_v (x_move (tmB rfl rfl)) ?_
  refine gs_wls (tm (t := 12) rfl) (fun hg2_2 => ?_) (fun hg2_2 => ?_)
  · exfalso
    simp at hg2_2
  have hg2_2' := hg2_2; (try simp only [nrm] at hg2_2'); try (exfalso; first | with_reducible exact absurd hg2_2 Bool.false_ne_true | with_reducible exact absurd hg2_2.symm Bool.false_ne_true | omega | (simp at hg2_2; done))
  all_goals
   refine wl_gv (want_y rfl rfl rfl rfl (by rw [hg2_2]; rfl)) (x_loadA (cs := [_, _]) Try.underlying98 rfl ts_98 (tmP rfl rfl) (rangeB hS.ok 1 rfl rfl)) ?_
   refine wl_gv (want_y rfl rfl rfl rfl (by rw [hg2_2]; rfl)) (x_build (bc_take (ev_cN 3) <| bc_take (ev_cN 4) <| bc_nil) (by kernel_rfl)) ?_
   refine wl_gv (want_y rfl rfl rfl rfl (by rw [hg2_2]; rfl)) (x_Aeql (by kernel_rfl) (tmA rfl rfl) (tmA rfl rfl) (eqv_A Try.underlying98 (by kernel_rfl) (fe_cons rfl (pt_1 Try.underlying24 rfl rfl) (pt_1 Try.underlying24 rfl rfl) (eqv_i Try.underlying24) <| fe_cons rfl (pt_1 Try.underlying24 rfl rfl) (pt_1 Try.underlying24 rfl rfl) (eqv_i Try.underlying24) <| fe_nil))) ?_
   refine wl_v (x_pickT (tmB rfl rfl) hg2_2 (tmB rfl rfl)) ?_
   refine wl_v (x_move (tmB rfl rfl)) ?_
   refine gs_wls (tm (t := 17) rfl) (fun hg2_7 => ?_) (fun hg2_7 => ?_)
   · exfalso
     simp at hg2_7
   have hg2_7' := hg2_7; (try simp only [nrm] at hg2_7'); try (exfalso; first | with_reducible exact absurd hg2_7 Bool.false_ne_true | with_reducible exact absurd hg2_7.symm Bool.false_ne_true | omega | (simp at hg2_7; done))
   all_goals
    refine wl_gv (want_y rfl rfl rfl rfl (by rw [hg2_7]; rfl)) (x_loadA (cs := [_, _]) Try.underlying98 rfl ts_98 (tmP rfl rfl) (rangeB hS.ok 0 rfl rfl)) ?_
    refine wl_gv (want_y rfl rfl rfl rfl (by rw [hg2_7]; rfl)) (x_build (bc_take (ev_cN 4) <| bc_take (ev_cN 5) <| bc_nil) (by kernel_rfl)) ?_
    refine wl_gv (want_y rfl rfl rfl rfl (by rw [hg2_7]; rfl)) (x_Aeql (by kernel_rfl) (tmA rfl rfl) (tmA rfl rfl) (eqv_A Try.underlying98 (by kernel_rfl) (fe_cons rfl (pt_1 Try.underlying24 rfl rfl) (pt_1 Try.underlying24 rfl rfl) (eqv_i Try.underlying24) <| fe_cons rfl (pt_1 Try.underlying24 rfl rfl) (pt_1 Try.underlying24 rfl rfl) (eqv_i Try.underlying24) <| fe_nil))) ?_
    refine wl_v (x_pickT (tmB rfl rfl) hg2_7 (tmB rfl rfl)) ?_
    refine wl_v (x_move (tmB rfl rfl)) ?_
    refine gs_wls (tm (t := 22) rfl) (fun hg2_12 => ?_) (fun hg2_12 => ?_)
    · exfalso
      simp at hg2_12
    have hg2_12' := hg2_12; (try simp only [nrm] at hg2_12'); try (exfalso; first | with_reducible exact absurd hg2_12 Bool.false_ne_true | with_reducible exact absurd hg2_12.symm Bool.false_ne_true | omega | (simp at hg2_12; done))
    all_goals
     refine wl_gv (want_y rfl rfl rfl rfl (by rw [hg2_12]; rfl)) (x_loadA (cs := [_, _]) Try.underlying98 rfl ts_98 (tmP rfl rfl) (rangeB hS.ok 0 rfl rfl)) ?_
     refine wl_g (want_y rfl rfl rfl rfl (by rw [hg2_12]; rfl)) ?_; intro K hK
     refine ow_call Try.func55 rfl rfl (evs_cons (tmA rfl rfl) <| evs_nil) (lease_left_c 4 5 _ (by omega) (by omega)) ?_
     rintro e w ⟨rfl, hk⟩
     refine ⟨_, rfl, ?_⟩
     replace hS := hS.kept hk
     clear hk
     refine hK _ _ ?_; clear hK K
     refine wl_gv (want_y rfl rfl rfl rfl (by rw [hg2_12]; rfl)) (x_eql (tmI rfl rfl) (ev_cN 1)) ?_
     refine wl_v (x_pickT (tmB rfl rfl) hg2_12 (tmB rfl rfl)) ?_
     refine wl_v (x_assign (tmB rfl rfl)) ?_
     refine wl_nil ?_
     refine then_n (hK3 _ _ ?_); clear hK3 K3
     refine wp_ret ?_
     refine ret1 rfl (.tmp rfl (show _ = Value.bool _ from rfl)) ?_
     exact ⟨rfl, hS.kp⟩
/-- An ID is read as what it was made of, by every ring that has the key. -/
theorem id_ok {k : Nat → Nat} {u u' v t o : Nat} (hv : v < 8) (ht : t < 4096) (ho : o ≤ 1099511627775) (hB : atB u' ((u % 2 : Nat) : Int) = true) (hK : atK k u' ((u % 2 : Nat) : Int) = derF k u) (l : List Nat) (hl : l = idB (derF k u) (u % 2) (v * 4096 + t) o) :
    tagOk k u' l ∧ idX k u' l / 4096 % 8 = v ∧ idX k u' l % 4096 = t ∧ numBE (l.take 5) = o := by
  have hm := cmaskN_lt (derF k u) (be o 5)
  obtain ⟨g1, g2⟩ := unhide (b := u % 2) (w := v * 4096 + t) (m := cmaskN (derF k u) (be o 5)) (by omega) (by omega) hm
  have hx15 := xor15 (a := v * 4096 + t) (by omega) hm
  have hWb : idW (derF k u) (u % 2) (v * 4096 + t) o < 65536 := by unfold idW; omega
  have h5 : l.take 5 = be o 5 := by
    rw [hl]
    unfold idB idP
    rw [List.append_assoc]
    exact List.take_left' (be_length _ _)
  have h7 : l.take 7 = idP (derF k u) (u % 2) (v * 4096 + t) o := by rw [hl]; exact List.take_left' (idP_len _ _ _ _)
  have hd7 : l.drop 7 = ctagB (derF k u) (idP (derF k u) (u % 2) (v * 4096 + t) o) := by rw [hl]; exact List.drop_left' (idP_len _ _ _ _)
  have hW : getN l 5 2 = idW (derF k u) (u % 2) (v * 4096 + t) o % 256 ^ 2 := getN_at (P := be o 5) (Q := ctagB (derF k u) (idP (derF k u) (u % 2) (v * 4096 + t) o)) (by rw [hl]; exact List.append_assoc _ _ _) (be_length _ _)
  have hW2 : getN l 5 2 = u % 2 * 32768 + ((v * 4096 + t) ^^^ cmaskN (derF k u) (be o 5)) := by rw [hW, Nat.mod_eq_of_lt (by omega)]; rfl
  have hdiv : getN l 5 2 / 32768 = u % 2 := by rw [hW2]; omega
  unfold tagOk idX
  rw [hdiv, hB, hK, h7, hd7, h5, hW2]
  clear hWb h5 h7 hd7 hW hW2 hdiv g1 hl hx15 hm
  obtain ⟨X, hX⟩ : ∃ X, (u % 2 * 32768 + ((v * 4096 + t) ^^^ cmaskN (derF k u) (be o 5))) ^^^ cmaskN (derF k u) (be o 5) = X := ⟨_, rfl⟩
  rw [hX] at g2 ⊢
  clear hX
  constructor
  · constructor
    · rfl
    · rfl
  constructor
  · omega
  constructor
  · omega
  rw [numBE_be]
  have e : (256 : Nat) ^ 5 = 1099511627776 := by decide
  rw [e, Nat.mod_eq_of_lt (by omega)]
end Go.Proofs.Ytilgolflpdpfnaa
