
/- spread's tables and the reference's by contracts, second part. Conditions: none but bounds. -/
import Derived.Test.YtchpcijmgnfkfaaSpreadB
namespace Go.Proofs.Ytchpcijmgnfkfaa
open Go.RowKit

set_option maxRecDepth 100000 in
set_option maxHeartbeats 4000000 in
theorem pick_c (n : Nat) (A : Option Addr) (c : Nat) (l : List Int) (s : Nat) (w0 : World) (hv : View w0 w0.heap.size A (l.map i64v)) (hl : l.length = n) (hn : 1 ≤ n) (hn4 : n ≤ 1000000) (hs : s < 4294967296) :
    Calls Try.prog 38 #[.agg #[.slice A n c], .int .u32 (s : Int)] w0 fun e w' => e = .returned (.int .i64 (l.getD (s % n) 0)) ∧ Kp [] w0 w' := by
  obtain ⟨bt, ot, rfl⟩ := view_some hv (by simp; omega)
  have hS := (St.sv w0).vcons rfl hv
  have hmod : s % n < n := Nat.mod_lt _ hn
  refine ent (n := 19) Try.func38 rfl rfl ?_
  refine wp_seq_k ?_; intro K1 hK1
  refine wlit ?_
  refine wl_e rfl ?_; intro K hK
  refine ow_box hS (tmA rfl rfl) rfl ?_
  clear hS; intro g0_0 w hg0_0 hS
  refine hK _ _ ?_; clear hK K
  refine wl_v (x_assign (ev_cN 0)) ?_
  refine wl_nil ?_
  refine then_n (hK1 _ _ ?_); clear hK1 K1
  refine wp_seq_k ?_; intro K2 hK2
  refine wp_seq_k ?_; intro K3 hK3
  refine wlit ?_
  refine wl_v (x_fa 0 Try.underlying61 rfl rfl ts_53 (tmP rfl rfl)) ?_
  first
   | refine wl_v (x_load Try.underlying53 rfl (tmP rfl rfl) (cellB hS.ok 0 rfl rfl)) ?_
   | refine wl_v (x_load Try.underlying53 rfl (tmP rfl rfl) (cellB hS.ok 0 rfl (getm (by omega)))) ?_
  refine wl_v (x_len Try.underlying53 (tmS rfl rfl)) ?_
  refine wl_v (x_eql (tmI rfl rfl) (ev_cN 0)) ?_
  refine wl_nil ?_
  refine then_n (hK3 _ _ ?_); clear hK3 K3
  refine cnd (tm rfl) (fun hc0 => ?_) (fun hc0 => ?_)
  · try (exfalso; first | with_reducible exact absurd hc0 Bool.false_ne_true | with_reducible exact absurd hc0.symm Bool.false_ne_true | (simp only [nrm] at hc0; omega))
    all_goals
     try simp only [nrm] at hc0
     refine wp_seq_k ?_; intro K4 hK4
     refine wlit ?_
     refine wl_v (x_assign ev_c) ?_
     refine wl_nil ?_
     refine then_n (hK4 _ _ ?_); clear hK4 K4
     refine wp_ret ?_
     refine then_r ?_
     refine ret1 rfl (.tmp rfl (show _ = Value.int _ _ from rfl)) ?_
     exact ⟨rfl, hS.kp⟩
  try simp only [nrm] at hc0
  refine wp_skip ?_
  refine then_n (hK2 _ _ ?_); clear hK2 K2
  refine wp_seq_k ?_; intro K5 hK5
  refine rg_startk 0 hS mixed_ ?_
  clear hS; intro w hS
  refine rg_take 0 rfl rfl (by kernel_rfl) (by kernel_rfl) (by kernel_rfl) (want_0) (fun w hok => x_fa 0 Try.underlying61 rfl rfl ts_53 (tmP rfl rfl)) ?_
  first
   | refine rg_take 1 rfl rfl (by kernel_rfl) (by kernel_rfl) (by kernel_rfl) (want_0) (fun w hok => x_load Try.underlying53 rfl (tmP rfl rfl) (cellB hok 0 rfl rfl)) ?_
   | refine rg_take 1 rfl rfl (by kernel_rfl) (by kernel_rfl) (by kernel_rfl) (want_0) (fun w hok => x_load Try.underlying53 rfl (tmP rfl rfl) (cellB hok 0 rfl (getm (by omega)))) ?_
  refine rg_take 2 rfl rfl (by kernel_rfl) (by kernel_rfl) (by kernel_rfl) (want_0) (fun w hok => x_move (tmI rfl rfl)) ?_
  refine rg_take 3 rfl rfl (by kernel_rfl) (by kernel_rfl) (by kernel_rfl) (want_0) (fun w hok => x_fa 0 Try.underlying61 rfl rfl ts_53 (tmP rfl rfl)) ?_
  first
   | refine rg_take 4 rfl rfl (by kernel_rfl) (by kernel_rfl) (by kernel_rfl) (want_0) (fun w hok => x_load Try.underlying53 rfl (tmP rfl rfl) (cellB hok 0 rfl rfl)) ?_
   | refine rg_take 4 rfl rfl (by kernel_rfl) (by kernel_rfl) (by kernel_rfl) (want_0) (fun w hok => x_load Try.underlying53 rfl (tmP rfl rfl) (cellB hok 0 rfl (getm (by omega)))) ?_
  refine rg_take 5 rfl rfl (by kernel_rfl) (by kernel_rfl) (by kernel_rfl) (want_0) (fun w hok => x_len Try.underlying53 (tmS rfl rfl)) ?_
  first
   | refine rg_take 6 rfl rfl (by kernel_rfl) (by kernel_rfl) (by kernel_rfl) (want_0) (fun w hok => x_convN Try.underlying3 Try.underlying39 (tmI rfl rfl) (fit_u32 (by omega))) ?_
   | refine rg_take 6 rfl rfl (by kernel_rfl) (by kernel_rfl) (by kernel_rfl) (want_0) (fun w hok => x_convU Try.underlying3 Try.underlying39 (tmI rfl rfl) rfl) ?_
   | refine rg_take 6 rfl rfl (by kernel_rfl) (by kernel_rfl) (by kernel_rfl) (want_0) (fun w hok => x_conv Try.underlying3 Try.underlying39 (tmI rfl rfl)) ?_
  first
   | refine rg_take 7 rfl rfl (by kernel_rfl) (by kernel_rfl) (by kernel_rfl) (want_0) (fun w hok => x_remN (tmI rfl rfl) (tmI rfl rfl) (by omega)) ?_
   | refine rg_take 7 rfl rfl (by kernel_rfl) (by kernel_rfl) (by kernel_rfl) (want_0) (fun w hok => x_rem (tmI rfl rfl) (tmI rfl rfl) (by omega)) ?_
  refine rg_take 8 rfl rfl (by kernel_rfl) (by kernel_rfl) (by kernel_rfl) (want_0) (fun w hok => x_ixs1 Try.underlying53 ts_3 (tmS rfl rfl) (tmI rfl rfl) (by omega)) ?_
  first
   | refine rg_take 9 rfl rfl (by kernel_rfl) (by kernel_rfl) (by kernel_rfl) (want_0) (fun w hok => x_load Try.underlying3 rfl (tmP rfl rfl) (cellB hok 0 rfl rfl)) ?_
   | refine rg_take 9 rfl rfl (by kernel_rfl) (by kernel_rfl) (by kernel_rfl) (want_0) (fun w hok => x_load Try.underlying3 rfl (tmP rfl rfl) (cellB hok 1 rfl rfl)) ?_
   | refine rg_take 9 rfl rfl (by kernel_rfl) (by kernel_rfl) (by kernel_rfl) (want_0) (fun w hok => x_load Try.underlying3 rfl (tmP rfl rfl) (cellV hok 0 rfl rfl)) ?_
   | refine rg_take 9 rfl rfl (by kernel_rfl) (by kernel_rfl) (by kernel_rfl) (want_0) (fun w hok => x_load Try.underlying3 rfl (tmP rfl rfl) (cellV hok 0 rfl (getm (by omega)))) ?_
   | refine rg_take 9 rfl rfl (by kernel_rfl) (by kernel_rfl) (by kernel_rfl) (want_0) (fun w hok => x_load Try.underlying3 rfl (tmP rfl rfl) (cellVs hok 0 rfl (fun _ => rfl) rfl (by omega) rfl)) ?_
   | refine rg_take 9 rfl rfl (by kernel_rfl) (by kernel_rfl) (by kernel_rfl) (want_0) (fun w hok => x_load Try.underlying3 rfl (tmP rfl rfl) (cellR hok 0 rfl rfl)) ?_
   | refine rg_take 9 rfl rfl (by kernel_rfl) (by kernel_rfl) (by kernel_rfl) (want_0) (fun w hok => x_load Try.underlying3 rfl (tmP rfl rfl) (cellR hok 0 rfl (getm (by omega)))) ?_
   | refine rg_take 9 rfl rfl (by kernel_rfl) (by kernel_rfl) (by kernel_rfl) (want_0) (fun w hok => x_load Try.underlying3 rfl (tmP rfl rfl) (cellRs hok 0 rfl (fun _ => rfl) rfl (by omega) rfl)) ?_
   | refine rg_take 9 rfl rfl (by kernel_rfl) (by kernel_rfl) (by kernel_rfl) (want_0) (fun w hok => x_load Try.underlying3 rfl (tmP rfl rfl) (cellV hok 1 rfl rfl)) ?_
   | refine rg_take 9 rfl rfl (by kernel_rfl) (by kernel_rfl) (by kernel_rfl) (want_0) (fun w hok => x_load Try.underlying3 rfl (tmP rfl rfl) (cellV hok 1 rfl (getm (by omega)))) ?_
   | refine rg_take 9 rfl rfl (by kernel_rfl) (by kernel_rfl) (by kernel_rfl) (want_0) (fun w hok => x_load Try.underlying3 rfl (tmP rfl rfl) (cellVs hok 1 rfl (fun _ => rfl) rfl (by omega) rfl)) ?_
   | refine rg_take 9 rfl rfl (by kernel_rfl) (by kernel_rfl) (by kernel_rfl) (want_0) (fun w hok => x_load Try.underlying3 rfl (tmP rfl rfl) (cellR hok 1 rfl rfl)) ?_
   | refine rg_take 9 rfl rfl (by kernel_rfl) (by kernel_rfl) (by kernel_rfl) (want_0) (fun w hok => x_load Try.underlying3 rfl (tmP rfl rfl) (cellR hok 1 rfl (getm (by omega)))) ?_
   | refine rg_take 9 rfl rfl (by kernel_rfl) (by kernel_rfl) (by kernel_rfl) (want_0) (fun w hok => x_load Try.underlying3 rfl (tmP rfl rfl) (cellRs hok 1 rfl (fun _ => rfl) rfl (by omega) rfl)) ?_
  refine rg_take 10 rfl rfl (by kernel_rfl) (by kernel_rfl) (by kernel_rfl) (want_0) (fun w hok => x_assign (tmI rfl rfl)) ?_
  refine rg_done (oks_drop hS 0 rfl) (by kernel_rfl) ?_
  refine then_n (hK5 _ _ ?_); clear hK5 K5
  refine wp_ret ?_
  refine ret1 rfl (.tmp rfl (show _ = Value.int _ _ from rfl)) ?_
  exact ⟨rfl, hS.kp⟩

set_option maxRecDepth 100000 in
set_option maxHeartbeats 4000000 in
theorem pick0_c (c : Nat) (s : Nat) (w0 : World) :
    Calls Try.prog 38 #[.agg #[.slice none 0 c], .int .u32 (s : Int)] w0 fun e w' => e = .returned (.int .i64 (-1)) ∧ Kp [] w0 w' := by
  have hS := St.sv w0
  refine ent (n := 19) Try.func38 rfl rfl ?_
  refine wp_seq_k ?_; intro K1 hK1
  refine wlit ?_
  refine wl_e rfl ?_; intro K hK
  refine ow_box hS (tmA rfl rfl) rfl ?_
  clear hS; intro g0_0 w hg0_0 hS
  refine hK _ _ ?_; clear hK K
  refine wl_v (x_assign (ev_cN 0)) ?_
  refine wl_nil ?_
  refine then_n (hK1 _ _ ?_); clear hK1 K1
  refine wp_seq_k ?_; intro K2 hK2
  refine wp_seq_k ?_; intro K3 hK3
  refine wlit ?_
  refine wl_v (x_fa 0 Try.underlying61 rfl rfl ts_53 (tmP rfl rfl)) ?_
  first
   | refine wl_v (x_load Try.underlying53 rfl (tmP rfl rfl) (cellB hS.ok 0 rfl rfl)) ?_
   | refine wl_v (x_load Try.underlying53 rfl (tmP rfl rfl) (cellB hS.ok 0 rfl (getm (by omega)))) ?_
  refine wl_v (x_len Try.underlying53 (tmS rfl rfl)) ?_
  refine wl_v (x_eql (tmI rfl rfl) (ev_cN 0)) ?_
  refine wl_nil ?_
  refine then_n (hK3 _ _ ?_); clear hK3 K3
  refine cnds (tm rfl) (fun hc0 => ?_) (fun hc0 => ?_)
  · exfalso
    simp at hc0
  try simp only [nrm] at hc0
  refine wp_seq_k ?_; intro K4 hK4
  refine wlit ?_
  refine wl_v (x_assign ev_c) ?_
  refine wl_nil ?_
  refine then_n (hK4 _ _ ?_); clear hK4 K4
  refine wp_ret ?_
  refine then_r ?_
  refine ret1 rfl (.tmp rfl (show _ = Value.int _ _ from rfl)) ?_
  exact ⟨rfl, hS.kp⟩

set_option maxRecDepth 100000 in
set_option maxHeartbeats 4000000 in
theorem places_c (mm : Nat) (A : Option Addr) (c : Nat) (to : List Int) (w0 : World) (hv : View w0 w0.heap.size A (to.map i64v)) (hm4 : mm ≤ 4096) (hto : 0 < to.length) (htl : to.length ≤ 1000000) :
    Calls Try.prog 40 #[.int .i64 (mm : Int), .slice A to.length c] w0 fun e w' => ∃ A' c', e = .returned (.slice A' mm c') ∧ New w0 w' (.row (.slice A' mm c') 3 1 mm ((cyc to mm).map i64v)) ∧ Kp [] w0 w' := by
  obtain ⟨bt, ot, rfl⟩ := view_some hv (by simpa using hto)
  have hS := (St.sv w0).vcons rfl hv
  refine ent (n := 23) Try.func40 rfl rfl ?_
  refine wp_seq_k ?_; intro K1 hK1
  refine wlit ?_
  refine wl_v (x_assign ev_c) ?_
  refine wl_nil ?_
  refine then_n (hK1 _ _ ?_); clear hK1 K1
  refine wp_seq_k ?_; intro K2 hK2
  refine wlit ?_
  refine wl_v (x_assign ev_c) ?_
  refine wl_nil ?_
  refine then_n (hK2 _ _ ?_); clear hK2 K2
  refine wp_seq_k ?_; intro K3 hK3
  refine wp_seq_k ?_; intro K4 hK4
  refine wlit ?_
  refine wl_v (x_assign (ev_cN 0)) ?_
  refine wl_nil ?_
  refine then_n (hK4 _ _ ?_); clear hK4 K4
  refine wp_block ?_
  have hS := hS.nilrow 3 1
  refine lp [5, 6, 7, 8, 9, 10, 11, 12, 13, 14, 15, 16, 17, 18, 19, 20, 21] (fun m g w => ∃ (k : Nat), ∃ (A' : Option Addr), ∃ (c' : Nat), m = mm - k ∧ g 6 = .int .i64 (k : Int) ∧ g 5 = .slice A' k c' ∧ St [] w0 [.row (.slice A' k c') 3 1 k ((cyc to k).map i64v), .vw (some ⟨bt, ot, none⟩) (to.map i64v)] w ∧ (k ≤ mm)) ?_ ?_
  · exact ⟨_, 0, none, 0, rfl, (by first | rfl | go_num), (by first | rfl | go_num), hS, (by omega)⟩
  · clear hS; intro m g w hI
    obtain ⟨k, A', c', rfl, hs6, hs5, hS, hk⟩ := hI
    refine fr_know (d := 6) hs6 ?_; clear hs6
    refine fr_know (d := 5) hs5 ?_; clear hs5
    refine wp_seq_k ?_; intro K5 hK5
    refine wp_seq_k ?_; intro K6 hK6
    refine wlit ?_
    refine wl_v (x_move (tmI rfl rfl)) ?_
    refine wl_v (x_move (tmI rfl rfl)) ?_
    refine wl_v (x_lss (tmI rfl rfl) (tmI rfl rfl)) ?_
    refine wl_nil ?_
    refine then_n (hK6 _ _ ?_); clear hK6 K6
    refine cnd (tm rfl) (fun hc0 => ?_) (fun hc0 => ?_)
    · try (exfalso; first | with_reducible exact absurd hc0 Bool.false_ne_true | with_reducible exact absurd hc0.symm Bool.false_ne_true | (simp only [nrm] at hc0; omega))
      all_goals
       try simp only [nrm] at hc0
       have hmod : k % to.length < to.length := Nat.mod_lt _ hto
       refine wp_skip ?_
       refine then_n (hK5 _ _ ?_); clear hK5 K5
       refine wp_seq_k ?_; intro K7 hK7
       refine wp_block ?_
       refine wlit ?_
       refine wl_v (x_move (tmS rfl rfl)) ?_
       refine wl_v (x_move (tmS rfl rfl)) ?_
       refine wl_v (x_move (tmI rfl rfl)) ?_
       refine wl_v (x_move (tmS rfl rfl)) ?_
       refine wl_v (x_len Try.underlying53 (tmS rfl rfl)) ?_
       first
        | refine wl_v (x_remN (tmI rfl rfl) (tmI rfl rfl) (by omega)) ?_
        | refine wl_v (x_rem (tmI rfl rfl) (tmI rfl rfl) (by omega)) ?_
       refine wl_v (x_ixs1 Try.underlying53 ts_3 (tmS rfl rfl) (tmI rfl rfl) (by omega)) ?_
       first
        | refine wl_v (x_load Try.underlying3 rfl (tmP rfl rfl) (cellB hS.ok 0 rfl rfl)) ?_
        | refine wl_v (x_load Try.underlying3 rfl (tmP rfl rfl) (cellB hS.ok 1 rfl rfl)) ?_
        | refine wl_v (x_load Try.underlying3 rfl (tmP rfl rfl) (cellV hS.ok 0 rfl rfl)) ?_
        | refine wl_v (x_load Try.underlying3 rfl (tmP rfl rfl) (cellV hS.ok 0 rfl (getm (by omega)))) ?_
        | refine wl_v (x_load Try.underlying3 rfl (tmP rfl rfl) (cellVs hS.ok 0 rfl (fun _ => rfl) rfl (by omega) rfl)) ?_
        | refine wl_v (x_load Try.underlying3 rfl (tmP rfl rfl) (cellR hS.ok 0 rfl rfl)) ?_
        | refine wl_v (x_load Try.underlying3 rfl (tmP rfl rfl) (cellR hS.ok 0 rfl (getm (by omega)))) ?_
        | refine wl_v (x_load Try.underlying3 rfl (tmP rfl rfl) (cellRs hS.ok 0 rfl (fun _ => rfl) rfl (by omega) rfl)) ?_
        | refine wl_v (x_load Try.underlying3 rfl (tmP rfl rfl) (cellV hS.ok 1 rfl rfl)) ?_
        | refine wl_v (x_load Try.underlying3 rfl (tmP rfl rfl) (cellV hS.ok 1 rfl (getm (by omega)))) ?_
        | refine wl_v (x_load Try.underlying3 rfl (tmP rfl rfl) (cellVs hS.ok 1 rfl (fun _ => rfl) rfl (by omega) rfl)) ?_
        | refine wl_v (x_load Try.underlying3 rfl (tmP rfl rfl) (cellR hS.ok 1 rfl rfl)) ?_
        | refine wl_v (x_load Try.underlying3 rfl (tmP rfl rfl) (cellR hS.ok 1 rfl (getm (by omega)))) ?_
        | refine wl_v (x_load Try.underlying3 rfl (tmP rfl rfl) (cellRs hS.ok 1 rfl (fun _ => rfl) rfl (by omega) rfl)) ?_
       refine wl_e rfl ?_; intro K hK
       refine ow_build hS Try.underlying53 tz_3 (bc_take (tmI rfl rfl) <| bc_nil) rfl rfl (by kernel_rfl) ?_
       clear hS; intro g5_8 w hg5_8 hS
       refine hK _ _ ?_; clear hK K
       refine wl_e rfl ?_; intro K hK
       refine ow_append hS 1 0 rfl rfl Try.underlying53 tz_3 rfl (tmS rfl rfl) (tmS rfl rfl) rfl ⟨by decide, by decide, rfl⟩ (by simp only [maxLen]; omega) (by omega) ?_
       clear hS; intro g5_9 cg5_9 w hS
       refine hK _ _ ?_; clear hK K
       refine wl_v (x_assign (tmS rfl rfl)) ?_
       refine wl_nil ?_
       refine inb_n ?_
       refine then_n (hK7 _ _ ?_); clear hK7 K7
       refine wlit ?_
       refine wl_v (x_move (tmI rfl rfl)) ?_
       first
        | refine wl_v (x_addN (tmI rfl rfl) (ev_cN 1) (fit_i64 (by omega))) ?_
        | refine wl_v (x_addI (tmI rfl rfl) (ev_cN 1) (IntWalk.i64_in _ (by omega))) ?_
        | refine wl_v (x_add (tmI rfl rfl) (ev_cN 1)) ?_
       refine wl_v (x_assign (tmI rfl rfl)) ?_
       refine wl_nil ?_
       have he : (cyc to (k + 1)).map i64v = (cyc to k).map i64v ++ [.int .i64 (to.getD (k % to.length) 0)] := by simp [cyc, i64v]
       exact then_n ⟨_, _, rfl, (by show _ < _; omega), (by repeat (first | exact agree_self | exact agree_refl | refine agree_upd rfl ?_ | refine agree_mix rfl ?_)), k + 1, _, _, rfl, (by first | rfl | go_num), (by first | rfl | go_num), (by rw [he]; exact hS.pick [1, 2] rfl rfl), (by omega)⟩
    try simp only [nrm] at hc0
    refine wp_exit ?_
    refine then_x ?_; clear hK5 K5
    refine then_x ?_
    refine inb_x ?_
    refine then_n (hK3 _ _ ?_); clear hK3 K3
    refine wp_seq_k ?_; intro K8 hK8
    refine wlit ?_
    refine wl_v (x_move (tmS rfl rfl)) ?_
    refine wl_v (x_assign (tmS rfl rfl)) ?_
    refine wl_nil ?_
    refine then_n (hK8 _ _ ?_); clear hK8 K8
    refine wp_ret ?_
    refine ret1 rfl (.tmp rfl (show _ = Value.slice _ _ _ from rfl)) ?_
    obtain rfl : k = mm := by omega
    exact ⟨_, _, rfl, hS.new 0 rfl rfl, hS.kp⟩

/-- Sizes that may be. -/
theorem right_yes (j : Nat) (hj : j ≤ 12) (w0 : World) :
    Calls Try.prog 37 #[.int .i64 ((2 ^ j : Nat) : Int)] w0 fun e w' => e = .returned (.bool true) ∧ Kp [] w0 w' := by
  have hS := St.sv w0
  have hp : 2 ^ j ≤ 4096 := Nat.pow_le_pow_right (n := 2) (by omega) hj
  have hpp : ∀ i, i < j → 2 ^ i < 2 ^ j := fun i hi => Nat.pow_lt_pow_right (by omega) hi
  refine ent (n := 11) Try.func37 rfl rfl ?_
  refine wp_seq_k ?_; intro K1 hK1
  refine wlit ?_
  refine wl_v (x_assign ev_c) ?_
  refine wl_nil ?_
  refine then_n (hK1 _ _ ?_); clear hK1 K1
  refine wp_seq_k ?_; intro K2 hK2
  refine wp_seq_k ?_; intro K3 hK3
  refine wlit ?_
  refine wl_v (x_assign (ev_cN 1)) ?_
  refine wl_nil ?_
  refine then_n (hK3 _ _ ?_); clear hK3 K3
  refine wp_block ?_
  refine lp [2, 3, 4, 5, 6, 7, 8, 9, 10] (fun m g w => ∃ (i : Nat), m = 13 - i ∧ g 3 = .int .i64 ((2 ^ i : Nat) : Int) ∧ St [] w0 [] w ∧ (i ≤ j)) ?_ ?_
  · exact ⟨_, 0, rfl, (by first | rfl | go_num), hS, (by omega)⟩
  · clear hS; intro m g w hI
    obtain ⟨i, rfl, hs3, hS, hi⟩ := hI
    refine fr_know (d := 3) hs3 ?_; clear hs3
    refine wp_seq_k ?_; intro K4 hK4
    refine wp_seq_k ?_; intro K5 hK5
    refine wlit ?_
    refine wl_v (x_move (tmI rfl rfl)) ?_
    refine wl_v (x_leq (tmI rfl rfl) (ev_cN 4096)) ?_
    refine wl_nil ?_
    refine then_n (hK5 _ _ ?_); clear hK5 K5
    refine cnds (tm rfl) (fun hc0 => ?_) (fun hc0 => ?_)
    · exfalso
      have hi12 : 2 ^ i ≤ 2 ^ j := Nat.pow_le_pow_right (by omega) hi
      have h1 := of_decide_eq_false hc0
      omega
    try simp only [nrm] at hc0
    have hi12 : 2 ^ i ≤ 2 ^ j := Nat.pow_le_pow_right (by omega) hi
    refine wp_skip ?_
    refine then_n (hK4 _ _ ?_); clear hK4 K4
    refine wp_seq_k ?_; intro K6 hK6
    refine wp_block ?_
    refine wp_seq_k ?_; intro K7 hK7
    refine wlit ?_
    refine wl_v (x_move (tmI rfl rfl)) ?_
    refine wl_v (x_move (tmI rfl rfl)) ?_
    refine wl_v (x_eql (tmI rfl rfl) (tmI rfl rfl)) ?_
    refine wl_nil ?_
    refine then_n (hK7 _ _ ?_); clear hK7 K7
    refine cnd (tm rfl) (fun hc1 => ?_) (fun hc1 => ?_)
    · try (exfalso; first | with_reducible exact absurd hc1 Bool.false_ne_true | with_reducible exact absurd hc1.symm Bool.false_ne_true | (simp only [nrm] at hc1; omega))
      all_goals
       try simp only [nrm] at hc1
       refine wp_seq_k ?_; intro K8 hK8
       refine wlit ?_
       refine wl_v (x_assign ev_c) ?_
       refine wl_nil ?_
       refine then_n (hK8 _ _ ?_); clear hK8 K8
       refine wp_ret ?_
       refine inb_r ?_
       refine then_r ?_
       refine then_r ?_
       refine inb_r ?_
       refine then_r ?_
       refine ret1 rfl (.tmp rfl (show _ = Value.bool _ from rfl)) ?_
       exact ⟨rfl, hS.kp⟩
    try simp only [nrm] at hc1
    have hne : i ≠ j := fun e => hc1 (by rw [e])
    have hij : i + 1 ≤ j := by omega
    refine wp_skip ?_
    refine inb_n ?_
    refine then_n (hK6 _ _ ?_); clear hK6 K6
    refine wlit ?_
    refine wl_v (x_move (tmI rfl rfl)) ?_
    first
     | refine wl_v (x_mulN (tmI rfl rfl) (ev_cN 2) (fit_i64 (by omega))) ?_
     | refine wl_v (x_mulI (tmI rfl rfl) (ev_cN 2) (IntWalk.i64_in _ (by omega))) ?_
     | refine wl_v (x_mul (tmI rfl rfl) (ev_cN 2)) ?_
    refine wl_v (x_assign (tmI rfl rfl)) ?_
    refine wl_nil ?_
    exact then_n ⟨_, _, rfl, (by show _ < _; omega), (by repeat (first | exact agree_self | exact agree_refl | refine agree_upd rfl ?_ | refine agree_mix rfl ?_)), i + 1, rfl, (by first | rfl | (rw [Nat.pow_succ]; done) | (rw [Nat.pow_succ]; rfl) | (rw [Nat.pow_succ]; go_num)), hS, (by omega)⟩

theorem right_no (z : Int) (hz : ∀ j, j ≤ 12 → z ≠ ((2 ^ j : Nat) : Int)) (w0 : World) :
    Calls Try.prog 37 #[.int .i64 z] w0 fun e w' => e = .returned (.bool false) ∧ Kp [] w0 w' := by
  have hS := St.sv w0
  refine ent (n := 11) Try.func37 rfl rfl ?_
  refine wp_seq_k ?_; intro K1 hK1
  refine wlit ?_
  refine wl_v (x_assign ev_c) ?_
  refine wl_nil ?_
  refine then_n (hK1 _ _ ?_); clear hK1 K1
  refine wp_seq_k ?_; intro K2 hK2
  refine wp_seq_k ?_; intro K3 hK3
  refine wlit ?_
  refine wl_v (x_assign (ev_cN 1)) ?_
  refine wl_nil ?_
  refine then_n (hK3 _ _ ?_); clear hK3 K3
  refine wp_block ?_
  refine lp [2, 3, 4, 5, 6, 7, 8, 9, 10] (fun m g w => ∃ (i : Nat), m = 13 - i ∧ g 3 = .int .i64 ((2 ^ i : Nat) : Int) ∧ St [] w0 [] w ∧ (i ≤ 13)) ?_ ?_
  · exact ⟨_, 0, rfl, (by first | rfl | go_num), hS, (by omega)⟩
  · clear hS; intro m g w hI
    obtain ⟨i, rfl, hs3, hS, hi⟩ := hI
    refine fr_know (d := 3) hs3 ?_; clear hs3
    refine wp_seq_k ?_; intro K4 hK4
    refine wp_seq_k ?_; intro K5 hK5
    refine wlit ?_
    refine wl_v (x_move (tmI rfl rfl)) ?_
    refine wl_v (x_leq (tmI rfl rfl) (ev_cN 4096)) ?_
    refine wl_nil ?_
    refine then_n (hK5 _ _ ?_); clear hK5 K5
    refine cnd (tm rfl) (fun hc0 => ?_) (fun hc0 => ?_)
    · try (exfalso; first | with_reducible exact absurd hc0 Bool.false_ne_true | with_reducible exact absurd hc0.symm Bool.false_ne_true | (simp only [nrm] at hc0; omega))
      all_goals
       try simp only [nrm] at hc0
       have hi12 : i ≤ 12 := by
         rcases Nat.lt_or_ge 12 i with h1 | h1
         · have := Nat.pow_le_pow_right (n := 2) (by omega) h1
           omega
         · exact h1
       refine wp_skip ?_
       refine then_n (hK4 _ _ ?_); clear hK4 K4
       refine wp_seq_k ?_; intro K6 hK6
       refine wp_block ?_
       refine wp_seq_k ?_; intro K7 hK7
       refine wlit ?_
       refine wl_v (x_move (tmI rfl rfl)) ?_
       refine wl_v (x_move (tmI rfl rfl)) ?_
       refine wl_v (x_eql (tmI rfl rfl) (tmI rfl rfl)) ?_
       refine wl_nil ?_
       refine then_n (hK7 _ _ ?_); clear hK7 K7
       refine cnd (tm rfl) (fun hc1 => ?_) (fun hc1 => ?_)
       · exfalso
         simp at hc1
         exact hz i hi12 (by push_cast; exact hc1.symm)
       try simp only [nrm] at hc1
       refine wp_skip ?_
       refine inb_n ?_
       refine then_n (hK6 _ _ ?_); clear hK6 K6
       refine wlit ?_
       refine wl_v (x_move (tmI rfl rfl)) ?_
       first
        | refine wl_v (x_mulN (tmI rfl rfl) (ev_cN 2) (fit_i64 (by omega))) ?_
        | refine wl_v (x_mulI (tmI rfl rfl) (ev_cN 2) (IntWalk.i64_in _ (by omega))) ?_
        | refine wl_v (x_mul (tmI rfl rfl) (ev_cN 2)) ?_
       refine wl_v (x_assign (tmI rfl rfl)) ?_
       refine wl_nil ?_
       exact then_n ⟨_, _, rfl, (by show _ < _; omega), (by repeat (first | exact agree_self | exact agree_refl | refine agree_upd rfl ?_ | refine agree_mix rfl ?_)), i + 1, rfl, (by first | rfl | (rw [Nat.pow_succ]; done) | (rw [Nat.pow_succ]; rfl) | (rw [Nat.pow_succ]; go_num)), hS, (by omega)⟩
    try simp only [nrm] at hc0
    refine wp_exit ?_
    refine then_x ?_; clear hK4 K4
    refine then_x ?_
    refine inb_x ?_
    refine then_n (hK2 _ _ ?_); clear hK2 K2
    refine wp_seq_k ?_; intro K8 hK8
    refine wlit ?_
    refine wl_v (x_assign ev_c) ?_
    refine wl_nil ?_
    refine then_n (hK8 _ _ ?_); clear hK8 K8
    refine wp_ret ?_
    refine ret1 rfl (.tmp rfl (show _ = Value.bool _ from rfl)) ?_
    exact ⟨rfl, hS.kp⟩
end Go.Proofs.Ytchpcijmgnfkfaa
