
/- lpm: root, grown, bit, V4 by contract. Conditions: a bit of the address. -/
import Derived.Test.YtlpgedncnefaoaaLpH
namespace Go.Proofs.Ytlpgedncnefaoaa
open Go.RowKit
set_option maxRecDepth 100000 in
set_option maxHeartbeats 4000000 in
theorem root_c (tb : Nat) (a : Ad) (w0 : World) : Calls Try.prog 18 #[.pointer (some ⟨tb, 0, none⟩), .agg a.V.toArray] w0 fun e w' => e = .returned (.pointer (some ⟨tb, cond a.six 1 0, none⟩)) ∧ Kp [] w0 w' := by
  obtain ⟨six, high, low⟩ := a
  have hS := St.sv w0
  refine ent (n := 13) Try.func18 rfl rfl ?_
  refine wp_seq_k ?_; intro K1 hK1
  refine wlit ?_
  refine wl_e rfl ?_; intro K hK
  refine ow_box hS (tmA rfl rfl) rfl ?_
  clear hS; intro g0_0 w hg0_0 hS
  refine hK _ _ ?_; clear hK K
  refine wl_v (x_assign ev_c) ?_
  refine wl_nil ?_
  refine then_n (hK1 _ _ ?_); clear hK1 K1
  refine wp_seq_k ?_; intro K2 hK2
  refine wp_seq_k ?_; intro K3 hK3
  refine wlit ?_
  refine wl_v (x_fa 0 Try.underlying25 rfl rfl ts_4 (tmP rfl rfl)) ?_
  first
   | refine wl_v (x_load Try.underlying4 rfl (tmP rfl rfl) (cellB hS.ok 0 rfl rfl)) ?_
   | refine wl_v (x_load Try.underlying4 rfl (tmP rfl rfl) (cellB hS.ok 0 rfl (getm (by omega)))) ?_
  refine wl_nil ?_
  refine then_n (hK3 _ _ ?_); clear hK3 K3
  refine cnd (tm rfl) (fun hc0 => ?_) (fun hc0 => ?_)
  · try (exfalso; first | with_reducible exact absurd hc0 Bool.false_ne_true | with_reducible exact absurd hc0.symm Bool.false_ne_true | (simp only [nrm] at hc0; omega) | (simp at hc0; done))
    all_goals
     try simp only [nrm] at hc0
     subst hc0
     refine wp_seq_k ?_; intro K4 hK4
     refine wlit ?_
     refine wl_v (x_move (tmP rfl rfl)) ?_
     refine wl_v (x_nil (A := none) (tmP rfl rfl)) ?_
     refine wl_v (x_fa 1 Try.underlying47 rfl rfl ts_45 (tmP rfl rfl)) ?_
     refine wl_v (x_assign (tmP rfl rfl)) ?_
     refine wl_nil ?_
     refine then_n (hK4 _ _ ?_); clear hK4 K4
     refine wp_ret ?_
     refine then_r ?_
     refine ret1 rfl (.tmp rfl (show _ = Value.pointer _ from rfl)) ?_
     exact ⟨rfl, hS.kp⟩
  try (exfalso; first | with_reducible exact absurd hc0 Bool.false_ne_true | with_reducible exact absurd hc0.symm Bool.false_ne_true | (simp only [nrm] at hc0; omega) | (simp at hc0; done))
  all_goals
   try simp only [nrm] at hc0
   subst hc0
   refine wp_skip ?_
   refine then_n (hK2 _ _ ?_); clear hK2 K2
   refine wp_seq_k ?_; intro K5 hK5
   refine wlit ?_
   refine wl_v (x_move (tmP rfl rfl)) ?_
   refine wl_v (x_nil (A := none) (tmP rfl rfl)) ?_
   refine wl_v (x_fa 0 Try.underlying47 rfl rfl ts_45 (tmP rfl rfl)) ?_
   refine wl_v (x_assign (tmP rfl rfl)) ?_
   refine wl_nil ?_
   refine then_n (hK5 _ _ ?_); clear hK5 K5
   refine wp_ret ?_
   refine ret1 rfl (.tmp rfl (show _ = Value.pointer _ from rfl)) ?_
   exact ⟨rfl, hS.kp⟩
set_option maxRecDepth 100000 in
set_option maxHeartbeats 4000000 in
theorem grown_nil_c (w0 : World) : Calls Try.prog 27 #[.pointer none] w0 fun e w' => ∃ g, e = .returned (.pointer (some ⟨g, 0, none⟩)) ∧ New w0 w' (.blk g 59 (ndV .nil .nil false 0)) ∧ Kp [] w0 w' := by
  have hS := St.sv w0
  refine ent (n := 8) Try.func27 rfl rfl ?_
  refine wp_seq_k ?_; intro K1 hK1
  refine wlit ?_
  refine wl_v (x_assign ev_c) ?_
  refine wl_nil ?_
  refine then_n (hK1 _ _ ?_); clear hK1 K1
  refine wp_seq_k ?_; intro K2 hK2
  refine wp_seq_k ?_; intro K3 hK3
  refine wlit ?_
  refine wl_v (x_move (tmP rfl rfl)) ?_
  first
   | refine wl_v (x_peql Try.underlying45 (tmP rfl rfl) ev_c) ?_
   | refine wl_v (x_peqln Try.underlying45 (tmP rfl rfl) ev_c) ?_
  refine wl_nil ?_
  refine then_n (hK3 _ _ ?_); clear hK3 K3
  refine cnds (tm rfl) (fun hc0 => ?_) (fun hc0 => ?_)
  · exfalso
    simp at hc0
  try (exfalso; first | with_reducible exact absurd hc0 Bool.false_ne_true | with_reducible exact absurd hc0.symm Bool.false_ne_true | (simp only [nrm] at hc0; omega) | (simp at hc0; done))
  all_goals
   try simp only [nrm] at hc0
   refine wp_seq_k ?_; intro K4 hK4
   refine wlit ?_
   refine wl_v (x_build (bc_skipL [.pointer none, .pointer none] <| bc_skip (.bool false) <| bc_skip (.int .i64 0) <| bc_nil) (by kernel_rfl)) ?_
   refine wl_e rfl ?_; intro K hK
   refine ow_box hS (tmA rfl rfl) rfl ?_
   clear hS; intro g2_1 w hg2_1 hS
   refine hK _ _ ?_; clear hK K
   refine wl_v (x_assign (tmP rfl rfl)) ?_
   refine wl_nil ?_
   refine then_n (hK4 _ _ ?_); clear hK4 K4
   refine wp_ret ?_
   refine then_r ?_
   refine ret1 rfl (.tmp rfl (show _ = Value.pointer _ from rfl)) ?_
   exact ⟨_, rfl, hS.new 0 rfl rfl, hS.kp⟩
set_option maxRecDepth 100000 in
set_option maxHeartbeats 4000000 in
theorem grown_some_c (A : Addr) (w0 : World) : Calls Try.prog 27 #[.pointer (some A)] w0 fun e w' => e = .returned (.pointer (some A)) ∧ Kp [] w0 w' := by
  have hS := St.sv w0
  refine ent (n := 8) Try.func27 rfl rfl ?_
  refine wp_seq_k ?_; intro K1 hK1
  refine wlit ?_
  refine wl_v (x_assign ev_c) ?_
  refine wl_nil ?_
  refine then_n (hK1 _ _ ?_); clear hK1 K1
  refine wp_seq_k ?_; intro K2 hK2
  refine wp_seq_k ?_; intro K3 hK3
  refine wlit ?_
  refine wl_v (x_move (tmP rfl rfl)) ?_
  first
   | refine wl_v (x_peql Try.underlying45 (tmP rfl rfl) ev_c) ?_
   | refine wl_v (x_peqln Try.underlying45 (tmP rfl rfl) ev_c) ?_
  refine wl_nil ?_
  refine then_n (hK3 _ _ ?_); clear hK3 K3
  refine cnd (tm rfl) (fun hc0 => ?_) (fun hc0 => ?_)
  · exfalso
    simp at hc0
  try (exfalso; first | with_reducible exact absurd hc0 Bool.false_ne_true | with_reducible exact absurd hc0.symm Bool.false_ne_true | (simp only [nrm] at hc0; omega) | (simp at hc0; done))
  all_goals
   try simp only [nrm] at hc0
   refine wp_skip ?_
   refine then_n (hK2 _ _ ?_); clear hK2 K2
   refine wp_seq_k ?_; intro K4 hK4
   refine wlit ?_
   refine wl_v (x_move (tmP rfl rfl)) ?_
   refine wl_v (x_assign (tmP rfl rfl)) ?_
   refine wl_nil ?_
   refine then_n (hK4 _ _ ?_); clear hK4 K4
   refine wp_ret ?_
   refine ret1 rfl (.tmp rfl (show _ = Value.pointer _ from rfl)) ?_
   exact ⟨rfl, hS.kp⟩
set_option maxRecDepth 100000 in
set_option maxHeartbeats 4000000 in
theorem lbit_c (a : Ad) (i : Nat) (w0 : World) (hl : adLim a) (hi : i < adBits a) : Calls Try.prog 20 #[.agg a.V.toArray, .int .i64 (i : Int)] w0 fun e w' => e = .returned (.int .u64 (pbit a i : Int)) ∧ Kp [] w0 w' := by
  obtain ⟨six, high, low⟩ := a
  have hl1 : high ≤ 18446744073709551615 := hl.1
  have hl2 : low ≤ 18446744073709551615 := hl.2
  have q1 : ∀ n : Nat, high / n ≤ 18446744073709551615 := fun n => Nat.le_trans (Nat.div_le_self _ _) hl1
  have q2 : ∀ n : Nat, low / n ≤ 18446744073709551615 := fun n => Nat.le_trans (Nat.div_le_self _ _) hl2
  have hS := St.sv w0
  cases six with
  | false =>
    have hi' : i < 32 := hi
    have q := q2 (2 ^ (31 - i))
    refine ent (n := 28) Try.func20 rfl rfl ?_
    refine wp_seq_k ?_; intro K1 hK1
    refine wlit ?_
    refine wl_e rfl ?_; intro K hK
    refine ow_box hS (tmA rfl rfl) rfl ?_
    clear hS; intro g0_0 w hg0_0 hS
    refine hK _ _ ?_; clear hK K
    refine wl_v (x_assign (ev_cN 0)) ?_
    refine wl_nil ?_
    refine then_n (hK1 _ _ ?_); clear hK1 K1
    refine wp_seq_k ?_; intro K2 hK2
    refine wp_seq_k ?_; intro K3 hK3
    refine wlit ?_
    refine wl_v (x_fa 0 Try.underlying25 rfl rfl ts_4 (tmP rfl rfl)) ?_
    first
     | refine wl_v (x_load Try.underlying4 rfl (tmP rfl rfl) (cellB hS.ok 0 rfl rfl)) ?_
     | refine wl_v (x_load Try.underlying4 rfl (tmP rfl rfl) (cellB hS.ok 0 rfl (getm (by omega)))) ?_
    refine wl_v (x_not (tmB rfl rfl)) ?_
    refine wl_nil ?_
    refine then_n (hK3 _ _ ?_); clear hK3 K3
    refine cnds (tm rfl) (fun hc0 => ?_) (fun hc0 => ?_)
    · exfalso
      simp at hc0
    try (exfalso; first | with_reducible exact absurd hc0 Bool.false_ne_true | with_reducible exact absurd hc0.symm Bool.false_ne_true | (simp only [nrm] at hc0; omega) | (simp at hc0; done))
    all_goals
     try simp only [nrm] at hc0
     refine wp_seq_k ?_; intro K4 hK4
     refine wlit ?_
     refine wl_v (x_fa 2 Try.underlying25 rfl rfl ts_23 (tmP rfl rfl)) ?_
     first
      | refine wl_v (x_load Try.underlying23 rfl (tmP rfl rfl) (cellB hS.ok 0 rfl rfl)) ?_
      | refine wl_v (x_load Try.underlying23 rfl (tmP rfl rfl) (cellB hS.ok 0 rfl (getm (by omega)))) ?_
     refine wl_v (x_move (tmI rfl rfl)) ?_
     first
      | refine wl_v (x_subN (ev_cN 31) (tmI rfl rfl) (fit_i64 (by omega)) (by omega)) ?_
      | refine wl_v (x_subI (ev_cN 31) (tmI rfl rfl) (IntWalk.i64_in _ (by omega))) ?_
      | refine wl_v (x_sub (ev_cN 31) (tmI rfl rfl)) ?_
     refine wl_v (x_shrN (tmI rfl rfl) (tmI rfl rfl) (fit_u64 (by omega))) ?_
     refine wl_v (x_andN (tmI rfl rfl) (ev_cN 1) (fit_u64 (by omega)) (fit_u64 (by omega))) ?_
     refine wl_v (x_assign (tmI rfl rfl)) ?_
     refine wl_nil ?_
     refine then_n (hK4 _ _ ?_); clear hK4 K4
     refine wp_ret ?_
     refine then_r ?_
     refine ret1 rfl (.tmp rfl (show _ = Value.int _ _ from rfl)) ?_
     refine ⟨?_, hS.kp⟩
     rw [Nat.and_one_is_mod]
     rfl
  | true =>
    have hi' : i < 128 := hi
    have q := q2 (2 ^ (127 - i))
    have q' := q1 (2 ^ (63 - i))
    refine ent (n := 28) Try.func20 rfl rfl ?_
    refine wp_seq_k ?_; intro K1 hK1
    refine wlit ?_
    refine wl_e rfl ?_; intro K hK
    refine ow_box hS (tmA rfl rfl) rfl ?_
    clear hS; intro g0_0 w hg0_0 hS
    refine hK _ _ ?_; clear hK K
    refine wl_v (x_assign (ev_cN 0)) ?_
    refine wl_nil ?_
    refine then_n (hK1 _ _ ?_); clear hK1 K1
    refine wp_seq_k ?_; intro K2 hK2
    refine wp_seq_k ?_; intro K3 hK3
    refine wlit ?_
    refine wl_v (x_fa 0 Try.underlying25 rfl rfl ts_4 (tmP rfl rfl)) ?_
    first
     | refine wl_v (x_load Try.underlying4 rfl (tmP rfl rfl) (cellB hS.ok 0 rfl rfl)) ?_
     | refine wl_v (x_load Try.underlying4 rfl (tmP rfl rfl) (cellB hS.ok 0 rfl (getm (by omega)))) ?_
    refine wl_v (x_not (tmB rfl rfl)) ?_
    refine wl_nil ?_
    refine then_n (hK3 _ _ ?_); clear hK3 K3
    refine cnd (tm rfl) (fun hc0 => ?_) (fun hc0 => ?_)
    · exfalso
      simp at hc0
    try (exfalso; first | with_reducible exact absurd hc0 Bool.false_ne_true | with_reducible exact absurd hc0.symm Bool.false_ne_true | (simp only [nrm] at hc0; omega) | (simp at hc0; done))
    all_goals
     try simp only [nrm] at hc0
     refine wp_skip ?_
     refine then_n (hK2 _ _ ?_); clear hK2 K2
     refine wp_seq_k ?_; intro K4 hK4
     refine wp_seq_k ?_; intro K5 hK5
     refine wlit ?_
     refine wl_v (x_move (tmI rfl rfl)) ?_
     refine wl_v (x_lss (tmI rfl rfl) (ev_cN 64)) ?_
     refine wl_nil ?_
     refine then_n (hK5 _ _ ?_); clear hK5 K5
     refine cnd (tm rfl) (fun hc1 => ?_) (fun hc1 => ?_)
     · try (exfalso; first | with_reducible exact absurd hc1 Bool.false_ne_true | with_reducible exact absurd hc1.symm Bool.false_ne_true | (simp only [nrm] at hc1; omega) | (simp at hc1; done))
       all_goals
        try simp only [nrm] at hc1
        refine wp_seq_k ?_; intro K6 hK6
        refine wlit ?_
        refine wl_v (x_fa 1 Try.underlying25 rfl rfl ts_23 (tmP rfl rfl)) ?_
        first
         | refine wl_v (x_load Try.underlying23 rfl (tmP rfl rfl) (cellB hS.ok 0 rfl rfl)) ?_
         | refine wl_v (x_load Try.underlying23 rfl (tmP rfl rfl) (cellB hS.ok 0 rfl (getm (by omega)))) ?_
        refine wl_v (x_move (tmI rfl rfl)) ?_
        first
         | refine wl_v (x_subN (ev_cN 63) (tmI rfl rfl) (fit_i64 (by omega)) (by omega)) ?_
         | refine wl_v (x_subI (ev_cN 63) (tmI rfl rfl) (IntWalk.i64_in _ (by omega))) ?_
         | refine wl_v (x_sub (ev_cN 63) (tmI rfl rfl)) ?_
        refine wl_v (x_shrN (tmI rfl rfl) (tmI rfl rfl) (fit_u64 (by omega))) ?_
        refine wl_v (x_andN (tmI rfl rfl) (ev_cN 1) (fit_u64 (by omega)) (fit_u64 (by omega))) ?_
        refine wl_v (x_assign (tmI rfl rfl)) ?_
        refine wl_nil ?_
        refine then_n (hK6 _ _ ?_); clear hK6 K6
        refine wp_ret ?_
        refine then_r ?_
        refine ret1 rfl (.tmp rfl (show _ = Value.int _ _ from rfl)) ?_
        refine ⟨?_, hS.kp⟩
        first
          | (have h64 : i < 64 := by omega
             rw [Nat.and_one_is_mod]
             simp only [pbit, if_pos h64, if_true]; done)
          | (have h64 : ¬ i < 64 := by omega
             rw [Nat.and_one_is_mod]
             simp only [pbit, if_neg h64, if_true]; done)
     try (exfalso; first | with_reducible exact absurd hc1 Bool.false_ne_true | with_reducible exact absurd hc1.symm Bool.false_ne_true | (simp only [nrm] at hc1; omega) | (simp at hc1; done))
     all_goals
      try simp only [nrm] at hc1
      refine wp_skip ?_
      refine then_n (hK4 _ _ ?_); clear hK4 K4
      refine wp_seq_k ?_; intro K7 hK7
      refine wlit ?_
      refine wl_v (x_fa 2 Try.underlying25 rfl rfl ts_23 (tmP rfl rfl)) ?_
      first
       | refine wl_v (x_load Try.underlying23 rfl (tmP rfl rfl) (cellB hS.ok 0 rfl rfl)) ?_
       | refine wl_v (x_load Try.underlying23 rfl (tmP rfl rfl) (cellB hS.ok 0 rfl (getm (by omega)))) ?_
      refine wl_v (x_move (tmI rfl rfl)) ?_
      first
       | refine wl_v (x_subN (ev_cN 127) (tmI rfl rfl) (fit_i64 (by omega)) (by omega)) ?_
       | refine wl_v (x_subI (ev_cN 127) (tmI rfl rfl) (IntWalk.i64_in _ (by omega))) ?_
       | refine wl_v (x_sub (ev_cN 127) (tmI rfl rfl)) ?_
      refine wl_v (x_shrN (tmI rfl rfl) (tmI rfl rfl) (fit_u64 (by omega))) ?_
      refine wl_v (x_andN (tmI rfl rfl) (ev_cN 1) (fit_u64 (by omega)) (fit_u64 (by omega))) ?_
      refine wl_v (x_assign (tmI rfl rfl)) ?_
      refine wl_nil ?_
      refine then_n (hK7 _ _ ?_); clear hK7 K7
      refine wp_ret ?_
      refine ret1 rfl (.tmp rfl (show _ = Value.int _ _ from rfl)) ?_
      refine ⟨?_, hS.kp⟩
      first
        | (have h64 : i < 64 := by omega
           rw [Nat.and_one_is_mod]
           simp only [pbit, if_pos h64, if_true]; done)
        | (have h64 : ¬ i < 64 := by omega
           rw [Nat.and_one_is_mod]
           simp only [pbit, if_neg h64, if_true]; done)
end Go.Proofs.Ytlpgedncnefaoaa
