
/- addr.Compare and the reference's Less, by contract. Conditions: none. -/
import Derived.Test.YtocnmcndcdncmaaDoorAwC
namespace Go.Proofs.YtocnmcndcdncmaaDoor
open Go.RowKit
def cmpN (x y : Nat) : Int := if x < y then -1 else if y < x then 1 else 0
set_option maxRecDepth 100000 in
set_option maxHeartbeats 4000000 in
theorem nan_c (x : Nat) (w0 : World) : Calls Tryd.prog 22 #[.int .u64 (x : Int)] w0 fun e w' => e = .returned (.bool false) ∧ Kp [] w0 w' := by
  have hS := St.sv w0
  refine ent (n := 6) Tryd.func22 rfl rfl ?_
  refine wp_seq_k ?_; intro K1 hK1
  refine wlit ?_
  refine wl_v (x_assign ev_c) ?_
  refine wl_nil ?_
  refine then_n (hK1 _ _ ?_); clear hK1 K1
  refine wp_seq_k ?_; intro K2 hK2
  refine wlit ?_
  refine wl_v (x_move (tmI rfl rfl)) ?_
  refine wl_v (x_move (tmI rfl rfl)) ?_
  refine wl_v (x_neq (tmI rfl rfl) (tmI rfl rfl)) ?_
  refine wl_v (x_assign (tmB rfl rfl)) ?_
  refine wl_nil ?_
  refine then_n (hK2 _ _ ?_); clear hK2 K2
  refine wp_ret ?_
  refine ret1 rfl (.tmp rfl (show _ = Value.bool _ from rfl)) ?_
  exact ⟨by simp, hS.kp⟩
set_option maxRecDepth 100000 in
set_option maxHeartbeats 4000000 in
theorem cmp64_c (x y : Nat) (w0 : World) : Calls Tryd.prog 13 #[.int .u64 (x : Int), .int .u64 (y : Int)] w0 fun e w' => e = .returned (.int .i64 (cmpN x y)) ∧ Kp [] w0 w' := by
  have hS := St.sv w0
  refine ent (n := 20) Tryd.func13 rfl rfl ?_
  refine wp_seq_k ?_; intro K1 hK1
  refine wlit ?_
  refine wl_v (x_assign (ev_cN 0)) ?_
  refine wl_nil ?_
  refine then_n (hK1 _ _ ?_); clear hK1 K1
  refine wp_seq_k ?_; intro K2 hK2
  refine wlit ?_
  refine wl_v (x_move (tmI rfl rfl)) ?_
  refine wl_e rfl ?_; intro K hK
  refine ow_call Tryd.func22 rfl rfl (evs_cons (tmI rfl rfl) <| evs_nil) (nan_c x _) ?_
  rintro e w ⟨rfl, hk⟩
  refine ⟨_, rfl, ?_⟩
  replace hS := hS.kept hk
  clear hk
  refine hK _ _ ?_; clear hK K
  refine wl_v (x_assign (tmB rfl rfl)) ?_
  refine wl_nil ?_
  refine then_n (hK2 _ _ ?_); clear hK2 K2
  refine wp_seq_k ?_; intro K3 hK3
  refine wlit ?_
  refine wl_v (x_move (tmI rfl rfl)) ?_
  refine wl_e rfl ?_; intro K hK
  refine ow_call Tryd.func22 rfl rfl (evs_cons (tmI rfl rfl) <| evs_nil) (nan_c y _) ?_
  rintro e w ⟨rfl, hk⟩
  refine ⟨_, rfl, ?_⟩
  replace hS := hS.kept hk
  clear hk
  refine hK _ _ ?_; clear hK K
  refine wl_v (x_assign (tmB rfl rfl)) ?_
  refine wl_nil ?_
  refine then_n (hK3 _ _ ?_); clear hK3 K3
  refine wp_seq_k ?_; intro K4 hK4
  refine wp_seq_k ?_; intro K5 hK5
  refine wlit ?_
  refine wl_v (x_move (tmB rfl rfl)) ?_
  refine wl_nil ?_
  refine then_n (hK5 _ _ ?_); clear hK5 K5
  refine cnd (tm rfl) (fun hc0 => ?_) (fun hc0 => ?_)
  · try (exfalso; first | with_reducible exact absurd hc0 Bool.false_ne_true | with_reducible exact absurd hc0.symm Bool.false_ne_true | (simp only [nrm] at hc0; omega) | (simp at hc0; done))
    all_goals
     try simp only [nrm] at hc0
     refine wp_seq_k ?_; intro K6 hK6
     refine wp_seq_k ?_; intro K7 hK7
     refine wlit ?_
     refine wl_v (x_move (tmB rfl rfl)) ?_
     refine wl_nil ?_
     refine then_n (hK7 _ _ ?_); clear hK7 K7
     refine cnd (tm rfl) (fun hc1 => ?_) (fun hc1 => ?_)
     · try (exfalso; first | with_reducible exact absurd hc1 Bool.false_ne_true | with_reducible exact absurd hc1.symm Bool.false_ne_true | (simp only [nrm] at hc1; omega) | (simp at hc1; done))
       all_goals
        try simp only [nrm] at hc1
        refine wp_seq_k ?_; intro K8 hK8
        refine wlit ?_
        refine wl_v (x_assign (ev_cN 0)) ?_
        refine wl_nil ?_
        refine then_n (hK8 _ _ ?_); clear hK8 K8
        refine wp_ret ?_
        refine then_r ?_
        refine then_r ?_
        refine ret1 rfl (.tmp rfl (show _ = Value.int _ _ from rfl)) ?_
        refine ⟨congrArg (fun z : Int => Ending.returned (.int .i64 z)) ?_, hS.kp⟩
        unfold cmpN
        (repeat' split) <;> omega
     try (exfalso; first | with_reducible exact absurd hc1 Bool.false_ne_true | with_reducible exact absurd hc1.symm Bool.false_ne_true | (simp only [nrm] at hc1; omega) | (simp at hc1; done))
     all_goals
      try simp only [nrm] at hc1
      refine wp_skip ?_
      refine then_n (hK6 _ _ ?_); clear hK6 K6
      refine wp_seq_k ?_; intro K9 hK9
      refine wlit ?_
      refine wl_v (x_assign ev_c) ?_
      refine wl_nil ?_
      refine then_n (hK9 _ _ ?_); clear hK9 K9
      refine wp_ret ?_
      refine then_r ?_
      refine ret1 rfl (.tmp rfl (show _ = Value.int _ _ from rfl)) ?_
      refine ⟨congrArg (fun z : Int => Ending.returned (.int .i64 z)) ?_, hS.kp⟩
      unfold cmpN
      (repeat' split) <;> omega
  try (exfalso; first | with_reducible exact absurd hc0 Bool.false_ne_true | with_reducible exact absurd hc0.symm Bool.false_ne_true | (simp only [nrm] at hc0; omega) | (simp at hc0; done))
  all_goals
   try simp only [nrm] at hc0
   refine wp_skip ?_
   refine then_n (hK4 _ _ ?_); clear hK4 K4
   refine wp_seq_k ?_; intro K10 hK10
   refine wp_seq_k ?_; intro K11 hK11
   refine wlit ?_
   refine wl_v (x_move (tmB rfl rfl)) ?_
   refine wl_nil ?_
   refine then_n (hK11 _ _ ?_); clear hK11 K11
   refine cnd (tm rfl) (fun hc2 => ?_) (fun hc2 => ?_)
   · try (exfalso; first | with_reducible exact absurd hc2 Bool.false_ne_true | with_reducible exact absurd hc2.symm Bool.false_ne_true | (simp only [nrm] at hc2; omega) | (simp at hc2; done))
     all_goals
      try simp only [nrm] at hc2
      refine wp_seq_k ?_; intro K12 hK12
      refine wlit ?_
      refine wl_v (x_assign (ev_cN 1)) ?_
      refine wl_nil ?_
      refine then_n (hK12 _ _ ?_); clear hK12 K12
      refine wp_ret ?_
      refine then_r ?_
      refine ret1 rfl (.tmp rfl (show _ = Value.int _ _ from rfl)) ?_
      refine ⟨congrArg (fun z : Int => Ending.returned (.int .i64 z)) ?_, hS.kp⟩
      unfold cmpN
      (repeat' split) <;> omega
   try (exfalso; first | with_reducible exact absurd hc2 Bool.false_ne_true | with_reducible exact absurd hc2.symm Bool.false_ne_true | (simp only [nrm] at hc2; omega) | (simp at hc2; done))
   all_goals
    try simp only [nrm] at hc2
    refine wp_skip ?_
    refine then_n (hK10 _ _ ?_); clear hK10 K10
    refine wp_seq_k ?_; intro K13 hK13
    refine wp_seq_k ?_; intro K14 hK14
    refine wlit ?_
    refine wl_v (x_move (tmI rfl rfl)) ?_
    refine wl_v (x_move (tmI rfl rfl)) ?_
    refine wl_v (x_lss (tmI rfl rfl) (tmI rfl rfl)) ?_
    refine wl_nil ?_
    refine then_n (hK14 _ _ ?_); clear hK14 K14
    refine cnd (tm rfl) (fun hc3 => ?_) (fun hc3 => ?_)
    · try (exfalso; first | with_reducible exact absurd hc3 Bool.false_ne_true | with_reducible exact absurd hc3.symm Bool.false_ne_true | (simp only [nrm] at hc3; omega) | (simp at hc3; done))
      all_goals
       try simp only [nrm] at hc3
       refine wp_seq_k ?_; intro K15 hK15
       refine wlit ?_
       refine wl_v (x_assign ev_c) ?_
       refine wl_nil ?_
       refine then_n (hK15 _ _ ?_); clear hK15 K15
       refine wp_ret ?_
       refine then_r ?_
       refine ret1 rfl (.tmp rfl (show _ = Value.int _ _ from rfl)) ?_
       refine ⟨congrArg (fun z : Int => Ending.returned (.int .i64 z)) ?_, hS.kp⟩
       unfold cmpN
       (repeat' split) <;> omega
    try (exfalso; first | with_reducible exact absurd hc3 Bool.false_ne_true | with_reducible exact absurd hc3.symm Bool.false_ne_true | (simp only [nrm] at hc3; omega) | (simp at hc3; done))
    all_goals
     try simp only [nrm] at hc3
     refine wp_skip ?_
     refine then_n (hK13 _ _ ?_); clear hK13 K13
     refine wp_seq_k ?_; intro K16 hK16
     refine wp_seq_k ?_; intro K17 hK17
     refine wlit ?_
     refine wl_v (x_move (tmI rfl rfl)) ?_
     refine wl_v (x_move (tmI rfl rfl)) ?_
     refine wl_v (x_gtr (tmI rfl rfl) (tmI rfl rfl)) ?_
     refine wl_nil ?_
     refine then_n (hK17 _ _ ?_); clear hK17 K17
     refine cnd (tm rfl) (fun hc4 => ?_) (fun hc4 => ?_)
     · try (exfalso; first | with_reducible exact absurd hc4 Bool.false_ne_true | with_reducible exact absurd hc4.symm Bool.false_ne_true | (simp only [nrm] at hc4; omega) | (simp at hc4; done))
       all_goals
        try simp only [nrm] at hc4
        refine wp_seq_k ?_; intro K18 hK18
        refine wlit ?_
        refine wl_v (x_assign (ev_cN 1)) ?_
        refine wl_nil ?_
        refine then_n (hK18 _ _ ?_); clear hK18 K18
        refine wp_ret ?_
        refine then_r ?_
        refine ret1 rfl (.tmp rfl (show _ = Value.int _ _ from rfl)) ?_
        refine ⟨congrArg (fun z : Int => Ending.returned (.int .i64 z)) ?_, hS.kp⟩
        unfold cmpN
        (repeat' split) <;> omega
     try (exfalso; first | with_reducible exact absurd hc4 Bool.false_ne_true | with_reducible exact absurd hc4.symm Bool.false_ne_true | (simp only [nrm] at hc4; omega) | (simp at hc4; done))
     all_goals
      try simp only [nrm] at hc4
      refine wp_skip ?_
      refine then_n (hK16 _ _ ?_); clear hK16 K16
      refine wp_seq_k ?_; intro K19 hK19
      refine wlit ?_
      refine wl_v (x_assign (ev_cN 0)) ?_
      refine wl_nil ?_
      refine then_n (hK19 _ _ ?_); clear hK19 K19
      refine wp_ret ?_
      refine ret1 rfl (.tmp rfl (show _ = Value.int _ _ from rfl)) ?_
      refine ⟨congrArg (fun z : Int => Ending.returned (.int .i64 z)) ?_, hS.kp⟩
      unfold cmpN
      (repeat' split) <;> omega
set_option maxRecDepth 100000 in
set_option maxHeartbeats 4000000 in
theorem or2_c (A : Option Addr) (c : Nat) (a b : Int) (w0 : World) (hv : View w0 w0.heap.size A [.int .i64 a, .int .i64 b]) :
    Calls Tryd.prog 12 #[.slice A 2 c] w0 fun e w' => e = .returned (.int .i64 (if a ≠ 0 then a else b)) ∧ Kp [] w0 w' := by
  obtain ⟨b0, o0, rfl⟩ := view_some hv (by simp)
  have hS := (St.sv w0).vcons rfl hv
  refine ent (n := 18) Tryd.func12 rfl rfl ?_
  refine wp_seq_k ?_; intro K1 hK1
  refine wlit ?_
  refine wl_v (x_assign (ev_cN 0)) ?_
  refine wl_nil ?_
  refine then_n (hK1 _ _ ?_); clear hK1 K1
  refine wp_seq_k ?_; intro K2 hK2
  refine wlit ?_
  refine wl_v (x_assign (ev_cN 0)) ?_
  refine wl_nil ?_
  refine then_n (hK2 _ _ ?_); clear hK2 K2
  refine wp_seq_k ?_; intro K3 hK3
  refine wp_seq_k ?_; intro K4 hK4
  refine wlit ?_
  refine wl_v (x_move (tmS rfl rfl)) ?_
  refine wl_v (x_len Tryd.underlying48 (tmS rfl rfl)) ?_
  refine wl_v (x_move (ev_cN 0)) ?_
  refine wl_nil ?_
  refine then_n (hK4 _ _ ?_); clear hK4 K4
  refine wp_block ?_
  refine lp [2, 5, 8, 9, 10, 11, 12, 13, 14, 15, 16] (fun mz g w => ∃ (k : Nat), mz = 2 - k ∧ g 8 = .int .i64 (k : Int) ∧ St [] w0 [.vw (some ⟨b0, o0, none⟩) [.int .i64 a, .int .i64 b]] w ∧ (k ≤ 2) ∧ (1 ≤ k → a = 0) ∧ (2 ≤ k → b = 0)) ?_ ?_
  · exact ⟨_, 0, rfl, (by first | rfl | go_num | exact congrArg (Value.int _) (by first | omega | (simp; done) | (simp; omega))), hS, (by omega), (by omega), (by omega)⟩
  · clear hS; intro mz g w hI
    obtain ⟨k, rfl, hs8, hS, hk, h1, h2⟩ := hI
    refine fr_know (d := 8) hs8 ?_; clear hs8
    refine wp_seq_k ?_; intro K5 hK5
    refine wlit ?_
    refine wl_v (x_lss (tmI rfl rfl) (tmI rfl rfl)) ?_
    refine wl_nil ?_
    refine then_n (hK5 _ _ ?_); clear hK5 K5
    refine wp_seq_k ?_; intro K6 hK6
    refine cnd (tm rfl) (fun hc0 => ?_) (fun hc0 => ?_)
    · try (exfalso; first | with_reducible exact absurd hc0 Bool.false_ne_true | with_reducible exact absurd hc0.symm Bool.false_ne_true | (simp only [nrm] at hc0; omega) | (simp at hc0; done))
      all_goals
       try simp only [nrm] at hc0
       have hg : ([.int .i64 a, .int .i64 b] : List Value)[k]? = some (.int .i64 (if k = 0 then a else b)) := by
         rcases (by omega : k = 0 ∨ k = 1) with rfl | rfl <;> rfl
       refine wp_skip ?_
       refine then_n (hK6 _ _ ?_); clear hK6 K6
       refine wp_seq_k ?_; intro K7 hK7
       refine wp_block ?_
       refine wp_seq_k ?_; intro K8 hK8
       refine wlit ?_
       refine wl_v (x_ixs1 Tryd.underlying48 ts_3 (tmS rfl rfl) (tmI rfl rfl) (by omega)) ?_
       refine wl_v (x_load (v := .int .i64 (if k = 0 then a else b)) Tryd.underlying3 rfl (tmP rfl rfl) (cellV hS.ok 0 rfl hg)) ?_
       refine wl_v (x_assign (tmI rfl rfl)) ?_
       refine wl_nil ?_
       refine then_n (hK8 _ _ ?_); clear hK8 K8
       refine wp_seq_k ?_; intro K9 hK9
       refine wlit ?_
       refine wl_v (x_move (tmI rfl rfl)) ?_
       refine wl_v (x_move (tmI rfl rfl)) ?_
       refine wl_v (x_neq (tmI rfl rfl) (tmI rfl rfl)) ?_
       refine wl_nil ?_
       refine then_n (hK9 _ _ ?_); clear hK9 K9
       refine cnd (tm rfl) (fun hc1 => ?_) (fun hc1 => ?_)
       · try (exfalso; first | with_reducible exact absurd hc1 Bool.false_ne_true | with_reducible exact absurd hc1.symm Bool.false_ne_true | (simp only [nrm] at hc1; omega) | (simp at hc1; done))
         all_goals
          try simp only [nrm] at hc1
          refine wp_seq_k ?_; intro K10 hK10
          refine wlit ?_
          refine wl_v (x_move (tmI rfl rfl)) ?_
          refine wl_v (x_assign (tmI rfl rfl)) ?_
          refine wl_nil ?_
          refine then_n (hK10 _ _ ?_); clear hK10 K10
          refine wp_ret ?_
          refine inb_r ?_
          refine then_r ?_
          refine then_r ?_
          refine inb_r ?_
          refine then_r ?_
          refine ret1 rfl (.tmp rfl (show _ = Value.int _ _ from rfl)) ?_
          refine ⟨congrArg (fun z : Int => Ending.returned (.int .i64 z)) ?_, hS.kp⟩
          first
            | (have e1 := h1 (by omega)
               have e2 := h2 (by omega)
               subst e1 e2
               simp; done)
            | (rcases (by omega : k = 0 ∨ k = 1) with rfl | rfl
               · simp at *
                 simp [*]
               · have e1 := h1 (by omega)
                 simp at *
                 simp [*])
       try (exfalso; first | with_reducible exact absurd hc1 Bool.false_ne_true | with_reducible exact absurd hc1.symm Bool.false_ne_true | (simp only [nrm] at hc1; omega) | (simp at hc1; done))
       all_goals
        try simp only [nrm] at hc1
        refine wp_skip ?_
        refine inb_n ?_
        refine then_n (hK7 _ _ ?_); clear hK7 K7
        refine wlit ?_
        first
         | refine wl_v (x_addN (tmI rfl rfl) (ev_cN 1) (fit_i64 (by omega))) ?_
         | refine wl_v (x_addI (tmI rfl rfl) (ev_cN 1) (IntWalk.i64_in _ (by omega))) ?_
         | refine wl_v (x_add (tmI rfl rfl) (ev_cN 1)) ?_
        refine wl_v (x_move (tmI rfl rfl)) ?_
        refine wl_nil ?_
        exact then_n ⟨_, _, rfl, (by show _ < _; omega), (by repeat (first | exact agree_self | exact agree_refl | refine agree_upd rfl ?_ | refine agree_mix rfl ?_)), k + 1, rfl, (by first | rfl | go_num | exact congrArg (Value.int _) (by first | omega | (simp; done) | (simp; omega))), hS, (by omega), (by omega), (by omega)⟩
    try (exfalso; first | with_reducible exact absurd hc0 Bool.false_ne_true | with_reducible exact absurd hc0.symm Bool.false_ne_true | (simp only [nrm] at hc0; omega) | (simp at hc0; done))
    all_goals
     try simp only [nrm] at hc0
     refine wp_exit ?_
     refine then_x ?_; clear hK6 K6
     refine then_x ?_
     refine inb_x ?_
     refine then_n (hK3 _ _ ?_); clear hK3 K3
     refine wp_seq_k ?_; intro K11 hK11
     refine wlit ?_
     refine wl_v (x_move (tmI rfl rfl)) ?_
     refine wl_v (x_assign (tmI rfl rfl)) ?_
     refine wl_nil ?_
     refine then_n (hK11 _ _ ?_); clear hK11 K11
     refine wp_ret ?_
     refine ret1 rfl (.tmp rfl (show _ = Value.int _ _ from rfl)) ?_
     refine ⟨congrArg (fun z : Int => Ending.returned (.int .i64 z)) ?_, hS.kp⟩
     first
       | (have e1 := h1 (by omega)
          have e2 := h2 (by omega)
          subst e1 e2
          simp; done)
       | (rcases (by omega : k = 0 ∨ k = 1) with rfl | rfl
          · simp at *
            simp [*]
          · have e1 := h1 (by omega)
            simp at *
            simp [*])
def adCmp (a b : Ad) : Int := if a.six = b.six then (if cmpN a.high b.high ≠ 0 then cmpN a.high b.high else cmpN a.low b.low) else if b.six then -1 else 1
set_option maxRecDepth 100000 in
set_option maxHeartbeats 4000000 in
theorem compare_c_ (s1 s2 : Bool) (h1 l1 h2 l2 : Nat) (w0 : World) :
    Calls Tryd.prog 5 #[.agg (Ad.V ⟨s1, h1, l1⟩).toArray, .agg (Ad.V ⟨s2, h2, l2⟩).toArray] w0 fun e w' => e = .returned (.int .i64 (adCmp ⟨s1, h1, l1⟩ ⟨s2, h2, l2⟩)) ∧ Kp [] w0 w' := by
  have hS := St.sv w0
  refine ent (n := 24) Tryd.func5 rfl rfl ?_
  refine wp_seq_k ?_; intro K1 hK1
  refine wlit ?_
  refine wl_e rfl ?_; intro K hK
  refine ow_box hS (tmA rfl rfl) rfl ?_
  clear hS; intro g0_0 w hg0_0 hS
  refine hK _ _ ?_; clear hK K
  refine wl_e rfl ?_; intro K hK
  refine ow_box hS (tmA rfl rfl) rfl ?_
  clear hS; intro g0_1 w hg0_1 hS
  refine hK _ _ ?_; clear hK K
  refine wl_v (x_assign (ev_cN 0)) ?_
  refine wl_nil ?_
  refine then_n (hK1 _ _ ?_); clear hK1 K1
  refine wp_seq_k ?_; intro K2 hK2
  refine wp_seq_k ?_; intro K3 hK3
  refine wlit ?_
  refine wl_v (x_fa 0 Tryd.underlying24 rfl rfl ts_4 (tmP rfl rfl)) ?_
  first
   | refine wl_v (x_load Tryd.underlying4 rfl (tmP rfl rfl) (cellB hS.ok 1 rfl rfl)) ?_
   | refine wl_v (x_load Tryd.underlying4 rfl (tmP rfl rfl) (cellB hS.ok 1 rfl (getm (by omega)))) ?_
  refine wl_v (x_fa 0 Tryd.underlying24 rfl rfl ts_4 (tmP rfl rfl)) ?_
  first
   | refine wl_v (x_load Tryd.underlying4 rfl (tmP rfl rfl) (cellB hS.ok 0 rfl rfl)) ?_
   | refine wl_v (x_load Tryd.underlying4 rfl (tmP rfl rfl) (cellB hS.ok 0 rfl (getm (by omega)))) ?_
  refine wl_v (x_bneq Tryd.underlying4 (tmB rfl rfl) (tmB rfl rfl)) ?_
  refine wl_nil ?_
  refine then_n (hK3 _ _ ?_); clear hK3 K3
  refine cnd (tm rfl) (fun hc0 => ?_) (fun hc0 => ?_)
  · try (exfalso; first | with_reducible exact absurd hc0 Bool.false_ne_true | with_reducible exact absurd hc0.symm Bool.false_ne_true | (simp only [nrm] at hc0; omega) | (simp at hc0; done))
    all_goals
     try simp only [nrm] at hc0
     refine wp_seq_k ?_; intro K4 hK4
     refine wp_seq_k ?_; intro K5 hK5
     refine wlit ?_
     refine wl_v (x_fa 0 Tryd.underlying24 rfl rfl ts_4 (tmP rfl rfl)) ?_
     first
      | refine wl_v (x_load Tryd.underlying4 rfl (tmP rfl rfl) (cellB hS.ok 0 rfl rfl)) ?_
      | refine wl_v (x_load Tryd.underlying4 rfl (tmP rfl rfl) (cellB hS.ok 0 rfl (getm (by omega)))) ?_
     refine wl_nil ?_
     refine then_n (hK5 _ _ ?_); clear hK5 K5
     refine cnd (tm rfl) (fun hc1 => ?_) (fun hc1 => ?_)
     · try (exfalso; first | with_reducible exact absurd hc1 Bool.false_ne_true | with_reducible exact absurd hc1.symm Bool.false_ne_true | (simp only [nrm] at hc1; omega) | (simp at hc1; done))
       all_goals
        try simp only [nrm] at hc1
        refine wp_seq_k ?_; intro K6 hK6
        refine wlit ?_
        refine wl_v (x_assign ev_c) ?_
        refine wl_nil ?_
        refine then_n (hK6 _ _ ?_); clear hK6 K6
        refine wp_ret ?_
        refine then_r ?_
        refine then_r ?_
        refine ret1 rfl (.tmp rfl (show _ = Value.int _ _ from rfl)) ?_
        refine ⟨congrArg (fun z : Int => Ending.returned (.int .i64 z)) ?_, hS.kp⟩
        clear hS
        unfold adCmp
        cases s1 <;> cases s2 <;> simp_all
     try (exfalso; first | with_reducible exact absurd hc1 Bool.false_ne_true | with_reducible exact absurd hc1.symm Bool.false_ne_true | (simp only [nrm] at hc1; omega) | (simp at hc1; done))
     all_goals
      try simp only [nrm] at hc1
      refine wp_skip ?_
      refine then_n (hK4 _ _ ?_); clear hK4 K4
      refine wp_seq_k ?_; intro K7 hK7
      refine wlit ?_
      refine wl_v (x_assign (ev_cN 1)) ?_
      refine wl_nil ?_
      refine then_n (hK7 _ _ ?_); clear hK7 K7
      refine wp_ret ?_
      refine then_r ?_
      refine ret1 rfl (.tmp rfl (show _ = Value.int _ _ from rfl)) ?_
      refine ⟨congrArg (fun z : Int => Ending.returned (.int .i64 z)) ?_, hS.kp⟩
      clear hS
      unfold adCmp
      cases s1 <;> cases s2 <;> simp_all
  try (exfalso; first | with_reducible exact absurd hc0 Bool.false_ne_true | with_reducible exact absurd hc0.symm Bool.false_ne_true | (simp only [nrm] at hc0; omega) | (simp at hc0; done))
  all_goals
   try simp only [nrm] at hc0
   refine wp_skip ?_
   refine then_n (hK2 _ _ ?_); clear hK2 K2
   refine wp_seq_k ?_; intro K8 hK8
   refine rg_startk 0 hS mixed_ ?_
   clear hS; intro w hS
   refine rg_take 0 rfl rfl (by kernel_rfl) (by kernel_rfl) (by kernel_rfl) (want_0) (fun w hok => x_fa 1 Tryd.underlying24 rfl rfl ts_22 (tmP rfl rfl)) ?_
   first
    | refine rg_take 1 rfl rfl (by kernel_rfl) (by kernel_rfl) (by kernel_rfl) (want_0) (fun w hok => x_load Tryd.underlying22 rfl (tmP rfl rfl) (cellB hok 1 rfl rfl)) ?_
    | refine rg_take 1 rfl rfl (by kernel_rfl) (by kernel_rfl) (by kernel_rfl) (want_0) (fun w hok => x_load Tryd.underlying22 rfl (tmP rfl rfl) (cellB hok 1 rfl (getm (by omega)))) ?_
   refine rg_take 2 rfl rfl (by kernel_rfl) (by kernel_rfl) (by kernel_rfl) (want_0) (fun w hok => x_fa 1 Tryd.underlying24 rfl rfl ts_22 (tmP rfl rfl)) ?_
   first
    | refine rg_take 3 rfl rfl (by kernel_rfl) (by kernel_rfl) (by kernel_rfl) (want_0) (fun w hok => x_load Tryd.underlying22 rfl (tmP rfl rfl) (cellB hok 0 rfl rfl)) ?_
    | refine rg_take 3 rfl rfl (by kernel_rfl) (by kernel_rfl) (by kernel_rfl) (want_0) (fun w hok => x_load Tryd.underlying22 rfl (tmP rfl rfl) (cellB hok 0 rfl (getm (by omega)))) ?_
   refine rg_take 5 rfl rfl (by kernel_rfl) (by kernel_rfl) (by kernel_rfl) (want_0) (fun w hok => x_fa 2 Tryd.underlying24 rfl rfl ts_22 (tmP rfl rfl)) ?_
   first
    | refine rg_take 6 rfl rfl (by kernel_rfl) (by kernel_rfl) (by kernel_rfl) (want_0) (fun w hok => x_load Tryd.underlying22 rfl (tmP rfl rfl) (cellB hok 1 rfl rfl)) ?_
    | refine rg_take 6 rfl rfl (by kernel_rfl) (by kernel_rfl) (by kernel_rfl) (want_0) (fun w hok => x_load Tryd.underlying22 rfl (tmP rfl rfl) (cellB hok 1 rfl (getm (by omega)))) ?_
   refine rg_take 7 rfl rfl (by kernel_rfl) (by kernel_rfl) (by kernel_rfl) (want_0) (fun w hok => x_fa 2 Tryd.underlying24 rfl rfl ts_22 (tmP rfl rfl)) ?_
   first
    | refine rg_take 8 rfl rfl (by kernel_rfl) (by kernel_rfl) (by kernel_rfl) (want_0) (fun w hok => x_load Tryd.underlying22 rfl (tmP rfl rfl) (cellB hok 0 rfl rfl)) ?_
    | refine rg_take 8 rfl rfl (by kernel_rfl) (by kernel_rfl) (by kernel_rfl) (want_0) (fun w hok => x_load Tryd.underlying22 rfl (tmP rfl rfl) (cellB hok 0 rfl (getm (by omega)))) ?_
   refine rg_step 4 rfl (by kernel_rfl) (want_0) (oks_drop hS 0 rfl) ?_; intro K hK
   refine ow_call Tryd.func13 rfl rfl (evs_cons (tmI rfl rfl) <| evs_cons (tmI rfl rfl) <| evs_nil) (cmp64_c h1 h2 _) ?_
   rintro e w ⟨rfl, hk⟩
   refine ⟨_, rfl, ?_⟩
   replace hS := hS.kept hk
   clear hk
   refine hK _ _ ?_; clear hK K
   refine rg_step 9 rfl (by kernel_rfl) (want_0) (oks_drop hS 0 rfl) ?_; intro K hK
   refine ow_call Tryd.func13 rfl rfl (evs_cons (tmI rfl rfl) <| evs_cons (tmI rfl rfl) <| evs_nil) (cmp64_c l1 l2 _) ?_
   rintro e w ⟨rfl, hk⟩
   refine ⟨_, rfl, ?_⟩
   replace hS := hS.kept hk
   clear hk
   refine hK _ _ ?_; clear hK K
   refine rg_step 10 rfl (by kernel_rfl) (want_0) (oks_drop hS 0 rfl) ?_; intro K hK
   refine ow_build hS Tryd.underlying48 tz_3 (bc_take (tmI rfl rfl) <| bc_take (tmI rfl rfl) <| bc_nil) rfl rfl (by kernel_rfl) ?_
   clear hS; intro g5_10 w hg5_10 hS
   refine hK _ _ ?_; clear hK K
   refine rg_step 11 rfl (by kernel_rfl) (want_0) (oks_drop hS 1 rfl) ?_; intro K hK
   refine ow_call Tryd.func12 rfl rfl (evs_cons (tmS rfl rfl) <| evs_nil) (or2_c _ _ (cmpN h1 h2) (cmpN l1 l2) _ (viewB hS.ok 0 rfl)) ?_
   rintro e w ⟨rfl, hk⟩
   refine ⟨_, rfl, ?_⟩
   replace hS := hS.kept hk
   clear hk
   refine hK _ _ ?_; clear hK K
   refine rg_take 12 rfl rfl (by kernel_rfl) (by kernel_rfl) (by kernel_rfl) (want_0) (fun w hok => x_assign (tmI rfl rfl)) ?_
   refine rg_done (oks_drop hS 1 rfl) (by kernel_rfl) ?_
   refine then_n (hK8 _ _ ?_); clear hK8 K8
   refine wp_ret ?_
   refine ret1 rfl (.tmp rfl (show _ = Value.int _ _ from rfl)) ?_
   refine ⟨congrArg (fun z : Int => Ending.returned (.int .i64 z)) ?_, hS.kp⟩
   clear hS
   unfold adCmp
   cases s1 <;> cases s2 <;> simp_all
def adLt (a b : Ad) : Bool := if a.six = b.six then (if a.high = b.high then decide (a.low < b.low) else decide (a.high < b.high)) else b.six
set_option maxRecDepth 100000 in
set_option maxHeartbeats 4000000 in
theorem rless_c_ (s1 s2 : Bool) (h1 l1 h2 l2 : Nat) (w0 : World) :
    Calls Tryd.prog 6 #[.agg (Ad.V ⟨s1, h1, l1⟩).toArray, .agg (Ad.V ⟨s2, h2, l2⟩).toArray] w0 fun e w' => e = .returned (.bool (adLt ⟨s1, h1, l1⟩ ⟨s2, h2, l2⟩)) ∧ Kp [] w0 w' := by
  have hS := St.sv w0
  refine ent (n := 27) Tryd.func6 rfl rfl ?_
  refine wp_seq_k ?_; intro K1 hK1
  refine wlit ?_
  refine wl_e rfl ?_; intro K hK
  refine ow_box hS (tmA rfl rfl) rfl ?_
  clear hS; intro g0_0 w hg0_0 hS
  refine hK _ _ ?_; clear hK K
  refine wl_e rfl ?_; intro K hK
  refine ow_box hS (tmA rfl rfl) rfl ?_
  clear hS; intro g0_1 w hg0_1 hS
  refine hK _ _ ?_; clear hK K
  refine wl_v (x_assign ev_c) ?_
  refine wl_nil ?_
  refine then_n (hK1 _ _ ?_); clear hK1 K1
  refine wp_seq_k ?_; intro K2 hK2
  refine wp_seq_k ?_; intro K3 hK3
  refine wlit ?_
  refine wl_v (x_fa 0 Tryd.underlying24 rfl rfl ts_4 (tmP rfl rfl)) ?_
  first
   | refine wl_v (x_load Tryd.underlying4 rfl (tmP rfl rfl) (cellB hS.ok 1 rfl rfl)) ?_
   | refine wl_v (x_load Tryd.underlying4 rfl (tmP rfl rfl) (cellB hS.ok 1 rfl (getm (by omega)))) ?_
  refine wl_v (x_fa 0 Tryd.underlying24 rfl rfl ts_4 (tmP rfl rfl)) ?_
  first
   | refine wl_v (x_load Tryd.underlying4 rfl (tmP rfl rfl) (cellB hS.ok 0 rfl rfl)) ?_
   | refine wl_v (x_load Tryd.underlying4 rfl (tmP rfl rfl) (cellB hS.ok 0 rfl (getm (by omega)))) ?_
  refine wl_v (x_bneq Tryd.underlying4 (tmB rfl rfl) (tmB rfl rfl)) ?_
  refine wl_nil ?_
  refine then_n (hK3 _ _ ?_); clear hK3 K3
  refine cnd (tm rfl) (fun hc0 => ?_) (fun hc0 => ?_)
  · try (exfalso; first | with_reducible exact absurd hc0 Bool.false_ne_true | with_reducible exact absurd hc0.symm Bool.false_ne_true | (simp only [nrm] at hc0; omega) | (simp at hc0; done))
    all_goals
     try simp only [nrm] at hc0
     refine wp_seq_k ?_; intro K4 hK4
     refine wlit ?_
     refine wl_v (x_fa 0 Tryd.underlying24 rfl rfl ts_4 (tmP rfl rfl)) ?_
     first
      | refine wl_v (x_load Tryd.underlying4 rfl (tmP rfl rfl) (cellB hS.ok 0 rfl rfl)) ?_
      | refine wl_v (x_load Tryd.underlying4 rfl (tmP rfl rfl) (cellB hS.ok 0 rfl (getm (by omega)))) ?_
     refine wl_v (x_assign (tmB rfl rfl)) ?_
     refine wl_nil ?_
     refine then_n (hK4 _ _ ?_); clear hK4 K4
     refine wp_ret ?_
     refine then_r ?_
     refine ret1 rfl (.tmp rfl (show _ = Value.bool _ from rfl)) ?_
     refine ⟨congrArg (fun z : Bool => Ending.returned (.bool z)) ?_, hS.kp⟩
     clear hS
     unfold adLt
     cases s1 <;> cases s2 <;> simp_all
  try (exfalso; first | with_reducible exact absurd hc0 Bool.false_ne_true | with_reducible exact absurd hc0.symm Bool.false_ne_true | (simp only [nrm] at hc0; omega) | (simp at hc0; done))
  all_goals
   try simp only [nrm] at hc0
   refine wp_skip ?_
   refine then_n (hK2 _ _ ?_); clear hK2 K2
   refine wp_seq_k ?_; intro K5 hK5
   refine wp_seq_k ?_; intro K6 hK6
   refine wlit ?_
   refine wl_v (x_fa 1 Tryd.underlying24 rfl rfl ts_22 (tmP rfl rfl)) ?_
   first
    | refine wl_v (x_load Tryd.underlying22 rfl (tmP rfl rfl) (cellB hS.ok 1 rfl rfl)) ?_
    | refine wl_v (x_load Tryd.underlying22 rfl (tmP rfl rfl) (cellB hS.ok 1 rfl (getm (by omega)))) ?_
   refine wl_v (x_fa 1 Tryd.underlying24 rfl rfl ts_22 (tmP rfl rfl)) ?_
   first
    | refine wl_v (x_load Tryd.underlying22 rfl (tmP rfl rfl) (cellB hS.ok 0 rfl rfl)) ?_
    | refine wl_v (x_load Tryd.underlying22 rfl (tmP rfl rfl) (cellB hS.ok 0 rfl (getm (by omega)))) ?_
   refine wl_v (x_neq (tmI rfl rfl) (tmI rfl rfl)) ?_
   refine wl_nil ?_
   refine then_n (hK6 _ _ ?_); clear hK6 K6
   refine cnd (tm rfl) (fun hc1 => ?_) (fun hc1 => ?_)
   · try (exfalso; first | with_reducible exact absurd hc1 Bool.false_ne_true | with_reducible exact absurd hc1.symm Bool.false_ne_true | (simp only [nrm] at hc1; omega) | (simp at hc1; done))
     all_goals
      try simp only [nrm] at hc1
      refine wp_seq_k ?_; intro K7 hK7
      refine wlit ?_
      refine wl_v (x_fa 1 Tryd.underlying24 rfl rfl ts_22 (tmP rfl rfl)) ?_
      first
       | refine wl_v (x_load Tryd.underlying22 rfl (tmP rfl rfl) (cellB hS.ok 1 rfl rfl)) ?_
       | refine wl_v (x_load Tryd.underlying22 rfl (tmP rfl rfl) (cellB hS.ok 1 rfl (getm (by omega)))) ?_
      refine wl_v (x_fa 1 Tryd.underlying24 rfl rfl ts_22 (tmP rfl rfl)) ?_
      first
       | refine wl_v (x_load Tryd.underlying22 rfl (tmP rfl rfl) (cellB hS.ok 0 rfl rfl)) ?_
       | refine wl_v (x_load Tryd.underlying22 rfl (tmP rfl rfl) (cellB hS.ok 0 rfl (getm (by omega)))) ?_
      refine wl_v (x_lss (tmI rfl rfl) (tmI rfl rfl)) ?_
      refine wl_v (x_assign (tmB rfl rfl)) ?_
      refine wl_nil ?_
      refine then_n (hK7 _ _ ?_); clear hK7 K7
      refine wp_ret ?_
      refine then_r ?_
      refine ret1 rfl (.tmp rfl (show _ = Value.bool _ from rfl)) ?_
      refine ⟨congrArg (fun z : Bool => Ending.returned (.bool z)) ?_, hS.kp⟩
      clear hS
      unfold adLt
      cases s1 <;> cases s2 <;> simp_all
   try (exfalso; first | with_reducible exact absurd hc1 Bool.false_ne_true | with_reducible exact absurd hc1.symm Bool.false_ne_true | (simp only [nrm] at hc1; omega) | (simp at hc1; done))
   all_goals
    try simp only [nrm] at hc1
    refine wp_skip ?_
    refine then_n (hK5 _ _ ?_); clear hK5 K5
    refine wp_seq_k ?_; intro K8 hK8
    refine wlit ?_
    refine wl_v (x_fa 2 Tryd.underlying24 rfl rfl ts_22 (tmP rfl rfl)) ?_
    first
     | refine wl_v (x_load Tryd.underlying22 rfl (tmP rfl rfl) (cellB hS.ok 1 rfl rfl)) ?_
     | refine wl_v (x_load Tryd.underlying22 rfl (tmP rfl rfl) (cellB hS.ok 1 rfl (getm (by omega)))) ?_
    refine wl_v (x_fa 2 Tryd.underlying24 rfl rfl ts_22 (tmP rfl rfl)) ?_
    first
     | refine wl_v (x_load Tryd.underlying22 rfl (tmP rfl rfl) (cellB hS.ok 0 rfl rfl)) ?_
     | refine wl_v (x_load Tryd.underlying22 rfl (tmP rfl rfl) (cellB hS.ok 0 rfl (getm (by omega)))) ?_
    refine wl_v (x_lss (tmI rfl rfl) (tmI rfl rfl)) ?_
    refine wl_v (x_assign (tmB rfl rfl)) ?_
    refine wl_nil ?_
    refine then_n (hK8 _ _ ?_); clear hK8 K8
    refine wp_ret ?_
    refine ret1 rfl (.tmp rfl (show _ = Value.bool _ from rfl)) ?_
    refine ⟨congrArg (fun z : Bool => Ending.returned (.bool z)) ?_, hS.kp⟩
    clear hS
    unfold adLt
    cases s1 <;> cases s2 <;> simp_all
end Go.Proofs.YtocnmcndcdncmaaDoor
