
/- capture: Head, Right, Write by contract, and the references'. Conditions: none but bounds. -/
import Derived.Test.YtilgolflpdpfnaaCap
import Derived.Test.YtilgolflpdpfnaaMath
namespace Go.Proofs.Ytilgolflpdpfnaa
open Go.RowKit
def capM (nano : Bool) : Nat := cond nano 2712812621 2712847316
def capH (small nano : Bool) (most link : Nat) : List Nat := [] ++ cnum small (capM nano) 4 ++ cnum small 2 2 ++ cnum small 4 2 ++ cnum small 0 4 ++ cnum small 0 4 ++ cnum small most 4 ++ cnum small link 4
def capW (small : Bool) (sec part len : Nat) (l : List Nat) : List Nat := [] ++ cnum small sec 4 ++ cnum small part 4 ++ cnum small l.length 4 ++ cnum small len 4 ++ l
theorem capH_len (small nano : Bool) (most link : Nat) : (capH small nano most link).length = 24 := by simp [capH, cnum_len]
theorem capH_bytes (small nano : Bool) (most link : Nat) : Bytes (capH small nano most link) := by
  unfold capH
  repeat' (first | exact Bytes.nil | exact cnum_bytes _ _ _ | apply Bytes.append)
theorem capW_len (small : Bool) (sec part len : Nat) (l : List Nat) : (capW small sec part len l).length = 16 + l.length := by simp [capW, cnum_len]; omega
theorem capW_bytes (small : Bool) (sec part len : Nat) {l : List Nat} (hb : Bytes l) : Bytes (capW small sec part len l) := by
  unfold capW
  repeat' (first | exact Bytes.nil | exact hb | exact cnum_bytes _ _ _ | apply Bytes.append)
set_option maxRecDepth 100000 in
set_option maxHeartbeats 4000000 in
theorem cap_head_c (small nano : Bool) (most link : Nat) (w0 : World) (hm : most ≤ 4294967295) (hl : link ≤ 4294967295) :
    Calls Try.prog 29 #[.agg (cfV small nano most link).toArray] w0 fun e w' => ∃ A c, e = .returned (.slice A 24 c) ∧ New w0 w' (.row (.slice A 24 c) 5 1 24 ((capH small nano most link).map u8v)) ∧ Kp [] w0 w' := by
  have hS := St.sv w0
  cases nano with
  | false =>
    have hS := St.sv w0
    refine ent (n := 34) Try.func29 rfl rfl ?_
    refine wp_seq_k ?_; intro K1 hK1
    refine wlit ?_
    refine wl_e rfl ?_; intro K hK
    refine ow_box hS (tmA rfl rfl) rfl ?_
    clear hS; intro g0_0 w hg0_0 hS
    refine hK _ _ ?_; clear hK K
    refine wl_v (x_assign ev_c) ?_
    refine wl_nil ?_
    refine then_n (hK1 _ _ ?_); clear hK1 K1
    refine wp_seq_k ?_; intro K2 hK2
    refine wlit ?_
    refine wl_v (x_assign (ev_cN 2712847316)) ?_
    refine wl_nil ?_
    refine then_n (hK2 _ _ ?_); clear hK2 K2
    refine wp_seq_k ?_; intro K3 hK3
    refine wp_seq_k ?_; intro K4 hK4
    refine wlit ?_
    refine wl_v (x_fa 1 Try.underlying54 rfl rfl ts_4 (tmP rfl rfl)) ?_
    first
     | refine wl_v (x_load Try.underlying4 rfl (tmP rfl rfl) (cellB hS.ok 0 rfl rfl)) ?_
     | refine wl_v (x_load Try.underlying4 rfl (tmP rfl rfl) (cellB hS.ok 0 rfl (getm (by omega)))) ?_
    refine wl_nil ?_
    refine then_n (hK4 _ _ ?_); clear hK4 K4
    refine cnd (tm rfl) (fun hc0 => ?_) (fun hc0 => ?_)
    · exfalso
      simp at hc0
    try (exfalso; first | with_reducible exact absurd hc0 Bool.false_ne_true | with_reducible exact absurd hc0.symm Bool.false_ne_true | (simp only [nrm] at hc0; omega) | (simp at hc0; done))
    all_goals
     try simp only [nrm] at hc0
     refine wp_skip ?_
     refine then_n (hK3 _ _ ?_); clear hK3 K3
     refine wp_seq_k ?_; intro K5 hK5
     replace hS := hS.nilrow 5 1
     refine wlit ?_
     refine wl_v (x_loadA (cs := [_, _, _, _]) Try.underlying54 rfl ts_54 (tmP rfl rfl) (rangeB hS.ok 1 rfl rfl)) ?_
     refine wl_v (x_move (tmI rfl rfl)) ?_
     refine wl_e rfl ?_; intro K hK
     refine ow_call Try.func95 rfl rfl (evs_cons (tmA rfl rfl) <| evs_cons ev_c <| evs_cons (tmI rfl rfl) <| evs_cons (ev_cN 4) <| evs_nil) (cput_c small false most link none 0 0 [] 2712847316 4 _ _ (hS.enter [0] [] rfl rfl) (by omega) (by omega) (by omega)) ?_
     rintro e w ⟨A1, c1, rfl, hS2⟩
     refine ⟨_, rfl, ?_⟩
     replace hS := hS.turn 0 rfl rfl hS2 rfl
     clear hS2
     try replace hS := St.nm (M' := [.row _ _ _ _ _, .blk _ _ [_, _, _, _], _]) hS rfl
     refine hK _ _ ?_; clear hK K
     refine wl_v (x_assign (tmS rfl rfl)) ?_
     refine wl_nil ?_
     refine then_n (hK5 _ _ ?_); clear hK5 K5
     refine wp_seq_k ?_; intro K6 hK6
     refine wlit ?_
     refine wl_v (x_loadA (cs := [_, _, _, _]) Try.underlying54 rfl ts_54 (tmP rfl rfl) (rangeB hS.ok 1 rfl rfl)) ?_
     refine wl_v (x_move (tmS rfl rfl)) ?_
     refine wl_e rfl ?_; intro K hK
     refine ow_call Try.func95 rfl rfl (evs_cons (tmA rfl rfl) <| evs_cons (tmS rfl rfl) <| evs_cons (ev_cN 2) <| evs_cons (ev_cN 2) <| evs_nil) (cput_c small false most link _ (0 + 4) _ _ 2 2 _ _ (hS.enter [0] [] rfl rfl) (by omega) (by omega) (by omega)) ?_
     rintro e w ⟨A2, c2, rfl, hS2⟩
     refine ⟨_, rfl, ?_⟩
     replace hS := hS.turn 0 rfl rfl hS2 rfl
     clear hS2
     try replace hS := St.nm (M' := [.row _ _ _ _ _, .blk _ _ [_, _, _, _], _]) hS rfl
     refine hK _ _ ?_; clear hK K
     refine wl_v (x_assign (tmS rfl rfl)) ?_
     refine wl_nil ?_
     refine then_n (hK6 _ _ ?_); clear hK6 K6
     refine wp_seq_k ?_; intro K7 hK7
     refine wlit ?_
     refine wl_v (x_loadA (cs := [_, _, _, _]) Try.underlying54 rfl ts_54 (tmP rfl rfl) (rangeB hS.ok 1 rfl rfl)) ?_
     refine wl_v (x_move (tmS rfl rfl)) ?_
     refine wl_e rfl ?_; intro K hK
     refine ow_call Try.func95 rfl rfl (evs_cons (tmA rfl rfl) <| evs_cons (tmS rfl rfl) <| evs_cons (ev_cN 4) <| evs_cons (ev_cN 2) <| evs_nil) (cput_c small false most link _ (0 + 4 + 2) _ _ 4 2 _ _ (hS.enter [0] [] rfl rfl) (by omega) (by omega) (by omega)) ?_
     rintro e w ⟨A3, c3, rfl, hS2⟩
     refine ⟨_, rfl, ?_⟩
     replace hS := hS.turn 0 rfl rfl hS2 rfl
     clear hS2
     try replace hS := St.nm (M' := [.row _ _ _ _ _, .blk _ _ [_, _, _, _], _]) hS rfl
     refine hK _ _ ?_; clear hK K
     refine wl_v (x_assign (tmS rfl rfl)) ?_
     refine wl_nil ?_
     refine then_n (hK7 _ _ ?_); clear hK7 K7
     refine wp_seq_k ?_; intro K8 hK8
     refine wlit ?_
     refine wl_v (x_loadA (cs := [_, _, _, _]) Try.underlying54 rfl ts_54 (tmP rfl rfl) (rangeB hS.ok 1 rfl rfl)) ?_
     refine wl_v (x_move (tmS rfl rfl)) ?_
     refine wl_e rfl ?_; intro K hK
     refine ow_call Try.func95 rfl rfl (evs_cons (tmA rfl rfl) <| evs_cons (tmS rfl rfl) <| evs_cons (ev_cN 0) <| evs_cons (ev_cN 4) <| evs_nil) (cput_c small false most link _ (0 + 4 + 2 + 2) _ _ 0 4 _ _ (hS.enter [0] [] rfl rfl) (by omega) (by omega) (by omega)) ?_
     rintro e w ⟨A4, c4, rfl, hS2⟩
     refine ⟨_, rfl, ?_⟩
     replace hS := hS.turn 0 rfl rfl hS2 rfl
     clear hS2
     try replace hS := St.nm (M' := [.row _ _ _ _ _, .blk _ _ [_, _, _, _], _]) hS rfl
     refine hK _ _ ?_; clear hK K
     refine wl_v (x_assign (tmS rfl rfl)) ?_
     refine wl_nil ?_
     refine then_n (hK8 _ _ ?_); clear hK8 K8
     refine wp_seq_k ?_; intro K9 hK9
     refine wlit ?_
     refine wl_v (x_loadA (cs := [_, _, _, _]) Try.underlying54 rfl ts_54 (tmP rfl rfl) (rangeB hS.ok 1 rfl rfl)) ?_
     refine wl_v (x_move (tmS rfl rfl)) ?_
     refine wl_e rfl ?_; intro K hK
     refine ow_call Try.func95 rfl rfl (evs_cons (tmA rfl rfl) <| evs_cons (tmS rfl rfl) <| evs_cons (ev_cN 0) <| evs_cons (ev_cN 4) <| evs_nil) (cput_c small false most link _ (0 + 4 + 2 + 2 + 4) _ _ 0 4 _ _ (hS.enter [0] [] rfl rfl) (by omega) (by omega) (by omega)) ?_
     rintro e w ⟨A5, c5, rfl, hS2⟩
     refine ⟨_, rfl, ?_⟩
     replace hS := hS.turn 0 rfl rfl hS2 rfl
     clear hS2
     try replace hS := St.nm (M' := [.row _ _ _ _ _, .blk _ _ [_, _, _, _], _]) hS rfl
     refine hK _ _ ?_; clear hK K
     refine wl_v (x_assign (tmS rfl rfl)) ?_
     refine wl_nil ?_
     refine then_n (hK9 _ _ ?_); clear hK9 K9
     refine wp_seq_k ?_; intro K10 hK10
     refine wlit ?_
     refine wl_v (x_loadA (cs := [_, _, _, _]) Try.underlying54 rfl ts_54 (tmP rfl rfl) (rangeB hS.ok 1 rfl rfl)) ?_
     refine wl_v (x_move (tmS rfl rfl)) ?_
     refine wl_v (x_fa 2 Try.underlying54 rfl rfl ts_49 (tmP rfl rfl)) ?_
     first
      | refine wl_v (x_load Try.underlying49 rfl (tmP rfl rfl) (cellB hS.ok 1 rfl rfl)) ?_
      | refine wl_v (x_load Try.underlying49 rfl (tmP rfl rfl) (cellB hS.ok 1 rfl (getm (by omega)))) ?_
     first
      | refine wl_v (x_convN Try.underlying49 Try.underlying24 (tmI rfl rfl) (fit_u64 (by omega))) ?_
      | refine wl_v (x_convU Try.underlying49 Try.underlying24 (tmI rfl rfl) rfl) ?_
      | refine wl_v (x_conv Try.underlying49 Try.underlying24 (tmI rfl rfl)) ?_
     refine wl_e rfl ?_; intro K hK
     refine ow_call Try.func95 rfl rfl (evs_cons (tmA rfl rfl) <| evs_cons (tmS rfl rfl) <| evs_cons (tmI rfl rfl) <| evs_cons (ev_cN 4) <| evs_nil) (cput_c small false most link _ (0 + 4 + 2 + 2 + 4 + 4) _ _ most 4 _ _ (hS.enter [0] [] rfl rfl) (by omega) (by omega) (by omega)) ?_
     rintro e w ⟨A6, c6, rfl, hS2⟩
     refine ⟨_, rfl, ?_⟩
     replace hS := hS.turn 0 rfl rfl hS2 rfl
     clear hS2
     try replace hS := St.nm (M' := [.row _ _ _ _ _, .blk _ _ [_, _, _, _], _]) hS rfl
     refine hK _ _ ?_; clear hK K
     refine wl_v (x_assign (tmS rfl rfl)) ?_
     refine wl_nil ?_
     refine then_n (hK10 _ _ ?_); clear hK10 K10
     refine wp_seq_k ?_; intro K11 hK11
     refine wlit ?_
     refine wl_v (x_loadA (cs := [_, _, _, _]) Try.underlying54 rfl ts_54 (tmP rfl rfl) (rangeB hS.ok 1 rfl rfl)) ?_
     refine wl_v (x_move (tmS rfl rfl)) ?_
     refine wl_v (x_fa 3 Try.underlying54 rfl rfl ts_49 (tmP rfl rfl)) ?_
     first
      | refine wl_v (x_load Try.underlying49 rfl (tmP rfl rfl) (cellB hS.ok 1 rfl rfl)) ?_
      | refine wl_v (x_load Try.underlying49 rfl (tmP rfl rfl) (cellB hS.ok 1 rfl (getm (by omega)))) ?_
     first
      | refine wl_v (x_convN Try.underlying49 Try.underlying24 (tmI rfl rfl) (fit_u64 (by omega))) ?_
      | refine wl_v (x_convU Try.underlying49 Try.underlying24 (tmI rfl rfl) rfl) ?_
      | refine wl_v (x_conv Try.underlying49 Try.underlying24 (tmI rfl rfl)) ?_
     refine wl_e rfl ?_; intro K hK
     refine ow_call Try.func95 rfl rfl (evs_cons (tmA rfl rfl) <| evs_cons (tmS rfl rfl) <| evs_cons (tmI rfl rfl) <| evs_cons (ev_cN 4) <| evs_nil) (cput_c small false most link _ (0 + 4 + 2 + 2 + 4 + 4 + 4) _ _ link 4 _ _ (hS.enter [0] [] rfl rfl) (by omega) (by omega) (by omega)) ?_
     rintro e w ⟨A7, c7, rfl, hS2⟩
     refine ⟨_, rfl, ?_⟩
     replace hS := hS.turn 0 rfl rfl hS2 rfl
     clear hS2
     try replace hS := St.nm (M' := [.row _ _ _ _ _, .blk _ _ [_, _, _, _], _]) hS rfl
     refine hK _ _ ?_; clear hK K
     refine wl_v (x_assign (tmS rfl rfl)) ?_
     refine wl_nil ?_
     refine then_n (hK11 _ _ ?_); clear hK11 K11
     refine wp_ret ?_
     refine ret1 rfl (.tmp rfl (show _ = Value.slice _ _ _ from rfl)) ?_
     exact ⟨A7, c7, rfl, hS.new 0 rfl rfl, hS.kp⟩
  | true =>
    have hS := St.sv w0
    refine ent (n := 34) Try.func29 rfl rfl ?_
    refine wp_seq_k ?_; intro K1 hK1
    refine wlit ?_
    refine wl_e rfl ?_; intro K hK
    refine ow_box hS (tmA rfl rfl) rfl ?_
    clear hS; intro g0_0 w hg0_0 hS
    refine hK _ _ ?_; clear hK K
    refine wl_v (x_assign ev_c) ?_
    refine wl_nil ?_
    refine then_n (hK1 _ _ ?_); clear hK1 K1
    refine wp_seq_k ?_; intro K2 hK2
    refine wlit ?_
    refine wl_v (x_assign (ev_cN 2712847316)) ?_
    refine wl_nil ?_
    refine then_n (hK2 _ _ ?_); clear hK2 K2
    refine wp_seq_k ?_; intro K3 hK3
    refine wp_seq_k ?_; intro K4 hK4
    refine wlit ?_
    refine wl_v (x_fa 1 Try.underlying54 rfl rfl ts_4 (tmP rfl rfl)) ?_
    first
     | refine wl_v (x_load Try.underlying4 rfl (tmP rfl rfl) (cellB hS.ok 0 rfl rfl)) ?_
     | refine wl_v (x_load Try.underlying4 rfl (tmP rfl rfl) (cellB hS.ok 0 rfl (getm (by omega)))) ?_
    refine wl_nil ?_
    refine then_n (hK4 _ _ ?_); clear hK4 K4
    refine cnds (tm rfl) (fun hc0 => ?_) (fun hc0 => ?_)
    · exfalso
      simp at hc0
    try (exfalso; first | with_reducible exact absurd hc0 Bool.false_ne_true | with_reducible exact absurd hc0.symm Bool.false_ne_true | (simp only [nrm] at hc0; omega) | (simp at hc0; done))
    all_goals
     try simp only [nrm] at hc0
     refine wlit ?_
     refine wl_v (x_assign (ev_cN 2712812621)) ?_
     refine wl_nil ?_
     refine then_n (hK3 _ _ ?_); clear hK3 K3
     refine wp_seq_k ?_; intro K5 hK5
     replace hS := hS.nilrow 5 1
     refine wlit ?_
     refine wl_v (x_loadA (cs := [_, _, _, _]) Try.underlying54 rfl ts_54 (tmP rfl rfl) (rangeB hS.ok 1 rfl rfl)) ?_
     refine wl_v (x_move (tmI rfl rfl)) ?_
     refine wl_e rfl ?_; intro K hK
     refine ow_call Try.func95 rfl rfl (evs_cons (tmA rfl rfl) <| evs_cons ev_c <| evs_cons (tmI rfl rfl) <| evs_cons (ev_cN 4) <| evs_nil) (cput_c small true most link none 0 0 [] 2712812621 4 _ _ (hS.enter [0] [] rfl rfl) (by omega) (by omega) (by omega)) ?_
     rintro e w ⟨A1, c1, rfl, hS2⟩
     refine ⟨_, rfl, ?_⟩
     replace hS := hS.turn 0 rfl rfl hS2 rfl
     clear hS2
     try replace hS := St.nm (M' := [.row _ _ _ _ _, .blk _ _ [_, _, _, _], _]) hS rfl
     refine hK _ _ ?_; clear hK K
     refine wl_v (x_assign (tmS rfl rfl)) ?_
     refine wl_nil ?_
     refine then_n (hK5 _ _ ?_); clear hK5 K5
     refine wp_seq_k ?_; intro K6 hK6
     refine wlit ?_
     refine wl_v (x_loadA (cs := [_, _, _, _]) Try.underlying54 rfl ts_54 (tmP rfl rfl) (rangeB hS.ok 1 rfl rfl)) ?_
     refine wl_v (x_move (tmS rfl rfl)) ?_
     refine wl_e rfl ?_; intro K hK
     refine ow_call Try.func95 rfl rfl (evs_cons (tmA rfl rfl) <| evs_cons (tmS rfl rfl) <| evs_cons (ev_cN 2) <| evs_cons (ev_cN 2) <| evs_nil) (cput_c small true most link _ (0 + 4) _ _ 2 2 _ _ (hS.enter [0] [] rfl rfl) (by omega) (by omega) (by omega)) ?_
     rintro e w ⟨A2, c2, rfl, hS2⟩
     refine ⟨_, rfl, ?_⟩
     replace hS := hS.turn 0 rfl rfl hS2 rfl
     clear hS2
     try replace hS := St.nm (M' := [.row _ _ _ _ _, .blk _ _ [_, _, _, _], _]) hS rfl
     refine hK _ _ ?_; clear hK K
     refine wl_v (x_assign (tmS rfl rfl)) ?_
     refine wl_nil ?_
     refine then_n (hK6 _ _ ?_); clear hK6 K6
     refine wp_seq_k ?_; intro K7 hK7
     refine wlit ?_
     refine wl_v (x_loadA (cs := [_, _, _, _]) Try.underlying54 rfl ts_54 (tmP rfl rfl) (rangeB hS.ok 1 rfl rfl)) ?_
     refine wl_v (x_move (tmS rfl rfl)) ?_
     refine wl_e rfl ?_; intro K hK
     refine ow_call Try.func95 rfl rfl (evs_cons (tmA rfl rfl) <| evs_cons (tmS rfl rfl) <| evs_cons (ev_cN 4) <| evs_cons (ev_cN 2) <| evs_nil) (cput_c small true most link _ (0 + 4 + 2) _ _ 4 2 _ _ (hS.enter [0] [] rfl rfl) (by omega) (by omega) (by omega)) ?_
     rintro e w ⟨A3, c3, rfl, hS2⟩
     refine ⟨_, rfl, ?_⟩
     replace hS := hS.turn 0 rfl rfl hS2 rfl
     clear hS2
     try replace hS := St.nm (M' := [.row _ _ _ _ _, .blk _ _ [_, _, _, _], _]) hS rfl
     refine hK _ _ ?_; clear hK K
     refine wl_v (x_assign (tmS rfl rfl)) ?_
     refine wl_nil ?_
     refine then_n (hK7 _ _ ?_); clear hK7 K7
     refine wp_seq_k ?_; intro K8 hK8
     refine wlit ?_
     refine wl_v (x_loadA (cs := [_, _, _, _]) Try.underlying54 rfl ts_54 (tmP rfl rfl) (rangeB hS.ok 1 rfl rfl)) ?_
     refine wl_v (x_move (tmS rfl rfl)) ?_
     refine wl_e rfl ?_; intro K hK
     refine ow_call Try.func95 rfl rfl (evs_cons (tmA rfl rfl) <| evs_cons (tmS rfl rfl) <| evs_cons (ev_cN 0) <| evs_cons (ev_cN 4) <| evs_nil) (cput_c small true most link _ (0 + 4 + 2 + 2) _ _ 0 4 _ _ (hS.enter [0] [] rfl rfl) (by omega) (by omega) (by omega)) ?_
     rintro e w ⟨A4, c4, rfl, hS2⟩
     refine ⟨_, rfl, ?_⟩
     replace hS := hS.turn 0 rfl rfl hS2 rfl
     clear hS2
     try replace hS := St.nm (M' := [.row _ _ _ _ _, .blk _ _ [_, _, _, _], _]) hS rfl
     refine hK _ _ ?_; clear hK K
     refine wl_v (x_assign (tmS rfl rfl)) ?_
     refine wl_nil ?_
     refine then_n (hK8 _ _ ?_); clear hK8 K8
     refine wp_seq_k ?_; intro K9 hK9
     refine wlit ?_
     refine wl_v (x_loadA (cs := [_, _, _, _]) Try.underlying54 rfl ts_54 (tmP rfl rfl) (rangeB hS.ok 1 rfl rfl)) ?_
     refine wl_v (x_move (tmS rfl rfl)) ?_
     refine wl_e rfl ?_; intro K hK
     refine ow_call Try.func95 rfl rfl (evs_cons (tmA rfl rfl) <| evs_cons (tmS rfl rfl) <| evs_cons (ev_cN 0) <| evs_cons (ev_cN 4) <| evs_nil) (cput_c small true most link _ (0 + 4 + 2 + 2 + 4) _ _ 0 4 _ _ (hS.enter [0] [] rfl rfl) (by omega) (by omega) (by omega)) ?_
     rintro e w ⟨A5, c5, rfl, hS2⟩
     refine ⟨_, rfl, ?_⟩
     replace hS := hS.turn 0 rfl rfl hS2 rfl
     clear hS2
     try replace hS := St.nm (M' := [.row _ _ _ _ _, .blk _ _ [_, _, _, _], _]) hS rfl
     refine hK _ _ ?_; clear hK K
     refine wl_v (x_assign (tmS rfl rfl)) ?_
     refine wl_nil ?_
     refine then_n (hK9 _ _ ?_); clear hK9 K9
     refine wp_seq_k ?_; intro K10 hK10
     refine wlit ?_
     refine wl_v (x_loadA (cs := [_, _, _, _]) Try.underlying54 rfl ts_54 (tmP rfl rfl) (rangeB hS.ok 1 rfl rfl)) ?_
     refine wl_v (x_move (tmS rfl rfl)) ?_
     refine wl_v (x_fa 2 Try.underlying54 rfl rfl ts_49 (tmP rfl rfl)) ?_
     first
      | refine wl_v (x_load Try.underlying49 rfl (tmP rfl rfl) (cellB hS.ok 1 rfl rfl)) ?_
      | refine wl_v (x_load Try.underlying49 rfl (tmP rfl rfl) (cellB hS.ok 1 rfl (getm (by omega)))) ?_
     first
      | refine wl_v (x_convN Try.underlying49 Try.underlying24 (tmI rfl rfl) (fit_u64 (by omega))) ?_
      | refine wl_v (x_convU Try.underlying49 Try.underlying24 (tmI rfl rfl) rfl) ?_
      | refine wl_v (x_conv Try.underlying49 Try.underlying24 (tmI rfl rfl)) ?_
     refine wl_e rfl ?_; intro K hK
     refine ow_call Try.func95 rfl rfl (evs_cons (tmA rfl rfl) <| evs_cons (tmS rfl rfl) <| evs_cons (tmI rfl rfl) <| evs_cons (ev_cN 4) <| evs_nil) (cput_c small true most link _ (0 + 4 + 2 + 2 + 4 + 4) _ _ most 4 _ _ (hS.enter [0] [] rfl rfl) (by omega) (by omega) (by omega)) ?_
     rintro e w ⟨A6, c6, rfl, hS2⟩
     refine ⟨_, rfl, ?_⟩
     replace hS := hS.turn 0 rfl rfl hS2 rfl
     clear hS2
     try replace hS := St.nm (M' := [.row _ _ _ _ _, .blk _ _ [_, _, _, _], _]) hS rfl
     refine hK _ _ ?_; clear hK K
     refine wl_v (x_assign (tmS rfl rfl)) ?_
     refine wl_nil ?_
     refine then_n (hK10 _ _ ?_); clear hK10 K10
     refine wp_seq_k ?_; intro K11 hK11
     refine wlit ?_
     refine wl_v (x_loadA (cs := [_, _, _, _]) Try.underlying54 rfl ts_54 (tmP rfl rfl) (rangeB hS.ok 1 rfl rfl)) ?_
     refine wl_v (x_move (tmS rfl rfl)) ?_
     refine wl_v (x_fa 3 Try.underlying54 rfl rfl ts_49 (tmP rfl rfl)) ?_
     first
      | refine wl_v (x_load Try.underlying49 rfl (tmP rfl rfl) (cellB hS.ok 1 rfl rfl)) ?_
      | refine wl_v (x_load Try.underlying49 rfl (tmP rfl rfl) (cellB hS.ok 1 rfl (getm (by omega)))) ?_
     first
      | refine wl_v (x_convN Try.underlying49 Try.underlying24 (tmI rfl rfl) (fit_u64 (by omega))) ?_
      | refine wl_v (x_convU Try.underlying49 Try.underlying24 (tmI rfl rfl) rfl) ?_
      | refine wl_v (x_conv Try.underlying49 Try.underlying24 (tmI rfl rfl)) ?_
     refine wl_e rfl ?_; intro K hK
     refine ow_call Try.func95 rfl rfl (evs_cons (tmA rfl rfl) <| evs_cons (tmS rfl rfl) <| evs_cons (tmI rfl rfl) <| evs_cons (ev_cN 4) <| evs_nil) (cput_c small true most link _ (0 + 4 + 2 + 2 + 4 + 4 + 4) _ _ link 4 _ _ (hS.enter [0] [] rfl rfl) (by omega) (by omega) (by omega)) ?_
     rintro e w ⟨A7, c7, rfl, hS2⟩
     refine ⟨_, rfl, ?_⟩
     replace hS := hS.turn 0 rfl rfl hS2 rfl
     clear hS2
     try replace hS := St.nm (M' := [.row _ _ _ _ _, .blk _ _ [_, _, _, _], _]) hS rfl
     refine hK _ _ ?_; clear hK K
     refine wl_v (x_assign (tmS rfl rfl)) ?_
     refine wl_nil ?_
     refine then_n (hK11 _ _ ?_); clear hK11 K11
     refine wp_ret ?_
     refine ret1 rfl (.tmp rfl (show _ = Value.slice _ _ _ from rfl)) ?_
     exact ⟨A7, c7, rfl, hS.new 0 rfl rfl, hS.kp⟩
def capR (nano : Bool) (most part len n : Nat) : Prop := part < cond nano 1000000000 1000000 ∧ n ≤ most ∧ n ≤ len
instance (nano : Bool) (most part len n : Nat) : Decidable (capR nano most part len n) := by unfold capR; exact inferInstance
set_option maxRecDepth 100000 in
set_option maxHeartbeats 4000000 in
theorem cap_right_c (small nano : Bool) (most link sec part len : Nat) (D : Option Addr) (n c : Nat) (w0 : World) (hn : n ≤ 1000000) (h1 : most ≤ 4294967295) (h2 : len ≤ 4294967295) :
    Calls Try.prog 31 #[.agg (cfV small nano most link).toArray, .agg (cpV sec part len D n c).toArray] w0 fun e w' => e = .returned (.bool (decide (capR nano most part len n))) ∧ Kp [] w0 w' := by
  have hS := St.sv w0
  have hD : capR nano most part len n ↔ part < cond nano 1000000000 1000000 ∧ n ≤ most ∧ n ≤ len := Iff.rfl
  cases nano <;> simp only [cond] at hD
  · skip
    refine ent (n := 31) Try.func31 rfl rfl ?_
    refine wp_seq_k ?_; intro K1 hK1
    refine wlit ?_
    refine wl_e rfl ?_; intro K hK
    refine ow_box hS (tmA rfl rfl) rfl ?_
    clear hS; intro g0_0 w hg0_0 hS
    refine hK _ _ ?_; clear hK K
    refine wl_e rfl ?_; intro K hK
    refine ow_box hS (tmA rfl rfl) rfl ?_
    clear hS; intro g0_1 w hg0_1 hS
    refine hK _ _ ?_; clear hK K
    refine wl_v (x_assign ev_c) ?_
    refine wl_nil ?_
    refine then_n (hK1 _ _ ?_); clear hK1 K1
    refine wp_seq_k ?_; intro K2 hK2
    refine wlit ?_
    refine wl_v (x_assign (ev_cN 1000000)) ?_
    refine wl_nil ?_
    refine then_n (hK2 _ _ ?_); clear hK2 K2
    refine wp_seq_k ?_; intro K3 hK3
    refine wp_seq_k ?_; intro K4 hK4
    refine wlit ?_
    refine wl_v (x_fa 1 Try.underlying54 rfl rfl ts_4 (tmP rfl rfl)) ?_
    first
     | refine wl_v (x_load Try.underlying4 rfl (tmP rfl rfl) (cellB hS.ok 1 rfl rfl)) ?_
     | refine wl_v (x_load Try.underlying4 rfl (tmP rfl rfl) (cellB hS.ok 1 rfl (getm (by omega)))) ?_
    refine wl_nil ?_
    refine then_n (hK4 _ _ ?_); clear hK4 K4
    refine cnd (tm rfl) (fun hc0 => ?_) (fun hc0 => ?_)
    · exfalso
      simp at hc0
    try (exfalso; first | with_reducible exact absurd hc0 Bool.false_ne_true | with_reducible exact absurd hc0.symm Bool.false_ne_true | (simp only [nrm] at hc0; omega) | (simp at hc0; done))
    all_goals
     try simp only [nrm] at hc0
     refine wp_skip ?_
     refine then_n (hK3 _ _ ?_); clear hK3 K3
     refine wp_seq_k ?_; intro K5 hK5
     refine wlit ?_
     refine wl_v (x_fa 3 Try.underlying59 rfl rfl ts_22 (tmP rfl rfl)) ?_
     first
      | refine wl_v (x_load Try.underlying22 rfl (tmP rfl rfl) (cellB hS.ok 0 rfl rfl)) ?_
      | refine wl_v (x_load Try.underlying22 rfl (tmP rfl rfl) (cellB hS.ok 0 rfl (getm (by omega)))) ?_
     refine wl_v (x_len Try.underlying22 (tmS rfl rfl)) ?_
     first
      | refine wl_v (x_convN Try.underlying3 Try.underlying24 (tmI rfl rfl) (fit_u64 (by omega))) ?_
      | refine wl_v (x_convU Try.underlying3 Try.underlying24 (tmI rfl rfl) rfl) ?_
      | refine wl_v (x_conv Try.underlying3 Try.underlying24 (tmI rfl rfl)) ?_
     refine wl_v (x_assign (tmI rfl rfl)) ?_
     refine wl_nil ?_
     refine then_n (hK5 _ _ ?_); clear hK5 K5
     refine wp_seq_k ?_; intro K6 hK6
     refine wlit ?_
     refine wl_v (x_fa 1 Try.underlying59 rfl rfl ts_49 (tmP rfl rfl)) ?_
     first
      | refine wl_v (x_load Try.underlying49 rfl (tmP rfl rfl) (cellB hS.ok 0 rfl rfl)) ?_
      | refine wl_v (x_load Try.underlying49 rfl (tmP rfl rfl) (cellB hS.ok 0 rfl (getm (by omega)))) ?_
     refine wl_v (x_move (tmI rfl rfl)) ?_
     refine wl_v (x_lss (tmI rfl rfl) (tmI rfl rfl)) ?_
     refine wl_v (x_move (tmB rfl rfl)) ?_
     refine gs_wl (tm (t := 17) rfl) (fun hg5_4 => ?_) (fun hg5_4 => ?_)
     · have hg5_4' := hg5_4; (try simp only [nrm] at hg5_4'); try (exfalso; first | with_reducible exact absurd hg5_4 Bool.false_ne_true | with_reducible exact absurd hg5_4.symm Bool.false_ne_true | omega | (simp at hg5_4; done))
       all_goals
        refine wl_gv (want_y rfl rfl rfl rfl (by rw [hg5_4]; rfl)) (x_move (tmI rfl rfl)) ?_
        refine wl_gv (want_y rfl rfl rfl rfl (by rw [hg5_4]; rfl)) (x_fa 2 Try.underlying54 rfl rfl ts_49 (tmP rfl rfl)) ?_
        first
         | refine wl_gv (want_y rfl rfl rfl rfl (by rw [hg5_4]; rfl)) (x_load Try.underlying49 rfl (tmP rfl rfl) (cellB hS.ok 1 rfl rfl)) ?_
         | refine wl_gv (want_y rfl rfl rfl rfl (by rw [hg5_4]; rfl)) (x_load Try.underlying49 rfl (tmP rfl rfl) (cellB hS.ok 1 rfl (getm (by omega)))) ?_
        first
         | refine wl_gv (want_y rfl rfl rfl rfl (by rw [hg5_4]; rfl)) (x_convN Try.underlying49 Try.underlying24 (tmI rfl rfl) (fit_u64 (by omega))) ?_
         | refine wl_gv (want_y rfl rfl rfl rfl (by rw [hg5_4]; rfl)) (x_convU Try.underlying49 Try.underlying24 (tmI rfl rfl) rfl) ?_
         | refine wl_gv (want_y rfl rfl rfl rfl (by rw [hg5_4]; rfl)) (x_conv Try.underlying49 Try.underlying24 (tmI rfl rfl)) ?_
        refine wl_gv (want_y rfl rfl rfl rfl (by rw [hg5_4]; rfl)) (x_leq (tmI rfl rfl) (tmI rfl rfl)) ?_
        refine wl_v (x_pickT (tmB rfl rfl) hg5_4 (tmB rfl rfl)) ?_
        refine wl_v (x_move (tmB rfl rfl)) ?_
        refine gs_wl (tm (t := 24) rfl) (fun hg5_11 => ?_) (fun hg5_11 => ?_)
        · have hg5_11' := hg5_11; (try simp only [nrm] at hg5_11'); try (exfalso; first | with_reducible exact absurd hg5_11 Bool.false_ne_true | with_reducible exact absurd hg5_11.symm Bool.false_ne_true | omega | (simp at hg5_11; done))
          all_goals
           refine wl_gv (want_y rfl rfl rfl rfl (by rw [hg5_11]; rfl)) (x_move (tmI rfl rfl)) ?_
           refine wl_gv (want_y rfl rfl rfl rfl (by rw [hg5_11]; rfl)) (x_fa 2 Try.underlying59 rfl rfl ts_49 (tmP rfl rfl)) ?_
           first
            | refine wl_gv (want_y rfl rfl rfl rfl (by rw [hg5_11]; rfl)) (x_load Try.underlying49 rfl (tmP rfl rfl) (cellB hS.ok 0 rfl rfl)) ?_
            | refine wl_gv (want_y rfl rfl rfl rfl (by rw [hg5_11]; rfl)) (x_load Try.underlying49 rfl (tmP rfl rfl) (cellB hS.ok 0 rfl (getm (by omega)))) ?_
           first
            | refine wl_gv (want_y rfl rfl rfl rfl (by rw [hg5_11]; rfl)) (x_convN Try.underlying49 Try.underlying24 (tmI rfl rfl) (fit_u64 (by omega))) ?_
            | refine wl_gv (want_y rfl rfl rfl rfl (by rw [hg5_11]; rfl)) (x_convU Try.underlying49 Try.underlying24 (tmI rfl rfl) rfl) ?_
            | refine wl_gv (want_y rfl rfl rfl rfl (by rw [hg5_11]; rfl)) (x_conv Try.underlying49 Try.underlying24 (tmI rfl rfl)) ?_
           refine wl_gv (want_y rfl rfl rfl rfl (by rw [hg5_11]; rfl)) (x_leq (tmI rfl rfl) (tmI rfl rfl)) ?_
           refine wl_v (x_pickT (tmB rfl rfl) hg5_11 (tmB rfl rfl)) ?_
           refine wl_v (x_assign (tmB rfl rfl)) ?_
           refine wl_nil ?_
           refine then_n (hK6 _ _ ?_); clear hK6 K6
           refine wp_ret ?_
           refine ret1 rfl (.tmp rfl (show _ = Value.bool _ from rfl)) ?_
           refine ⟨ret_bool ?_, hS.kp⟩
           first
             | exact (decide_eq_false (fun h => by rw [hD] at h; omega)).symm
             | (rw [decide_eq_decide, hD]; omega)
        have hg5_11' := hg5_11; (try simp only [nrm] at hg5_11'); try (exfalso; first | with_reducible exact absurd hg5_11 Bool.false_ne_true | with_reducible exact absurd hg5_11.symm Bool.false_ne_true | omega | (simp at hg5_11; done))
        all_goals
         refine wl_s rfl (want_n rfl rfl rfl rfl (by rw [hg5_11]; rfl)) ?_
         refine wl_s rfl (want_n rfl rfl rfl rfl (by rw [hg5_11]; rfl)) ?_
         refine wl_s rfl (want_n rfl rfl rfl rfl (by rw [hg5_11]; rfl)) ?_
         refine wl_s rfl (want_n rfl rfl rfl rfl (by rw [hg5_11]; rfl)) ?_
         refine wl_s rfl (want_n rfl rfl rfl rfl (by rw [hg5_11]; rfl)) ?_
         refine wl_v (x_pickF (tmB rfl rfl) hg5_11 ev_c) ?_
         refine wl_v (x_assign (tmB rfl rfl)) ?_
         refine wl_nil ?_
         refine then_n (hK6 _ _ ?_); clear hK6 K6
         refine wp_ret ?_
         refine ret1 rfl (.tmp rfl (show _ = Value.bool _ from rfl)) ?_
         refine ⟨ret_bool ?_, hS.kp⟩
         first
           | exact (decide_eq_false (fun h => by rw [hD] at h; omega)).symm
           | (rw [decide_eq_decide, hD]; omega)
     have hg5_4' := hg5_4; (try simp only [nrm] at hg5_4'); try (exfalso; first | with_reducible exact absurd hg5_4 Bool.false_ne_true | with_reducible exact absurd hg5_4.symm Bool.false_ne_true | omega | (simp at hg5_4; done))
     all_goals
      refine wl_s rfl (want_n rfl rfl rfl rfl (by rw [hg5_4]; rfl)) ?_
      refine wl_s rfl (want_n rfl rfl rfl rfl (by rw [hg5_4]; rfl)) ?_
      refine wl_s rfl (want_n rfl rfl rfl rfl (by rw [hg5_4]; rfl)) ?_
      refine wl_s rfl (want_n rfl rfl rfl rfl (by rw [hg5_4]; rfl)) ?_
      refine wl_s rfl (want_n rfl rfl rfl rfl (by rw [hg5_4]; rfl)) ?_
      refine wl_v (x_pickF (tmB rfl rfl) hg5_4 ev_c) ?_
      refine wl_v (x_move (tmB rfl rfl)) ?_
      refine wl_s rfl (want_n rfl rfl rfl rfl rfl) ?_
      refine wl_s rfl (want_n rfl rfl rfl rfl rfl) ?_
      refine wl_s rfl (want_n rfl rfl rfl rfl rfl) ?_
      refine wl_s rfl (want_n rfl rfl rfl rfl rfl) ?_
      refine wl_s rfl (want_n rfl rfl rfl rfl rfl) ?_
      refine wl_v (x_pickF (tmB rfl rfl) rfl ev_c) ?_
      refine wl_v (x_assign (tmB rfl rfl)) ?_
      refine wl_nil ?_
      refine then_n (hK6 _ _ ?_); clear hK6 K6
      refine wp_ret ?_
      refine ret1 rfl (.tmp rfl (show _ = Value.bool _ from rfl)) ?_
      refine ⟨ret_bool ?_, hS.kp⟩
      first
        | exact (decide_eq_false (fun h => by rw [hD] at h; omega)).symm
        | (rw [decide_eq_decide, hD]; omega)
  · skip
    refine ent (n := 31) Try.func31 rfl rfl ?_
    refine wp_seq_k ?_; intro K1 hK1
    refine wlit ?_
    refine wl_e rfl ?_; intro K hK
    refine ow_box hS (tmA rfl rfl) rfl ?_
    clear hS; intro g0_0 w hg0_0 hS
    refine hK _ _ ?_; clear hK K
    refine wl_e rfl ?_; intro K hK
    refine ow_box hS (tmA rfl rfl) rfl ?_
    clear hS; intro g0_1 w hg0_1 hS
    refine hK _ _ ?_; clear hK K
    refine wl_v (x_assign ev_c) ?_
    refine wl_nil ?_
    refine then_n (hK1 _ _ ?_); clear hK1 K1
    refine wp_seq_k ?_; intro K2 hK2
    refine wlit ?_
    refine wl_v (x_assign (ev_cN 1000000)) ?_
    refine wl_nil ?_
    refine then_n (hK2 _ _ ?_); clear hK2 K2
    refine wp_seq_k ?_; intro K3 hK3
    refine wp_seq_k ?_; intro K4 hK4
    refine wlit ?_
    refine wl_v (x_fa 1 Try.underlying54 rfl rfl ts_4 (tmP rfl rfl)) ?_
    first
     | refine wl_v (x_load Try.underlying4 rfl (tmP rfl rfl) (cellB hS.ok 1 rfl rfl)) ?_
     | refine wl_v (x_load Try.underlying4 rfl (tmP rfl rfl) (cellB hS.ok 1 rfl (getm (by omega)))) ?_
    refine wl_nil ?_
    refine then_n (hK4 _ _ ?_); clear hK4 K4
    refine cnds (tm rfl) (fun hc0 => ?_) (fun hc0 => ?_)
    · exfalso
      simp at hc0
    try (exfalso; first | with_reducible exact absurd hc0 Bool.false_ne_true | with_reducible exact absurd hc0.symm Bool.false_ne_true | (simp only [nrm] at hc0; omega) | (simp at hc0; done))
    all_goals
     try simp only [nrm] at hc0
     refine wlit ?_
     refine wl_v (x_assign (ev_cN 1000000000)) ?_
     refine wl_nil ?_
     refine then_n (hK3 _ _ ?_); clear hK3 K3
     refine wp_seq_k ?_; intro K5 hK5
     refine wlit ?_
     refine wl_v (x_fa 3 Try.underlying59 rfl rfl ts_22 (tmP rfl rfl)) ?_
     first
      | refine wl_v (x_load Try.underlying22 rfl (tmP rfl rfl) (cellB hS.ok 0 rfl rfl)) ?_
      | refine wl_v (x_load Try.underlying22 rfl (tmP rfl rfl) (cellB hS.ok 0 rfl (getm (by omega)))) ?_
     refine wl_v (x_len Try.underlying22 (tmS rfl rfl)) ?_
     first
      | refine wl_v (x_convN Try.underlying3 Try.underlying24 (tmI rfl rfl) (fit_u64 (by omega))) ?_
      | refine wl_v (x_convU Try.underlying3 Try.underlying24 (tmI rfl rfl) rfl) ?_
      | refine wl_v (x_conv Try.underlying3 Try.underlying24 (tmI rfl rfl)) ?_
     refine wl_v (x_assign (tmI rfl rfl)) ?_
     refine wl_nil ?_
     refine then_n (hK5 _ _ ?_); clear hK5 K5
     refine wp_seq_k ?_; intro K6 hK6
     refine wlit ?_
     refine wl_v (x_fa 1 Try.underlying59 rfl rfl ts_49 (tmP rfl rfl)) ?_
     first
      | refine wl_v (x_load Try.underlying49 rfl (tmP rfl rfl) (cellB hS.ok 0 rfl rfl)) ?_
      | refine wl_v (x_load Try.underlying49 rfl (tmP rfl rfl) (cellB hS.ok 0 rfl (getm (by omega)))) ?_
     refine wl_v (x_move (tmI rfl rfl)) ?_
     refine wl_v (x_lss (tmI rfl rfl) (tmI rfl rfl)) ?_
     refine wl_v (x_move (tmB rfl rfl)) ?_
     refine gs_wl (tm (t := 17) rfl) (fun hg5_4 => ?_) (fun hg5_4 => ?_)
     · have hg5_4' := hg5_4; (try simp only [nrm] at hg5_4'); try (exfalso; first | with_reducible exact absurd hg5_4 Bool.false_ne_true | with_reducible exact absurd hg5_4.symm Bool.false_ne_true | omega | (simp at hg5_4; done))
       all_goals
        refine wl_gv (want_y rfl rfl rfl rfl (by rw [hg5_4]; rfl)) (x_move (tmI rfl rfl)) ?_
        refine wl_gv (want_y rfl rfl rfl rfl (by rw [hg5_4]; rfl)) (x_fa 2 Try.underlying54 rfl rfl ts_49 (tmP rfl rfl)) ?_
        first
         | refine wl_gv (want_y rfl rfl rfl rfl (by rw [hg5_4]; rfl)) (x_load Try.underlying49 rfl (tmP rfl rfl) (cellB hS.ok 1 rfl rfl)) ?_
         | refine wl_gv (want_y rfl rfl rfl rfl (by rw [hg5_4]; rfl)) (x_load Try.underlying49 rfl (tmP rfl rfl) (cellB hS.ok 1 rfl (getm (by omega)))) ?_
        first
         | refine wl_gv (want_y rfl rfl rfl rfl (by rw [hg5_4]; rfl)) (x_convN Try.underlying49 Try.underlying24 (tmI rfl rfl) (fit_u64 (by omega))) ?_
         | refine wl_gv (want_y rfl rfl rfl rfl (by rw [hg5_4]; rfl)) (x_convU Try.underlying49 Try.underlying24 (tmI rfl rfl) rfl) ?_
         | refine wl_gv (want_y rfl rfl rfl rfl (by rw [hg5_4]; rfl)) (x_conv Try.underlying49 Try.underlying24 (tmI rfl rfl)) ?_
        refine wl_gv (want_y rfl rfl rfl rfl (by rw [hg5_4]; rfl)) (x_leq (tmI rfl rfl) (tmI rfl rfl)) ?_
        refine wl_v (x_pickT (tmB rfl rfl) hg5_4 (tmB rfl rfl)) ?_
        refine wl_v (x_move (tmB rfl rfl)) ?_
        refine gs_wl (tm (t := 24) rfl) (fun hg5_11 => ?_) (fun hg5_11 => ?_)
        · have hg5_11' := hg5_11; (try simp only [nrm] at hg5_11'); try (exfalso; first | with_reducible exact absurd hg5_11 Bool.false_ne_true | with_reducible exact absurd hg5_11.symm Bool.false_ne_true | omega | (simp at hg5_11; done))
          all_goals
           refine wl_gv (want_y rfl rfl rfl rfl (by rw [hg5_11]; rfl)) (x_move (tmI rfl rfl)) ?_
           refine wl_gv (want_y rfl rfl rfl rfl (by rw [hg5_11]; rfl)) (x_fa 2 Try.underlying59 rfl rfl ts_49 (tmP rfl rfl)) ?_
           first
            | refine wl_gv (want_y rfl rfl rfl rfl (by rw [hg5_11]; rfl)) (x_load Try.underlying49 rfl (tmP rfl rfl) (cellB hS.ok 0 rfl rfl)) ?_
            | refine wl_gv (want_y rfl rfl rfl rfl (by rw [hg5_11]; rfl)) (x_load Try.underlying49 rfl (tmP rfl rfl) (cellB hS.ok 0 rfl (getm (by omega)))) ?_
           first
            | refine wl_gv (want_y rfl rfl rfl rfl (by rw [hg5_11]; rfl)) (x_convN Try.underlying49 Try.underlying24 (tmI rfl rfl) (fit_u64 (by omega))) ?_
            | refine wl_gv (want_y rfl rfl rfl rfl (by rw [hg5_11]; rfl)) (x_convU Try.underlying49 Try.underlying24 (tmI rfl rfl) rfl) ?_
            | refine wl_gv (want_y rfl rfl rfl rfl (by rw [hg5_11]; rfl)) (x_conv Try.underlying49 Try.underlying24 (tmI rfl rfl)) ?_
           refine wl_gv (want_y rfl rfl rfl rfl (by rw [hg5_11]; rfl)) (x_leq (tmI rfl rfl) (tmI rfl rfl)) ?_
           refine wl_v (x_pickT (tmB rfl rfl) hg5_11 (tmB rfl rfl)) ?_
           refine wl_v (x_assign (tmB rfl rfl)) ?_
           refine wl_nil ?_
           refine then_n (hK6 _ _ ?_); clear hK6 K6
           refine wp_ret ?_
           refine ret1 rfl (.tmp rfl (show _ = Value.bool _ from rfl)) ?_
           refine ⟨ret_bool ?_, hS.kp⟩
           first
             | exact (decide_eq_false (fun h => by rw [hD] at h; omega)).symm
             | (rw [decide_eq_decide, hD]; omega)
        have hg5_11' := hg5_11; (try simp only [nrm] at hg5_11'); try (exfalso; first | with_reducible exact absurd hg5_11 Bool.false_ne_true | with_reducible exact absurd hg5_11.symm Bool.false_ne_true | omega | (simp at hg5_11; done))
        all_goals
         refine wl_s rfl (want_n rfl rfl rfl rfl (by rw [hg5_11]; rfl)) ?_
         refine wl_s rfl (want_n rfl rfl rfl rfl (by rw [hg5_11]; rfl)) ?_
         refine wl_s rfl (want_n rfl rfl rfl rfl (by rw [hg5_11]; rfl)) ?_
         refine wl_s rfl (want_n rfl rfl rfl rfl (by rw [hg5_11]; rfl)) ?_
         refine wl_s rfl (want_n rfl rfl rfl rfl (by rw [hg5_11]; rfl)) ?_
         refine wl_v (x_pickF (tmB rfl rfl) hg5_11 ev_c) ?_
         refine wl_v (x_assign (tmB rfl rfl)) ?_
         refine wl_nil ?_
         refine then_n (hK6 _ _ ?_); clear hK6 K6
         refine wp_ret ?_
         refine ret1 rfl (.tmp rfl (show _ = Value.bool _ from rfl)) ?_
         refine ⟨ret_bool ?_, hS.kp⟩
         first
           | exact (decide_eq_false (fun h => by rw [hD] at h; omega)).symm
           | (rw [decide_eq_decide, hD]; omega)
     have hg5_4' := hg5_4; (try simp only [nrm] at hg5_4'); try (exfalso; first | with_reducible exact absurd hg5_4 Bool.false_ne_true | with_reducible exact absurd hg5_4.symm Bool.false_ne_true | omega | (simp at hg5_4; done))
     all_goals
      refine wl_s rfl (want_n rfl rfl rfl rfl (by rw [hg5_4]; rfl)) ?_
      refine wl_s rfl (want_n rfl rfl rfl rfl (by rw [hg5_4]; rfl)) ?_
      refine wl_s rfl (want_n rfl rfl rfl rfl (by rw [hg5_4]; rfl)) ?_
      refine wl_s rfl (want_n rfl rfl rfl rfl (by rw [hg5_4]; rfl)) ?_
      refine wl_s rfl (want_n rfl rfl rfl rfl (by rw [hg5_4]; rfl)) ?_
      refine wl_v (x_pickF (tmB rfl rfl) hg5_4 ev_c) ?_
      refine wl_v (x_move (tmB rfl rfl)) ?_
      refine wl_s rfl (want_n rfl rfl rfl rfl rfl) ?_
      refine wl_s rfl (want_n rfl rfl rfl rfl rfl) ?_
      refine wl_s rfl (want_n rfl rfl rfl rfl rfl) ?_
      refine wl_s rfl (want_n rfl rfl rfl rfl rfl) ?_
      refine wl_s rfl (want_n rfl rfl rfl rfl rfl) ?_
      refine wl_v (x_pickF (tmB rfl rfl) rfl ev_c) ?_
      refine wl_v (x_assign (tmB rfl rfl)) ?_
      refine wl_nil ?_
      refine then_n (hK6 _ _ ?_); clear hK6 K6
      refine wp_ret ?_
      refine ret1 rfl (.tmp rfl (show _ = Value.bool _ from rfl)) ?_
      refine ⟨ret_bool ?_, hS.kp⟩
      first
        | exact (decide_eq_false (fun h => by rw [hD] at h; omega)).symm
        | (rw [decide_eq_decide, hD]; omega)
set_option maxRecDepth 100000 in
set_option maxHeartbeats 4000000 in
theorem rcap_right_c (small nano : Bool) (most link sec part len : Nat) (D : Option Addr) (n c : Nat) (w0 : World) (hn : n ≤ 1000000) (h1 : most ≤ 4294967295) (h2 : len ≤ 4294967295) :
    Calls Try.prog 33 #[.agg (cfV small nano most link).toArray, .agg (cpV sec part len D n c).toArray] w0 fun e w' => e = .returned (.bool (decide (capR nano most part len n))) ∧ Kp [] w0 w' := by
  have hS := St.sv w0
  have hD : capR nano most part len n ↔ part < cond nano 1000000000 1000000 ∧ n ≤ most ∧ n ≤ len := Iff.rfl
  cases nano <;> simp only [cond] at hD
  · skip
    refine ent (n := 30) Try.func33 rfl rfl ?_
    refine wp_seq_k ?_; intro K1 hK1
    refine wlit ?_
    refine wl_e rfl ?_; intro K hK
    refine ow_box hS (tmA rfl rfl) rfl ?_
    clear hS; intro g0_0 w hg0_0 hS
    refine hK _ _ ?_; clear hK K
    refine wl_e rfl ?_; intro K hK
    refine ow_box hS (tmA rfl rfl) rfl ?_
    clear hS; intro g0_1 w hg0_1 hS
    refine hK _ _ ?_; clear hK K
    refine wl_v (x_assign ev_c) ?_
    refine wl_nil ?_
    refine then_n (hK1 _ _ ?_); clear hK1 K1
    refine wp_seq_k ?_; intro K2 hK2
    refine wlit ?_
    refine wl_v (x_assign (ev_cN 1000000)) ?_
    refine wl_nil ?_
    refine then_n (hK2 _ _ ?_); clear hK2 K2
    refine wp_seq_k ?_; intro K3 hK3
    refine wp_seq_k ?_; intro K4 hK4
    refine wlit ?_
    refine wl_v (x_fa 1 Try.underlying51 rfl rfl ts_4 (tmP rfl rfl)) ?_
    first
     | refine wl_v (x_load Try.underlying4 rfl (tmP rfl rfl) (cellB hS.ok 1 rfl rfl)) ?_
     | refine wl_v (x_load Try.underlying4 rfl (tmP rfl rfl) (cellB hS.ok 1 rfl (getm (by omega)))) ?_
    refine wl_nil ?_
    refine then_n (hK4 _ _ ?_); clear hK4 K4
    refine cnd (tm rfl) (fun hc0 => ?_) (fun hc0 => ?_)
    · exfalso
      simp at hc0
    try (exfalso; first | with_reducible exact absurd hc0 Bool.false_ne_true | with_reducible exact absurd hc0.symm Bool.false_ne_true | (simp only [nrm] at hc0; omega) | (simp at hc0; done))
    all_goals
     try simp only [nrm] at hc0
     refine wp_skip ?_
     refine then_n (hK3 _ _ ?_); clear hK3 K3
     refine wp_seq_k ?_; intro K5 hK5
     refine wlit ?_
     refine wl_v (x_fa 1 Try.underlying53 rfl rfl ts_49 (tmP rfl rfl)) ?_
     first
      | refine wl_v (x_load Try.underlying49 rfl (tmP rfl rfl) (cellB hS.ok 0 rfl rfl)) ?_
      | refine wl_v (x_load Try.underlying49 rfl (tmP rfl rfl) (cellB hS.ok 0 rfl (getm (by omega)))) ?_
     refine wl_v (x_move (tmI rfl rfl)) ?_
     refine wl_v (x_lss (tmI rfl rfl) (tmI rfl rfl)) ?_
     refine wl_v (x_move (tmB rfl rfl)) ?_
     refine gs_wl (tm (t := 12) rfl) (fun hg4_4 => ?_) (fun hg4_4 => ?_)
     · have hg4_4' := hg4_4; (try simp only [nrm] at hg4_4'); try (exfalso; first | with_reducible exact absurd hg4_4 Bool.false_ne_true | with_reducible exact absurd hg4_4.symm Bool.false_ne_true | omega | (simp at hg4_4; done))
       all_goals
        refine wl_gv (want_y rfl rfl rfl rfl (by rw [hg4_4]; rfl)) (x_fa 3 Try.underlying53 rfl rfl ts_22 (tmP rfl rfl)) ?_
        first
         | refine wl_gv (want_y rfl rfl rfl rfl (by rw [hg4_4]; rfl)) (x_load Try.underlying22 rfl (tmP rfl rfl) (cellB hS.ok 0 rfl rfl)) ?_
         | refine wl_gv (want_y rfl rfl rfl rfl (by rw [hg4_4]; rfl)) (x_load Try.underlying22 rfl (tmP rfl rfl) (cellB hS.ok 0 rfl (getm (by omega)))) ?_
        refine wl_gv (want_y rfl rfl rfl rfl (by rw [hg4_4]; rfl)) (x_len Try.underlying22 (tmS rfl rfl)) ?_
        refine wl_gv (want_y rfl rfl rfl rfl (by rw [hg4_4]; rfl)) (x_fa 2 Try.underlying51 rfl rfl ts_49 (tmP rfl rfl)) ?_
        first
         | refine wl_gv (want_y rfl rfl rfl rfl (by rw [hg4_4]; rfl)) (x_load Try.underlying49 rfl (tmP rfl rfl) (cellB hS.ok 1 rfl rfl)) ?_
         | refine wl_gv (want_y rfl rfl rfl rfl (by rw [hg4_4]; rfl)) (x_load Try.underlying49 rfl (tmP rfl rfl) (cellB hS.ok 1 rfl (getm (by omega)))) ?_
        first
         | refine wl_gv (want_y rfl rfl rfl rfl (by rw [hg4_4]; rfl)) (x_convN Try.underlying49 Try.underlying3 (tmI rfl rfl) (fit_i64 (by omega))) ?_
         | refine wl_gv (want_y rfl rfl rfl rfl (by rw [hg4_4]; rfl)) (x_conv Try.underlying49 Try.underlying3 (tmI rfl rfl)) ?_
        refine wl_gv (want_y rfl rfl rfl rfl (by rw [hg4_4]; rfl)) (x_leq (tmI rfl rfl) (tmI rfl rfl)) ?_
        refine wl_v (x_pickT (tmB rfl rfl) hg4_4 (tmB rfl rfl)) ?_
        refine wl_v (x_move (tmB rfl rfl)) ?_
        refine gs_wl (tm (t := 21) rfl) (fun hg4_13 => ?_) (fun hg4_13 => ?_)
        · have hg4_13' := hg4_13; (try simp only [nrm] at hg4_13'); try (exfalso; first | with_reducible exact absurd hg4_13 Bool.false_ne_true | with_reducible exact absurd hg4_13.symm Bool.false_ne_true | omega | (simp at hg4_13; done))
          all_goals
           refine wl_gv (want_y rfl rfl rfl rfl (by rw [hg4_13]; rfl)) (x_fa 3 Try.underlying53 rfl rfl ts_22 (tmP rfl rfl)) ?_
           first
            | refine wl_gv (want_y rfl rfl rfl rfl (by rw [hg4_13]; rfl)) (x_load Try.underlying22 rfl (tmP rfl rfl) (cellB hS.ok 0 rfl rfl)) ?_
            | refine wl_gv (want_y rfl rfl rfl rfl (by rw [hg4_13]; rfl)) (x_load Try.underlying22 rfl (tmP rfl rfl) (cellB hS.ok 0 rfl (getm (by omega)))) ?_
           refine wl_gv (want_y rfl rfl rfl rfl (by rw [hg4_13]; rfl)) (x_len Try.underlying22 (tmS rfl rfl)) ?_
           refine wl_gv (want_y rfl rfl rfl rfl (by rw [hg4_13]; rfl)) (x_fa 2 Try.underlying53 rfl rfl ts_49 (tmP rfl rfl)) ?_
           first
            | refine wl_gv (want_y rfl rfl rfl rfl (by rw [hg4_13]; rfl)) (x_load Try.underlying49 rfl (tmP rfl rfl) (cellB hS.ok 0 rfl rfl)) ?_
            | refine wl_gv (want_y rfl rfl rfl rfl (by rw [hg4_13]; rfl)) (x_load Try.underlying49 rfl (tmP rfl rfl) (cellB hS.ok 0 rfl (getm (by omega)))) ?_
           first
            | refine wl_gv (want_y rfl rfl rfl rfl (by rw [hg4_13]; rfl)) (x_convN Try.underlying49 Try.underlying3 (tmI rfl rfl) (fit_i64 (by omega))) ?_
            | refine wl_gv (want_y rfl rfl rfl rfl (by rw [hg4_13]; rfl)) (x_conv Try.underlying49 Try.underlying3 (tmI rfl rfl)) ?_
           refine wl_gv (want_y rfl rfl rfl rfl (by rw [hg4_13]; rfl)) (x_leq (tmI rfl rfl) (tmI rfl rfl)) ?_
           refine wl_v (x_pickT (tmB rfl rfl) hg4_13 (tmB rfl rfl)) ?_
           refine wl_v (x_assign (tmB rfl rfl)) ?_
           refine wl_nil ?_
           refine then_n (hK5 _ _ ?_); clear hK5 K5
           refine wp_ret ?_
           refine ret1 rfl (.tmp rfl (show _ = Value.bool _ from rfl)) ?_
           refine ⟨ret_bool ?_, hS.kp⟩
           first
             | exact (decide_eq_false (fun h => by rw [hD] at h; omega)).symm
             | (rw [decide_eq_decide, hD]; omega)
        have hg4_13' := hg4_13; (try simp only [nrm] at hg4_13'); try (exfalso; first | with_reducible exact absurd hg4_13 Bool.false_ne_true | with_reducible exact absurd hg4_13.symm Bool.false_ne_true | omega | (simp at hg4_13; done))
        all_goals
         refine wl_s rfl (want_n rfl rfl rfl rfl (by rw [hg4_13]; rfl)) ?_
         refine wl_s rfl (want_n rfl rfl rfl rfl (by rw [hg4_13]; rfl)) ?_
         refine wl_s rfl (want_n rfl rfl rfl rfl (by rw [hg4_13]; rfl)) ?_
         refine wl_s rfl (want_n rfl rfl rfl rfl (by rw [hg4_13]; rfl)) ?_
         refine wl_s rfl (want_n rfl rfl rfl rfl (by rw [hg4_13]; rfl)) ?_
         refine wl_s rfl (want_n rfl rfl rfl rfl (by rw [hg4_13]; rfl)) ?_
         refine wl_s rfl (want_n rfl rfl rfl rfl (by rw [hg4_13]; rfl)) ?_
         refine wl_v (x_pickF (tmB rfl rfl) hg4_13 ev_c) ?_
         refine wl_v (x_assign (tmB rfl rfl)) ?_
         refine wl_nil ?_
         refine then_n (hK5 _ _ ?_); clear hK5 K5
         refine wp_ret ?_
         refine ret1 rfl (.tmp rfl (show _ = Value.bool _ from rfl)) ?_
         refine ⟨ret_bool ?_, hS.kp⟩
         first
           | exact (decide_eq_false (fun h => by rw [hD] at h; omega)).symm
           | (rw [decide_eq_decide, hD]; omega)
     have hg4_4' := hg4_4; (try simp only [nrm] at hg4_4'); try (exfalso; first | with_reducible exact absurd hg4_4 Bool.false_ne_true | with_reducible exact absurd hg4_4.symm Bool.false_ne_true | omega | (simp at hg4_4; done))
     all_goals
      refine wl_s rfl (want_n rfl rfl rfl rfl (by rw [hg4_4]; rfl)) ?_
      refine wl_s rfl (want_n rfl rfl rfl rfl (by rw [hg4_4]; rfl)) ?_
      refine wl_s rfl (want_n rfl rfl rfl rfl (by rw [hg4_4]; rfl)) ?_
      refine wl_s rfl (want_n rfl rfl rfl rfl (by rw [hg4_4]; rfl)) ?_
      refine wl_s rfl (want_n rfl rfl rfl rfl (by rw [hg4_4]; rfl)) ?_
      refine wl_s rfl (want_n rfl rfl rfl rfl (by rw [hg4_4]; rfl)) ?_
      refine wl_s rfl (want_n rfl rfl rfl rfl (by rw [hg4_4]; rfl)) ?_
      refine wl_v (x_pickF (tmB rfl rfl) hg4_4 ev_c) ?_
      refine wl_v (x_move (tmB rfl rfl)) ?_
      refine wl_s rfl (want_n rfl rfl rfl rfl rfl) ?_
      refine wl_s rfl (want_n rfl rfl rfl rfl rfl) ?_
      refine wl_s rfl (want_n rfl rfl rfl rfl rfl) ?_
      refine wl_s rfl (want_n rfl rfl rfl rfl rfl) ?_
      refine wl_s rfl (want_n rfl rfl rfl rfl rfl) ?_
      refine wl_s rfl (want_n rfl rfl rfl rfl rfl) ?_
      refine wl_s rfl (want_n rfl rfl rfl rfl rfl) ?_
      refine wl_v (x_pickF (tmB rfl rfl) rfl ev_c) ?_
      refine wl_v (x_assign (tmB rfl rfl)) ?_
      refine wl_nil ?_
      refine then_n (hK5 _ _ ?_); clear hK5 K5
      refine wp_ret ?_
      refine ret1 rfl (.tmp rfl (show _ = Value.bool _ from rfl)) ?_
      refine ⟨ret_bool ?_, hS.kp⟩
      first
        | exact (decide_eq_false (fun h => by rw [hD] at h; omega)).symm
        | (rw [decide_eq_decide, hD]; omega)
  · skip
    refine ent (n := 30) Try.func33 rfl rfl ?_
    refine wp_seq_k ?_; intro K1 hK1
    refine wlit ?_
    refine wl_e rfl ?_; intro K hK
    refine ow_box hS (tmA rfl rfl) rfl ?_
    clear hS; intro g0_0 w hg0_0 hS
    refine hK _ _ ?_; clear hK K
    refine wl_e rfl ?_; intro K hK
    refine ow_box hS (tmA rfl rfl) rfl ?_
    clear hS; intro g0_1 w hg0_1 hS
    refine hK _ _ ?_; clear hK K
    refine wl_v (x_assign ev_c) ?_
    refine wl_nil ?_
    refine then_n (hK1 _ _ ?_); clear hK1 K1
    refine wp_seq_k ?_; intro K2 hK2
    refine wlit ?_
    refine wl_v (x_assign (ev_cN 1000000)) ?_
    refine wl_nil ?_
    refine then_n (hK2 _ _ ?_); clear hK2 K2
    refine wp_seq_k ?_; intro K3 hK3
    refine wp_seq_k ?_; intro K4 hK4
    refine wlit ?_
    refine wl_v (x_fa 1 Try.underlying51 rfl rfl ts_4 (tmP rfl rfl)) ?_
    first
     | refine wl_v (x_load Try.underlying4 rfl (tmP rfl rfl) (cellB hS.ok 1 rfl rfl)) ?_
     | refine wl_v (x_load Try.underlying4 rfl (tmP rfl rfl) (cellB hS.ok 1 rfl (getm (by omega)))) ?_
    refine wl_nil ?_
    refine then_n (hK4 _ _ ?_); clear hK4 K4
    refine cnds (tm rfl) (fun hc0 => ?_) (fun hc0 => ?_)
    · exfalso
      simp at hc0
    try (exfalso; first | with_reducible exact absurd hc0 Bool.false_ne_true | with_reducible exact absurd hc0.symm Bool.false_ne_true | (simp only [nrm] at hc0; omega) | (simp at hc0; done))
    all_goals
     try simp only [nrm] at hc0
     refine wlit ?_
     refine wl_v (x_assign (ev_cN 1000000000)) ?_
     refine wl_nil ?_
     refine then_n (hK3 _ _ ?_); clear hK3 K3
     refine wp_seq_k ?_; intro K5 hK5
     refine wlit ?_
     refine wl_v (x_fa 1 Try.underlying53 rfl rfl ts_49 (tmP rfl rfl)) ?_
     first
      | refine wl_v (x_load Try.underlying49 rfl (tmP rfl rfl) (cellB hS.ok 0 rfl rfl)) ?_
      | refine wl_v (x_load Try.underlying49 rfl (tmP rfl rfl) (cellB hS.ok 0 rfl (getm (by omega)))) ?_
     refine wl_v (x_move (tmI rfl rfl)) ?_
     refine wl_v (x_lss (tmI rfl rfl) (tmI rfl rfl)) ?_
     refine wl_v (x_move (tmB rfl rfl)) ?_
     refine gs_wl (tm (t := 12) rfl) (fun hg4_4 => ?_) (fun hg4_4 => ?_)
     · have hg4_4' := hg4_4; (try simp only [nrm] at hg4_4'); try (exfalso; first | with_reducible exact absurd hg4_4 Bool.false_ne_true | with_reducible exact absurd hg4_4.symm Bool.false_ne_true | omega | (simp at hg4_4; done))
       all_goals
        refine wl_gv (want_y rfl rfl rfl rfl (by rw [hg4_4]; rfl)) (x_fa 3 Try.underlying53 rfl rfl ts_22 (tmP rfl rfl)) ?_
        first
         | refine wl_gv (want_y rfl rfl rfl rfl (by rw [hg4_4]; rfl)) (x_load Try.underlying22 rfl (tmP rfl rfl) (cellB hS.ok 0 rfl rfl)) ?_
         | refine wl_gv (want_y rfl rfl rfl rfl (by rw [hg4_4]; rfl)) (x_load Try.underlying22 rfl (tmP rfl rfl) (cellB hS.ok 0 rfl (getm (by omega)))) ?_
        refine wl_gv (want_y rfl rfl rfl rfl (by rw [hg4_4]; rfl)) (x_len Try.underlying22 (tmS rfl rfl)) ?_
        refine wl_gv (want_y rfl rfl rfl rfl (by rw [hg4_4]; rfl)) (x_fa 2 Try.underlying51 rfl rfl ts_49 (tmP rfl rfl)) ?_
        first
         | refine wl_gv (want_y rfl rfl rfl rfl (by rw [hg4_4]; rfl)) (x_load Try.underlying49 rfl (tmP rfl rfl) (cellB hS.ok 1 rfl rfl)) ?_
         | refine wl_gv (want_y rfl rfl rfl rfl (by rw [hg4_4]; rfl)) (x_load Try.underlying49 rfl (tmP rfl rfl) (cellB hS.ok 1 rfl (getm (by omega)))) ?_
        first
         | refine wl_gv (want_y rfl rfl rfl rfl (by rw [hg4_4]; rfl)) (x_convN Try.underlying49 Try.underlying3 (tmI rfl rfl) (fit_i64 (by omega))) ?_
         | refine wl_gv (want_y rfl rfl rfl rfl (by rw [hg4_4]; rfl)) (x_conv Try.underlying49 Try.underlying3 (tmI rfl rfl)) ?_
        refine wl_gv (want_y rfl rfl rfl rfl (by rw [hg4_4]; rfl)) (x_leq (tmI rfl rfl) (tmI rfl rfl)) ?_
        refine wl_v (x_pickT (tmB rfl rfl) hg4_4 (tmB rfl rfl)) ?_
        refine wl_v (x_move (tmB rfl rfl)) ?_
        refine gs_wl (tm (t := 21) rfl) (fun hg4_13 => ?_) (fun hg4_13 => ?_)
        · have hg4_13' := hg4_13; (try simp only [nrm] at hg4_13'); try (exfalso; first | with_reducible exact absurd hg4_13 Bool.false_ne_true | with_reducible exact absurd hg4_13.symm Bool.false_ne_true | omega | (simp at hg4_13; done))
          all_goals
           refine wl_gv (want_y rfl rfl rfl rfl (by rw [hg4_13]; rfl)) (x_fa 3 Try.underlying53 rfl rfl ts_22 (tmP rfl rfl)) ?_
           first
            | refine wl_gv (want_y rfl rfl rfl rfl (by rw [hg4_13]; rfl)) (x_load Try.underlying22 rfl (tmP rfl rfl) (cellB hS.ok 0 rfl rfl)) ?_
            | refine wl_gv (want_y rfl rfl rfl rfl (by rw [hg4_13]; rfl)) (x_load Try.underlying22 rfl (tmP rfl rfl) (cellB hS.ok 0 rfl (getm (by omega)))) ?_
           refine wl_gv (want_y rfl rfl rfl rfl (by rw [hg4_13]; rfl)) (x_len Try.underlying22 (tmS rfl rfl)) ?_
           refine wl_gv (want_y rfl rfl rfl rfl (by rw [hg4_13]; rfl)) (x_fa 2 Try.underlying53 rfl rfl ts_49 (tmP rfl rfl)) ?_
           first
            | refine wl_gv (want_y rfl rfl rfl rfl (by rw [hg4_13]; rfl)) (x_load Try.underlying49 rfl (tmP rfl rfl) (cellB hS.ok 0 rfl rfl)) ?_
            | refine wl_gv (want_y rfl rfl rfl rfl (by rw [hg4_13]; rfl)) (x_load Try.underlying49 rfl (tmP rfl rfl) (cellB hS.ok 0 rfl (getm (by omega)))) ?_
           first
            | refine wl_gv (want_y rfl rfl rfl rfl (by rw [hg4_13]; rfl)) (x_convN Try.underlying49 Try.underlying3 (tmI rfl rfl) (fit_i64 (by omega))) ?_
            | refine wl_gv (want_y rfl rfl rfl rfl (by rw [hg4_13]; rfl)) (x_conv Try.underlying49 Try.underlying3 (tmI rfl rfl)) ?_
           refine wl_gv (want_y rfl rfl rfl rfl (by rw [hg4_13]; rfl)) (x_leq (tmI rfl rfl) (tmI rfl rfl)) ?_
           refine wl_v (x_pickT (tmB rfl rfl) hg4_13 (tmB rfl rfl)) ?_
           refine wl_v (x_assign (tmB rfl rfl)) ?_
           refine wl_nil ?_
           refine then_n (hK5 _ _ ?_); clear hK5 K5
           refine wp_ret ?_
           refine ret1 rfl (.tmp rfl (show _ = Value.bool _ from rfl)) ?_
           refine ⟨ret_bool ?_, hS.kp⟩
           first
             | exact (decide_eq_false (fun h => by rw [hD] at h; omega)).symm
             | (rw [decide_eq_decide, hD]; omega)
        have hg4_13' := hg4_13; (try simp only [nrm] at hg4_13'); try (exfalso; first | with_reducible exact absurd hg4_13 Bool.false_ne_true | with_reducible exact absurd hg4_13.symm Bool.false_ne_true | omega | (simp at hg4_13; done))
        all_goals
         refine wl_s rfl (want_n rfl rfl rfl rfl (by rw [hg4_13]; rfl)) ?_
         refine wl_s rfl (want_n rfl rfl rfl rfl (by rw [hg4_13]; rfl)) ?_
         refine wl_s rfl (want_n rfl rfl rfl rfl (by rw [hg4_13]; rfl)) ?_
         refine wl_s rfl (want_n rfl rfl rfl rfl (by rw [hg4_13]; rfl)) ?_
         refine wl_s rfl (want_n rfl rfl rfl rfl (by rw [hg4_13]; rfl)) ?_
         refine wl_s rfl (want_n rfl rfl rfl rfl (by rw [hg4_13]; rfl)) ?_
         refine wl_s rfl (want_n rfl rfl rfl rfl (by rw [hg4_13]; rfl)) ?_
         refine wl_v (x_pickF (tmB rfl rfl) hg4_13 ev_c) ?_
         refine wl_v (x_assign (tmB rfl rfl)) ?_
         refine wl_nil ?_
         refine then_n (hK5 _ _ ?_); clear hK5 K5
         refine wp_ret ?_
         refine ret1 rfl (.tmp rfl (show _ = Value.bool _ from rfl)) ?_
         refine ⟨ret_bool ?_, hS.kp⟩
         first
           | exact (decide_eq_false (fun h => by rw [hD] at h; omega)).symm
           | (rw [decide_eq_decide, hD]; omega)
     have hg4_4' := hg4_4; (try simp only [nrm] at hg4_4'); try (exfalso; first | with_reducible exact absurd hg4_4 Bool.false_ne_true | with_reducible exact absurd hg4_4.symm Bool.false_ne_true | omega | (simp at hg4_4; done))
     all_goals
      refine wl_s rfl (want_n rfl rfl rfl rfl (by rw [hg4_4]; rfl)) ?_
      refine wl_s rfl (want_n rfl rfl rfl rfl (by rw [hg4_4]; rfl)) ?_
      refine wl_s rfl (want_n rfl rfl rfl rfl (by rw [hg4_4]; rfl)) ?_
      refine wl_s rfl (want_n rfl rfl rfl rfl (by rw [hg4_4]; rfl)) ?_
      refine wl_s rfl (want_n rfl rfl rfl rfl (by rw [hg4_4]; rfl)) ?_
      refine wl_s rfl (want_n rfl rfl rfl rfl (by rw [hg4_4]; rfl)) ?_
      refine wl_s rfl (want_n rfl rfl rfl rfl (by rw [hg4_4]; rfl)) ?_
      refine wl_v (x_pickF (tmB rfl rfl) hg4_4 ev_c) ?_
      refine wl_v (x_move (tmB rfl rfl)) ?_
      refine wl_s rfl (want_n rfl rfl rfl rfl rfl) ?_
      refine wl_s rfl (want_n rfl rfl rfl rfl rfl) ?_
      refine wl_s rfl (want_n rfl rfl rfl rfl rfl) ?_
      refine wl_s rfl (want_n rfl rfl rfl rfl rfl) ?_
      refine wl_s rfl (want_n rfl rfl rfl rfl rfl) ?_
      refine wl_s rfl (want_n rfl rfl rfl rfl rfl) ?_
      refine wl_s rfl (want_n rfl rfl rfl rfl rfl) ?_
      refine wl_v (x_pickF (tmB rfl rfl) rfl ev_c) ?_
      refine wl_v (x_assign (tmB rfl rfl)) ?_
      refine wl_nil ?_
      refine then_n (hK5 _ _ ?_); clear hK5 K5
      refine wp_ret ?_
      refine ret1 rfl (.tmp rfl (show _ = Value.bool _ from rfl)) ?_
      refine ⟨ret_bool ?_, hS.kp⟩
      first
        | exact (decide_eq_false (fun h => by rw [hD] at h; omega)).symm
        | (rw [decide_eq_decide, hD]; omega)
set_option maxRecDepth 100000 in
set_option maxHeartbeats 4000000 in
theorem cap_write_bad (small nano : Bool) (most link sec part len : Nat) (D : Option Addr) (n c : Nat) (w0 : World) (hn : n ≤ 1000000) (h1 : most ≤ 4294967295) (h2 : len ≤ 4294967295) (hr : ¬ capR nano most part len n) :
    Calls Try.prog 34 #[.agg (cfV small nano most link).toArray, .agg (cpV sec part len D n c).toArray] w0 fun e w' => e = .returned (.slice none 0 0) ∧ Kp [] w0 w' := by
  have hS := St.sv w0
  have hR := fun w => cap_right_c small nano most link sec part len D n c w hn h1 h2
  rw [decide_eq_false hr] at hR
  refine ent (n := 38) Try.func34 rfl rfl ?_
  refine wp_seq_k ?_; intro K1 hK1
  refine wlit ?_
  refine wl_e rfl ?_; intro K hK
  refine ow_box hS (tmA rfl rfl) rfl ?_
  clear hS; intro g0_0 w hg0_0 hS
  refine hK _ _ ?_; clear hK K
  refine wl_e rfl ?_; intro K hK
  refine ow_box hS (tmA rfl rfl) rfl ?_
  clear hS; intro g0_1 w hg0_1 hS
  refine hK _ _ ?_; clear hK K
  refine wl_v (x_assign ev_c) ?_
  refine wl_nil ?_
  refine then_n (hK1 _ _ ?_); clear hK1 K1
  refine wp_seq_k ?_; intro K2 hK2
  refine wp_seq_k ?_; intro K3 hK3
  refine wlit ?_
  refine wl_v (x_loadA (cs := [_, _, _, _]) Try.underlying54 rfl ts_54 (tmP rfl rfl) (rangeB hS.ok 1 rfl rfl)) ?_
  refine wl_v (x_loadA (cs := [_, _, _, _]) Try.underlying59 rfl ts_59 (tmP rfl rfl) (rangeB hS.ok 0 rfl rfl)) ?_
  refine wl_e rfl ?_; intro K hK
  refine ow_call Try.func31 rfl rfl (evs_cons (tmA rfl rfl) <| evs_cons (tmA rfl rfl) <| evs_nil) (hR _) ?_
  rintro e w ⟨rfl, hk⟩
  refine ⟨_, rfl, ?_⟩
  replace hS := hS.kept hk
  clear hk
  refine hK _ _ ?_; clear hK K
  refine wl_v (x_not (tmB rfl rfl)) ?_
  refine wl_nil ?_
  refine then_n (hK3 _ _ ?_); clear hK3 K3
  refine cnds (tm rfl) (fun hc0 => ?_) (fun hc0 => ?_)
  · exfalso
    simp at hc0
  try (exfalso; first | with_reducible exact absurd hc0 Bool.false_ne_true | with_reducible exact absurd hc0.symm Bool.false_ne_true | (simp only [nrm] at hc0; omega) | (simp at hc0; done))
  all_goals
   try simp only [nrm] at hc0
   refine wp_seq_k ?_; intro K4 hK4
   refine wlit ?_
   refine wl_v (x_assign ev_c) ?_
   refine wl_nil ?_
   refine then_n (hK4 _ _ ?_); clear hK4 K4
   refine wp_ret ?_
   refine then_r ?_
   refine ret1 rfl (.tmp rfl (show _ = Value.slice _ _ _ from rfl)) ?_
   exact ⟨rfl, hS.kp⟩
set_option maxRecDepth 100000 in
set_option maxHeartbeats 4000000 in
theorem cap_write_c (small nano : Bool) (most link sec part len : Nat) (D : Option Addr) (n c : Nat) (l : List Nat) (w0 : World) (hv : View w0 w0.heap.size D (l.map u8v)) (hl : l.length = n) (hn : n ≤ 1000000) (h1 : most ≤ 4294967295) (h2 : len ≤ 4294967295) (h3 : sec ≤ 4294967295) (h4 : part ≤ 4294967295) (hr : capR nano most part len n) :
    Calls Try.prog 34 #[.agg (cfV small nano most link).toArray, .agg (cpV sec part len D n c).toArray] w0 fun e w' => ∃ A m c', m = 16 + n ∧ e = .returned (.slice A m c') ∧ New w0 w' (.row (.slice A m c') 5 1 m ((capW small sec part len l).map u8v)) ∧ Kp [] w0 w' := by
  have hS := (St.sv w0).vcons rfl hv
  have hR := fun w => cap_right_c small nano most link sec part len D n c w hn h1 h2
  rw [decide_eq_true hr] at hR
  refine ent (n := 38) Try.func34 rfl rfl ?_
  refine wp_seq_k ?_; intro K1 hK1
  refine wlit ?_
  refine wl_e rfl ?_; intro K hK
  refine ow_box hS (tmA rfl rfl) rfl ?_
  clear hS; intro g0_0 w hg0_0 hS
  refine hK _ _ ?_; clear hK K
  refine wl_e rfl ?_; intro K hK
  refine ow_box hS (tmA rfl rfl) rfl ?_
  clear hS; intro g0_1 w hg0_1 hS
  refine hK _ _ ?_; clear hK K
  refine wl_v (x_assign ev_c) ?_
  refine wl_nil ?_
  refine then_n (hK1 _ _ ?_); clear hK1 K1
  refine wp_seq_k ?_; intro K2 hK2
  refine wp_seq_k ?_; intro K3 hK3
  refine wlit ?_
  refine wl_v (x_loadA (cs := [_, _, _, _]) Try.underlying54 rfl ts_54 (tmP rfl rfl) (rangeB hS.ok 1 rfl rfl)) ?_
  refine wl_v (x_loadA (cs := [_, _, _, _]) Try.underlying59 rfl ts_59 (tmP rfl rfl) (rangeB hS.ok 0 rfl rfl)) ?_
  refine wl_e rfl ?_; intro K hK
  refine ow_call Try.func31 rfl rfl (evs_cons (tmA rfl rfl) <| evs_cons (tmA rfl rfl) <| evs_nil) (hR _) ?_
  rintro e w ⟨rfl, hk⟩
  refine ⟨_, rfl, ?_⟩
  replace hS := hS.kept hk
  clear hk
  refine hK _ _ ?_; clear hK K
  refine wl_v (x_not (tmB rfl rfl)) ?_
  refine wl_nil ?_
  refine then_n (hK3 _ _ ?_); clear hK3 K3
  refine cnd (tm rfl) (fun hc0 => ?_) (fun hc0 => ?_)
  · exfalso
    simp at hc0
  try (exfalso; first | with_reducible exact absurd hc0 Bool.false_ne_true | with_reducible exact absurd hc0.symm Bool.false_ne_true | (simp only [nrm] at hc0; omega) | (simp at hc0; done))
  all_goals
   try simp only [nrm] at hc0
   refine wp_skip ?_
   refine then_n (hK2 _ _ ?_); clear hK2 K2
   refine wp_seq_k ?_; intro K4 hK4
   replace hS := hS.nilrow 5 1
   refine wlit ?_
   refine wl_v (x_loadA (cs := [_, _, _, _]) Try.underlying54 rfl ts_54 (tmP rfl rfl) (rangeB hS.ok 2 rfl rfl)) ?_
   refine wl_v (x_fa 0 Try.underlying59 rfl rfl ts_49 (tmP rfl rfl)) ?_
   first
    | refine wl_v (x_load Try.underlying49 rfl (tmP rfl rfl) (cellB hS.ok 1 rfl rfl)) ?_
    | refine wl_v (x_load Try.underlying49 rfl (tmP rfl rfl) (cellB hS.ok 1 rfl (getm (by omega)))) ?_
   first
    | refine wl_v (x_convN Try.underlying49 Try.underlying24 (tmI rfl rfl) (fit_u64 (by omega))) ?_
    | refine wl_v (x_convU Try.underlying49 Try.underlying24 (tmI rfl rfl) rfl) ?_
    | refine wl_v (x_conv Try.underlying49 Try.underlying24 (tmI rfl rfl)) ?_
   refine wl_e rfl ?_; intro K hK
   refine ow_call Try.func95 rfl rfl (evs_cons (tmA rfl rfl) <| evs_cons ev_c <| evs_cons (tmI rfl rfl) <| evs_cons (ev_cN 4) <| evs_nil) (cput_c small nano most link none 0 0 [] sec 4 _ _ (hS.enter [0] [] rfl rfl) (by omega) (by omega) (by omega)) ?_
   rintro e w ⟨A1, c1, rfl, hS2⟩
   refine ⟨_, rfl, ?_⟩
   replace hS := hS.turn 0 rfl rfl hS2 rfl
   clear hS2
   try replace hS := St.nm (M' := [.row _ _ _ _ _, .blk _ _ [_, _, _, _], .blk _ _ [_, _, _, _], .vw _ _]) hS rfl
   refine hK _ _ ?_; clear hK K
   refine wl_v (x_assign (tmS rfl rfl)) ?_
   refine wl_nil ?_
   refine then_n (hK4 _ _ ?_); clear hK4 K4
   refine wp_seq_k ?_; intro K5 hK5
   refine wlit ?_
   refine wl_v (x_loadA (cs := [_, _, _, _]) Try.underlying54 rfl ts_54 (tmP rfl rfl) (rangeB hS.ok 2 rfl rfl)) ?_
   refine wl_v (x_move (tmS rfl rfl)) ?_
   refine wl_v (x_fa 1 Try.underlying59 rfl rfl ts_49 (tmP rfl rfl)) ?_
   first
    | refine wl_v (x_load Try.underlying49 rfl (tmP rfl rfl) (cellB hS.ok 1 rfl rfl)) ?_
    | refine wl_v (x_load Try.underlying49 rfl (tmP rfl rfl) (cellB hS.ok 1 rfl (getm (by omega)))) ?_
   first
    | refine wl_v (x_convN Try.underlying49 Try.underlying24 (tmI rfl rfl) (fit_u64 (by omega))) ?_
    | refine wl_v (x_convU Try.underlying49 Try.underlying24 (tmI rfl rfl) rfl) ?_
    | refine wl_v (x_conv Try.underlying49 Try.underlying24 (tmI rfl rfl)) ?_
   refine wl_e rfl ?_; intro K hK
   refine ow_call Try.func95 rfl rfl (evs_cons (tmA rfl rfl) <| evs_cons (tmS rfl rfl) <| evs_cons (tmI rfl rfl) <| evs_cons (ev_cN 4) <| evs_nil) (cput_c small nano most link _ (0 + 4) _ _ part 4 _ _ (hS.enter [0] [] rfl rfl) (by omega) (by omega) (by omega)) ?_
   rintro e w ⟨A2, c2, rfl, hS2⟩
   refine ⟨_, rfl, ?_⟩
   replace hS := hS.turn 0 rfl rfl hS2 rfl
   clear hS2
   try replace hS := St.nm (M' := [.row _ _ _ _ _, .blk _ _ [_, _, _, _], .blk _ _ [_, _, _, _], .vw _ _]) hS rfl
   refine hK _ _ ?_; clear hK K
   refine wl_v (x_assign (tmS rfl rfl)) ?_
   refine wl_nil ?_
   refine then_n (hK5 _ _ ?_); clear hK5 K5
   refine wp_seq_k ?_; intro K6 hK6
   refine wlit ?_
   refine wl_v (x_loadA (cs := [_, _, _, _]) Try.underlying54 rfl ts_54 (tmP rfl rfl) (rangeB hS.ok 2 rfl rfl)) ?_
   refine wl_v (x_move (tmS rfl rfl)) ?_
   refine wl_v (x_fa 3 Try.underlying59 rfl rfl ts_22 (tmP rfl rfl)) ?_
   first
    | refine wl_v (x_load Try.underlying22 rfl (tmP rfl rfl) (cellB hS.ok 1 rfl rfl)) ?_
    | refine wl_v (x_load Try.underlying22 rfl (tmP rfl rfl) (cellB hS.ok 1 rfl (getm (by omega)))) ?_
   refine wl_v (x_len Try.underlying22 (tmS rfl rfl)) ?_
   first
    | refine wl_v (x_convN Try.underlying3 Try.underlying24 (tmI rfl rfl) (fit_u64 (by omega))) ?_
    | refine wl_v (x_convU Try.underlying3 Try.underlying24 (tmI rfl rfl) rfl) ?_
    | refine wl_v (x_conv Try.underlying3 Try.underlying24 (tmI rfl rfl)) ?_
   refine wl_e rfl ?_; intro K hK
   refine ow_call Try.func95 rfl rfl (evs_cons (tmA rfl rfl) <| evs_cons (tmS rfl rfl) <| evs_cons (tmI rfl rfl) <| evs_cons (ev_cN 4) <| evs_nil) (cput_c small nano most link _ (0 + 4 + 4) _ _ n 4 _ _ (hS.enter [0] [] rfl rfl) (by omega) (by omega) (by omega)) ?_
   rintro e w ⟨A3, c3, rfl, hS2⟩
   refine ⟨_, rfl, ?_⟩
   replace hS := hS.turn 0 rfl rfl hS2 rfl
   clear hS2
   try replace hS := St.nm (M' := [.row _ _ _ _ _, .blk _ _ [_, _, _, _], .blk _ _ [_, _, _, _], .vw _ _]) hS rfl
   refine hK _ _ ?_; clear hK K
   refine wl_v (x_assign (tmS rfl rfl)) ?_
   refine wl_nil ?_
   refine then_n (hK6 _ _ ?_); clear hK6 K6
   refine wp_seq_k ?_; intro K7 hK7
   refine wlit ?_
   refine wl_v (x_loadA (cs := [_, _, _, _]) Try.underlying54 rfl ts_54 (tmP rfl rfl) (rangeB hS.ok 2 rfl rfl)) ?_
   refine wl_v (x_move (tmS rfl rfl)) ?_
   refine wl_v (x_fa 2 Try.underlying59 rfl rfl ts_49 (tmP rfl rfl)) ?_
   first
    | refine wl_v (x_load Try.underlying49 rfl (tmP rfl rfl) (cellB hS.ok 1 rfl rfl)) ?_
    | refine wl_v (x_load Try.underlying49 rfl (tmP rfl rfl) (cellB hS.ok 1 rfl (getm (by omega)))) ?_
   first
    | refine wl_v (x_convN Try.underlying49 Try.underlying24 (tmI rfl rfl) (fit_u64 (by omega))) ?_
    | refine wl_v (x_convU Try.underlying49 Try.underlying24 (tmI rfl rfl) rfl) ?_
    | refine wl_v (x_conv Try.underlying49 Try.underlying24 (tmI rfl rfl)) ?_
   refine wl_e rfl ?_; intro K hK
   refine ow_call Try.func95 rfl rfl (evs_cons (tmA rfl rfl) <| evs_cons (tmS rfl rfl) <| evs_cons (tmI rfl rfl) <| evs_cons (ev_cN 4) <| evs_nil) (cput_c small nano most link _ (0 + 4 + 4 + 4) _ _ len 4 _ _ (hS.enter [0] [] rfl rfl) (by omega) (by omega) (by omega)) ?_
   rintro e w ⟨A4, c4, rfl, hS2⟩
   refine ⟨_, rfl, ?_⟩
   replace hS := hS.turn 0 rfl rfl hS2 rfl
   clear hS2
   try replace hS := St.nm (M' := [.row _ _ _ _ _, .blk _ _ [_, _, _, _], .blk _ _ [_, _, _, _], .vw _ _]) hS rfl
   refine hK _ _ ?_; clear hK K
   refine wl_v (x_assign (tmS rfl rfl)) ?_
   refine wl_nil ?_
   refine then_n (hK7 _ _ ?_); clear hK7 K7
   refine wp_seq_k ?_; intro K8 hK8
   refine wlit ?_
   refine wl_v (x_move (tmS rfl rfl)) ?_
   refine wl_v (x_fa 3 Try.underlying59 rfl rfl ts_22 (tmP rfl rfl)) ?_
   first
    | refine wl_v (x_load Try.underlying22 rfl (tmP rfl rfl) (cellB hS.ok 1 rfl rfl)) ?_
    | refine wl_v (x_load Try.underlying22 rfl (tmP rfl rfl) (cellB hS.ok 1 rfl (getm (by omega)))) ?_
   refine wl_e rfl ?_; intro K hK
   first
    | (refine ow_append hS 0 1 rfl rfl Try.underlying22 tz_5 rfl (tmS rfl rfl) (tmS rfl rfl) rfl ⟨by decide, by decide, rfl⟩ (by simp only [maxLen]; omega) (by omega) ?_; clear hS; intro g7_3 cg7_3 w hS)
    | (refine ow_append hS 0 2 rfl rfl Try.underlying22 tz_5 rfl (tmS rfl rfl) (tmS rfl rfl) rfl ⟨by decide, by decide, rfl⟩ (by simp only [maxLen]; omega) (by omega) ?_; clear hS; intro g7_3 cg7_3 w hS)
    | (refine ow_append hS 0 3 rfl rfl Try.underlying22 tz_5 rfl (tmS rfl rfl) (tmS rfl rfl) rfl ⟨by decide, by decide, rfl⟩ (by simp only [maxLen]; omega) (by omega) ?_; clear hS; intro g7_3 cg7_3 w hS)
    | (refine ow_appendV hS 0 rfl (viewR hS.ok 0 rfl) Try.underlying22 tz_5 rfl (tmS rfl rfl) (tmS rfl rfl) (by first | exact u8v_one _ | (intro u hu; simp at hu; first | (rcases hu with rfl | rfl <;> rfl) | (obtain ⟨_, _, rfl⟩ := hu; rfl))) ⟨by decide, by first | rfl | (simp; done) | (simp; omega)⟩ (by simp only [maxLen]; omega) (by omega) ?_; clear hS; intro g7_3 cg7_3 w hAg7_3 hCg7_3 hS)
    | (refine ow_appendV hS 0 rfl (viewV hS.ok 3 rfl) Try.underlying22 tz_5 rfl (tmS rfl rfl) (tmS rfl rfl) (by first | exact u8v_one _ | (intro u hu; simp at hu; first | (rcases hu with rfl | rfl <;> rfl) | (obtain ⟨_, _, rfl⟩ := hu; rfl))) ⟨by decide, by first | rfl | (simp; done) | (simp; omega)⟩ (by simp only [maxLen]; omega) (by omega) ?_; clear hS; intro g7_3 cg7_3 w hAg7_3 hCg7_3 hS)
    | (refine ow_appendV hS 0 rfl View.nil_ Try.underlying22 tz_5 rfl (tmS rfl rfl) (tmS rfl rfl) (by first | exact u8v_one _ | (intro u hu; simp at hu; first | (rcases hu with rfl | rfl <;> rfl) | (obtain ⟨_, _, rfl⟩ := hu; rfl))) ⟨by decide, by first | rfl | (simp; done) | (simp; omega)⟩ (by simp only [maxLen]; omega) (by omega) ?_; clear hS; intro g7_3 cg7_3 w hAg7_3 hCg7_3 hS)
   refine hK _ _ ?_; clear hK K
   refine wl_v (x_assign (tmS rfl rfl)) ?_
   refine wl_nil ?_
   refine then_n (hK8 _ _ ?_); clear hK8 K8
   refine wp_ret ?_
   refine ret1 rfl (.tmp rfl (show _ = Value.slice _ _ _ from rfl)) ?_
   have hx : ([] ++ cnum small sec 4 ++ cnum small part 4 ++ cnum small n 4 ++ cnum small len 4).map u8v ++ l.map u8v = (capW small sec part len l).map u8v := by rw [← List.map_append, ← hl]; rfl
   rw [hx] at hS
   exact ⟨_, _, _, rfl, rfl, hS.new 0 rfl rfl, hS.kp⟩
set_option maxRecDepth 100000 in
set_option maxHeartbeats 4000000 in
theorem rcap_write_c (small nano : Bool) (most link sec part len : Nat) (D : Option Addr) (n c : Nat) (l : List Nat) (w0 : World) (hv : View w0 w0.heap.size D (l.map u8v)) (hl : l.length = n) (hn : n ≤ 900000) (h1 : most ≤ 4294967295) (h2 : len ≤ 4294967295) (h3 : sec ≤ 4294967295) (h4 : part ≤ 4294967295) :
    Calls Try.prog 35 #[.agg (cfV small nano most link).toArray, .agg (cpV sec part len D n c).toArray] w0 fun e w' => ∃ A m c', m = 16 + n ∧ e = .returned (.slice A m c') ∧ New w0 w' (.row (.slice A m c') 5 1 m ((capW small sec part len l).map u8v)) ∧ Kp [] w0 w' := by
  have hS := (St.sv w0).vcons rfl hv
  have hjo : ∀ A1 c1 A2 c2 A3 c3 A4 c4, joined [(A1, cnum small sec 4, c1), (A2, cnum small part 4, c2), (A3, cnum small n 4, c3), (A4, cnum small len 4, c4), (D, l, c)] = capW small sec part len l := by
    intros
    simp [joined, capW, hl]
  have hjl := capW_len small sec part len l
  subst hl
  refine ent (n := 27) Try.func35 rfl rfl ?_
  refine wp_seq_k ?_; intro K1 hK1
  refine wlit ?_
  refine wl_e rfl ?_; intro K hK
  refine ow_box hS (tmA rfl rfl) rfl ?_
  clear hS; intro g0_0 w hg0_0 hS
  refine hK _ _ ?_; clear hK K
  refine wl_e rfl ?_; intro K hK
  refine ow_box hS (tmA rfl rfl) rfl ?_
  clear hS; intro g0_1 w hg0_1 hS
  refine hK _ _ ?_; clear hK K
  refine wl_v (x_assign ev_c) ?_
  refine wl_nil ?_
  refine then_n (hK1 _ _ ?_); clear hK1 K1
  refine wp_seq_k ?_; intro K2 hK2
  refine rg_startk 0 hS mixed_ ?_
  clear hS; intro w hS
  refine rg_take 0 rfl rfl (by kernel_rfl) (by kernel_rfl) (by kernel_rfl) (want_0) (fun w hok => x_loadA (cs := [_, _, _, _]) Try.underlying51 rfl ts_51 (tmP rfl rfl) (rangeB hok 1 rfl rfl)) ?_
  refine rg_take 1 rfl rfl (by kernel_rfl) (by kernel_rfl) (by kernel_rfl) (want_0) (fun w hok => x_fa 0 Try.underlying53 rfl rfl ts_49 (tmP rfl rfl)) ?_
  first
   | refine rg_take 2 rfl rfl (by kernel_rfl) (by kernel_rfl) (by kernel_rfl) (want_0) (fun w hok => x_load Try.underlying49 rfl (tmP rfl rfl) (cellB hok 0 rfl rfl)) ?_
   | refine rg_take 2 rfl rfl (by kernel_rfl) (by kernel_rfl) (by kernel_rfl) (want_0) (fun w hok => x_load Try.underlying49 rfl (tmP rfl rfl) (cellB hok 0 rfl (getm (by omega)))) ?_
  refine rg_take 4 rfl rfl (by kernel_rfl) (by kernel_rfl) (by kernel_rfl) (want_0) (fun w hok => x_loadA (cs := [_, _, _, _]) Try.underlying51 rfl ts_51 (tmP rfl rfl) (rangeB hok 1 rfl rfl)) ?_
  refine rg_take 5 rfl rfl (by kernel_rfl) (by kernel_rfl) (by kernel_rfl) (want_0) (fun w hok => x_fa 1 Try.underlying53 rfl rfl ts_49 (tmP rfl rfl)) ?_
  first
   | refine rg_take 6 rfl rfl (by kernel_rfl) (by kernel_rfl) (by kernel_rfl) (want_0) (fun w hok => x_load Try.underlying49 rfl (tmP rfl rfl) (cellB hok 0 rfl rfl)) ?_
   | refine rg_take 6 rfl rfl (by kernel_rfl) (by kernel_rfl) (by kernel_rfl) (want_0) (fun w hok => x_load Try.underlying49 rfl (tmP rfl rfl) (cellB hok 0 rfl (getm (by omega)))) ?_
  refine rg_take 8 rfl rfl (by kernel_rfl) (by kernel_rfl) (by kernel_rfl) (want_0) (fun w hok => x_loadA (cs := [_, _, _, _]) Try.underlying51 rfl ts_51 (tmP rfl rfl) (rangeB hok 1 rfl rfl)) ?_
  refine rg_take 9 rfl rfl (by kernel_rfl) (by kernel_rfl) (by kernel_rfl) (want_0) (fun w hok => x_fa 3 Try.underlying53 rfl rfl ts_22 (tmP rfl rfl)) ?_
  first
   | refine rg_take 10 rfl rfl (by kernel_rfl) (by kernel_rfl) (by kernel_rfl) (want_0) (fun w hok => x_load Try.underlying22 rfl (tmP rfl rfl) (cellB hok 0 rfl rfl)) ?_
   | refine rg_take 10 rfl rfl (by kernel_rfl) (by kernel_rfl) (by kernel_rfl) (want_0) (fun w hok => x_load Try.underlying22 rfl (tmP rfl rfl) (cellB hok 0 rfl (getm (by omega)))) ?_
  refine rg_take 11 rfl rfl (by kernel_rfl) (by kernel_rfl) (by kernel_rfl) (want_0) (fun w hok => x_len Try.underlying22 (tmS rfl rfl)) ?_
  first
   | refine rg_take 12 rfl rfl (by kernel_rfl) (by kernel_rfl) (by kernel_rfl) (want_0) (fun w hok => x_convN Try.underlying3 Try.underlying49 (tmI rfl rfl) (fit_u32 (by omega))) ?_
   | refine rg_take 12 rfl rfl (by kernel_rfl) (by kernel_rfl) (by kernel_rfl) (want_0) (fun w hok => x_convU Try.underlying3 Try.underlying49 (tmI rfl rfl) rfl) ?_
   | refine rg_take 12 rfl rfl (by kernel_rfl) (by kernel_rfl) (by kernel_rfl) (want_0) (fun w hok => x_conv Try.underlying3 Try.underlying49 (tmI rfl rfl)) ?_
  refine rg_take 14 rfl rfl (by kernel_rfl) (by kernel_rfl) (by kernel_rfl) (want_0) (fun w hok => x_loadA (cs := [_, _, _, _]) Try.underlying51 rfl ts_51 (tmP rfl rfl) (rangeB hok 1 rfl rfl)) ?_
  refine rg_take 15 rfl rfl (by kernel_rfl) (by kernel_rfl) (by kernel_rfl) (want_0) (fun w hok => x_fa 2 Try.underlying53 rfl rfl ts_49 (tmP rfl rfl)) ?_
  first
   | refine rg_take 16 rfl rfl (by kernel_rfl) (by kernel_rfl) (by kernel_rfl) (want_0) (fun w hok => x_load Try.underlying49 rfl (tmP rfl rfl) (cellB hok 0 rfl rfl)) ?_
   | refine rg_take 16 rfl rfl (by kernel_rfl) (by kernel_rfl) (by kernel_rfl) (want_0) (fun w hok => x_load Try.underlying49 rfl (tmP rfl rfl) (cellB hok 0 rfl (getm (by omega)))) ?_
  refine rg_take 18 rfl rfl (by kernel_rfl) (by kernel_rfl) (by kernel_rfl) (want_0) (fun w hok => x_fa 3 Try.underlying53 rfl rfl ts_22 (tmP rfl rfl)) ?_
  first
   | refine rg_take 19 rfl rfl (by kernel_rfl) (by kernel_rfl) (by kernel_rfl) (want_0) (fun w hok => x_load Try.underlying22 rfl (tmP rfl rfl) (cellB hok 0 rfl rfl)) ?_
   | refine rg_take 19 rfl rfl (by kernel_rfl) (by kernel_rfl) (by kernel_rfl) (want_0) (fun w hok => x_load Try.underlying22 rfl (tmP rfl rfl) (cellB hok 0 rfl (getm (by omega)))) ?_
  refine rg_step 3 rfl (by kernel_rfl) (want_0) (oks_drop hS 0 rfl) ?_; intro K hK
  refine ow_call Try.func97 rfl rfl (evs_cons (tmA rfl rfl) <| evs_cons (tmI rfl rfl) <| evs_cons (ev_cN 4) <| evs_nil) (rcnum_c small nano most link sec 4 _ (by omega) (by omega)) ?_
  rintro e w ⟨A1, c1, rfl, hn1, hk⟩
  refine ⟨_, rfl, ?_⟩
  replace hS := hS.add hk hn1 -- +rowa
  clear hn1 hk
  refine hK _ _ ?_; clear hK K
  refine rg_step 7 rfl (by kernel_rfl) (want_0) (oks_drop hS 1 rfl) ?_; intro K hK
  refine ow_call Try.func97 rfl rfl (evs_cons (tmA rfl rfl) <| evs_cons (tmI rfl rfl) <| evs_cons (ev_cN 4) <| evs_nil) (rcnum_c small nano most link part 4 _ (by omega) (by omega)) ?_
  rintro e w ⟨A2, c2, rfl, hn1, hk⟩
  refine ⟨_, rfl, ?_⟩
  replace hS := hS.add hk hn1 -- +rowb
  clear hn1 hk
  refine hK _ _ ?_; clear hK K
  refine rg_step 13 rfl (by kernel_rfl) (want_0) (oks_drop hS 2 rfl) ?_; intro K hK
  refine ow_call Try.func97 rfl rfl (evs_cons (tmA rfl rfl) <| evs_cons (tmI rfl rfl) <| evs_cons (ev_cN 4) <| evs_nil) (rcnum_c small nano most link l.length 4 _ (by omega) (by omega)) ?_
  rintro e w ⟨A3, c3, rfl, hn1, hk⟩
  refine ⟨_, rfl, ?_⟩
  replace hS := hS.add hk hn1 -- +rowc
  clear hn1 hk
  refine hK _ _ ?_; clear hK K
  refine rg_step 17 rfl (by kernel_rfl) (want_0) (oks_drop hS 3 rfl) ?_; intro K hK
  refine ow_call Try.func97 rfl rfl (evs_cons (tmA rfl rfl) <| evs_cons (tmI rfl rfl) <| evs_cons (ev_cN 4) <| evs_nil) (rcnum_c small nano most link len 4 _ (by omega) (by omega)) ?_
  rintro e w ⟨A4, c4, rfl, hn1, hk⟩
  refine ⟨_, rfl, ?_⟩
  replace hS := hS.add hk hn1 -- +rowd
  clear hn1 hk
  refine hK _ _ ?_; clear hK K
  refine rg_step 20 rfl (by kernel_rfl) (want_0) (oks_drop hS 4 rfl) ?_; intro K hK
  refine ow_build hS Try.underlying158 tz_22 (bc_take (tmS rfl rfl) <| bc_take (tmS rfl rfl) <| bc_take (tmS rfl rfl) <| bc_take (tmS rfl rfl) <| bc_take (tmS rfl rfl) <| bc_nil) rfl rfl (by kernel_rfl) ?_
  clear hS; intro g1_20 w hg1_20 hS
  refine hK _ _ ?_; clear hK K
  refine rg_step 21 rfl (by kernel_rfl) (want_0) (oks_drop hS 5 rfl) ?_; intro K hK
  refine ow_call Try.func96 rfl rfl (evs_cons (tmS rfl rfl) <| evs_nil) (join_c 5 _ _ [(A1, cnum small sec 4, c1), (A2, cnum small part 4, c2), (A3, cnum small l.length 4, c3), (A4, cnum small len 4, c4), (D, l, c)] _ (by have h := viewB hS.ok 0 rfl; simp only [List.map_cons, List.map_nil, rowV, cnum_len]; exact h) (seen_cons (viewR hS.ok 4 rfl) <| seen_cons (viewR hS.ok 3 rfl) <| seen_cons (viewR hS.ok 2 rfl) <| seen_cons (viewR hS.ok 1 rfl) <| seen_cons (viewV hS.ok 7 rfl) seen_nil) rfl (by omega) (by rw [hjo, hjl]; omega)) ?_
  rintro e w ⟨Aj, mj, cj, hmj, rfl, hn1, hk⟩
  refine ⟨_, rfl, ?_⟩
  rw [hjo] at hn1 hmj
  rw [hjl] at hmj
  replace hS := hS.add hk hn1 -- +rowj
  clear hn1 hk
  refine hK _ _ ?_; clear hK K
  refine rg_take 22 rfl rfl (by kernel_rfl) (by kernel_rfl) (by kernel_rfl) (want_0) (fun w hok => x_assign (tmS rfl rfl)) ?_
  refine rg_done (oks_drop hS 6 rfl) (by kernel_rfl) ?_
  refine then_n (hK2 _ _ ?_); clear hK2 K2
  refine wp_ret ?_
  refine ret1 rfl (.tmp rfl (show _ = Value.slice _ _ _ from rfl)) ?_
  exact ⟨_, _, _, hmj, rfl, hS.new 0 rfl rfl, hS.kp⟩
set_option maxRecDepth 100000 in
set_option maxHeartbeats 4000000 in
theorem rcap_head_c (small nano : Bool) (most link : Nat) (w0 : World) (hm : most ≤ 4294967295) (hl : link ≤ 4294967295) :
    Calls Try.prog 30 #[.agg (cfV small nano most link).toArray] w0 fun e w' => ∃ A c, e = .returned (.slice A 24 c) ∧ New w0 w' (.row (.slice A 24 c) 5 1 24 ((capH small nano most link).map u8v)) ∧ Kp [] w0 w' := by
  have hS := St.sv w0
  have hjo : ∀ A1 c1 A2 c2 A3 c3 A4 c4 A5 c5 A6 c6 A7 c7, joined [(A1, cnum small (capM nano) 4, c1), (A2, cnum small 2 2, c2), (A3, cnum small 4 2, c3), (A4, cnum small 0 4, c4), (A5, cnum small 0 4, c5), (A6, cnum small most 4, c6), (A7, cnum small link 4, c7)] = capH small nano most link := by
    intros
    simp [joined, capH]
  have hjl := capH_len small nano most link
  cases nano
  · skip
    refine ent (n := 27) Try.func30 rfl rfl ?_
    refine wp_seq_k ?_; intro K1 hK1
    refine wlit ?_
    refine wl_e rfl ?_; intro K hK
    refine ow_box hS (tmA rfl rfl) rfl ?_
    clear hS; intro g0_0 w hg0_0 hS
    refine hK _ _ ?_; clear hK K
    refine wl_v (x_assign ev_c) ?_
    refine wl_nil ?_
    refine then_n (hK1 _ _ ?_); clear hK1 K1
    refine wp_seq_k ?_; intro K2 hK2
    refine wlit ?_
    refine wl_v (x_assign (ev_cN 2712847316)) ?_
    refine wl_nil ?_
    refine then_n (hK2 _ _ ?_); clear hK2 K2
    refine wp_seq_k ?_; intro K3 hK3
    refine wp_seq_k ?_; intro K4 hK4
    refine wlit ?_
    refine wl_v (x_fa 1 Try.underlying51 rfl rfl ts_4 (tmP rfl rfl)) ?_
    first
     | refine wl_v (x_load Try.underlying4 rfl (tmP rfl rfl) (cellB hS.ok 0 rfl rfl)) ?_
     | refine wl_v (x_load Try.underlying4 rfl (tmP rfl rfl) (cellB hS.ok 0 rfl (getm (by omega)))) ?_
    refine wl_nil ?_
    refine then_n (hK4 _ _ ?_); clear hK4 K4
    refine cnd (tm rfl) (fun hc0 => ?_) (fun hc0 => ?_)
    · exfalso
      simp at hc0
    try (exfalso; first | with_reducible exact absurd hc0 Bool.false_ne_true | with_reducible exact absurd hc0.symm Bool.false_ne_true | (simp only [nrm] at hc0; omega) | (simp at hc0; done))
    all_goals
     try simp only [nrm] at hc0
     refine wp_skip ?_
     refine then_n (hK3 _ _ ?_); clear hK3 K3
     refine wp_seq_k ?_; intro K5 hK5
     refine rg_startk 0 hS mixed_ ?_
     clear hS; intro w hS
     refine rg_take 0 rfl rfl (by kernel_rfl) (by kernel_rfl) (by kernel_rfl) (want_0) (fun w hok => x_loadA (cs := [_, _, _, _]) Try.underlying51 rfl ts_51 (tmP rfl rfl) (rangeB hok 0 rfl rfl)) ?_
     refine rg_take 1 rfl rfl (by kernel_rfl) (by kernel_rfl) (by kernel_rfl) (want_0) (fun w hok => x_move (tmI rfl rfl)) ?_
     refine rg_take 3 rfl rfl (by kernel_rfl) (by kernel_rfl) (by kernel_rfl) (want_0) (fun w hok => x_loadA (cs := [_, _, _, _]) Try.underlying51 rfl ts_51 (tmP rfl rfl) (rangeB hok 0 rfl rfl)) ?_
     refine rg_take 5 rfl rfl (by kernel_rfl) (by kernel_rfl) (by kernel_rfl) (want_0) (fun w hok => x_loadA (cs := [_, _, _, _]) Try.underlying51 rfl ts_51 (tmP rfl rfl) (rangeB hok 0 rfl rfl)) ?_
     refine rg_take 7 rfl rfl (by kernel_rfl) (by kernel_rfl) (by kernel_rfl) (want_0) (fun w hok => x_loadA (cs := [_, _, _, _]) Try.underlying51 rfl ts_51 (tmP rfl rfl) (rangeB hok 0 rfl rfl)) ?_
     refine rg_take 9 rfl rfl (by kernel_rfl) (by kernel_rfl) (by kernel_rfl) (want_0) (fun w hok => x_loadA (cs := [_, _, _, _]) Try.underlying51 rfl ts_51 (tmP rfl rfl) (rangeB hok 0 rfl rfl)) ?_
     refine rg_take 11 rfl rfl (by kernel_rfl) (by kernel_rfl) (by kernel_rfl) (want_0) (fun w hok => x_loadA (cs := [_, _, _, _]) Try.underlying51 rfl ts_51 (tmP rfl rfl) (rangeB hok 0 rfl rfl)) ?_
     refine rg_take 12 rfl rfl (by kernel_rfl) (by kernel_rfl) (by kernel_rfl) (want_0) (fun w hok => x_fa 2 Try.underlying51 rfl rfl ts_49 (tmP rfl rfl)) ?_
     first
      | refine rg_take 13 rfl rfl (by kernel_rfl) (by kernel_rfl) (by kernel_rfl) (want_0) (fun w hok => x_load Try.underlying49 rfl (tmP rfl rfl) (cellB hok 0 rfl rfl)) ?_
      | refine rg_take 13 rfl rfl (by kernel_rfl) (by kernel_rfl) (by kernel_rfl) (want_0) (fun w hok => x_load Try.underlying49 rfl (tmP rfl rfl) (cellB hok 0 rfl (getm (by omega)))) ?_
     refine rg_take 15 rfl rfl (by kernel_rfl) (by kernel_rfl) (by kernel_rfl) (want_0) (fun w hok => x_loadA (cs := [_, _, _, _]) Try.underlying51 rfl ts_51 (tmP rfl rfl) (rangeB hok 0 rfl rfl)) ?_
     refine rg_take 16 rfl rfl (by kernel_rfl) (by kernel_rfl) (by kernel_rfl) (want_0) (fun w hok => x_fa 3 Try.underlying51 rfl rfl ts_49 (tmP rfl rfl)) ?_
     first
      | refine rg_take 17 rfl rfl (by kernel_rfl) (by kernel_rfl) (by kernel_rfl) (want_0) (fun w hok => x_load Try.underlying49 rfl (tmP rfl rfl) (cellB hok 0 rfl rfl)) ?_
      | refine rg_take 17 rfl rfl (by kernel_rfl) (by kernel_rfl) (by kernel_rfl) (want_0) (fun w hok => x_load Try.underlying49 rfl (tmP rfl rfl) (cellB hok 0 rfl (getm (by omega)))) ?_
     refine rg_step 2 rfl (by kernel_rfl) (want_0) (oks_drop hS 0 rfl) ?_; intro K hK
     refine ow_call Try.func97 rfl rfl (evs_cons (tmA rfl rfl) <| evs_cons (tmI rfl rfl) <| evs_cons (ev_cN 4) <| evs_nil) (rcnum_c small false most link (capM false) 4 _ (by decide) (by omega)) ?_
     rintro e w ⟨A1, c1, rfl, hn1, hk⟩
     refine ⟨_, rfl, ?_⟩
     replace hS := hS.add hk hn1 -- +rowa
     clear hn1 hk
     refine hK _ _ ?_; clear hK K
     refine rg_step 4 rfl (by kernel_rfl) (want_0) (oks_drop hS 1 rfl) ?_; intro K hK
     refine ow_call Try.func97 rfl rfl (evs_cons (tmA rfl rfl) <| evs_cons (ev_cN 2) <| evs_cons (ev_cN 2) <| evs_nil) (rcnum_c small false most link 2 2 _ (by omega) (by omega)) ?_
     rintro e w ⟨A2, c2, rfl, hn1, hk⟩
     refine ⟨_, rfl, ?_⟩
     replace hS := hS.add hk hn1 -- +rowb
     clear hn1 hk
     refine hK _ _ ?_; clear hK K
     refine rg_step 6 rfl (by kernel_rfl) (want_0) (oks_drop hS 2 rfl) ?_; intro K hK
     refine ow_call Try.func97 rfl rfl (evs_cons (tmA rfl rfl) <| evs_cons (ev_cN 4) <| evs_cons (ev_cN 2) <| evs_nil) (rcnum_c small false most link 4 2 _ (by omega) (by omega)) ?_
     rintro e w ⟨A3, c3, rfl, hn1, hk⟩
     refine ⟨_, rfl, ?_⟩
     replace hS := hS.add hk hn1 -- +rowc
     clear hn1 hk
     refine hK _ _ ?_; clear hK K
     refine rg_step 8 rfl (by kernel_rfl) (want_0) (oks_drop hS 3 rfl) ?_; intro K hK
     refine ow_call Try.func97 rfl rfl (evs_cons (tmA rfl rfl) <| evs_cons (ev_cN 0) <| evs_cons (ev_cN 4) <| evs_nil) (rcnum_c small false most link 0 4 _ (by omega) (by omega)) ?_
     rintro e w ⟨A4, c4, rfl, hn1, hk⟩
     refine ⟨_, rfl, ?_⟩
     replace hS := hS.add hk hn1 -- +rowd
     clear hn1 hk
     refine hK _ _ ?_; clear hK K
     refine rg_step 10 rfl (by kernel_rfl) (want_0) (oks_drop hS 4 rfl) ?_; intro K hK
     refine ow_call Try.func97 rfl rfl (evs_cons (tmA rfl rfl) <| evs_cons (ev_cN 0) <| evs_cons (ev_cN 4) <| evs_nil) (rcnum_c small false most link 0 4 _ (by omega) (by omega)) ?_
     rintro e w ⟨A5, c5, rfl, hn1, hk⟩
     refine ⟨_, rfl, ?_⟩
     replace hS := hS.add hk hn1 -- +rowe
     clear hn1 hk
     refine hK _ _ ?_; clear hK K
     refine rg_step 14 rfl (by kernel_rfl) (want_0) (oks_drop hS 5 rfl) ?_; intro K hK
     refine ow_call Try.func97 rfl rfl (evs_cons (tmA rfl rfl) <| evs_cons (tmI rfl rfl) <| evs_cons (ev_cN 4) <| evs_nil) (rcnum_c small false most link most 4 _ (by omega) (by omega)) ?_
     rintro e w ⟨A6, c6, rfl, hn1, hk⟩
     refine ⟨_, rfl, ?_⟩
     replace hS := hS.add hk hn1 -- +rowf
     clear hn1 hk
     refine hK _ _ ?_; clear hK K
     refine rg_step 18 rfl (by kernel_rfl) (want_0) (oks_drop hS 6 rfl) ?_; intro K hK
     refine ow_call Try.func97 rfl rfl (evs_cons (tmA rfl rfl) <| evs_cons (tmI rfl rfl) <| evs_cons (ev_cN 4) <| evs_nil) (rcnum_c small false most link link 4 _ (by omega) (by omega)) ?_
     rintro e w ⟨A7, c7, rfl, hn1, hk⟩
     refine ⟨_, rfl, ?_⟩
     replace hS := hS.add hk hn1 -- +rowg
     clear hn1 hk
     refine hK _ _ ?_; clear hK K
     refine rg_step 19 rfl (by kernel_rfl) (want_0) (oks_drop hS 7 rfl) ?_; intro K hK
     refine ow_build hS Try.underlying158 tz_22 (bc_take (tmS rfl rfl) <| bc_take (tmS rfl rfl) <| bc_take (tmS rfl rfl) <| bc_take (tmS rfl rfl) <| bc_take (tmS rfl rfl) <| bc_take (tmS rfl rfl) <| bc_take (tmS rfl rfl) <| bc_nil) rfl rfl (by kernel_rfl) ?_
     clear hS; intro g4_19 w hg4_19 hS
     refine hK _ _ ?_; clear hK K
     refine rg_step 20 rfl (by kernel_rfl) (want_0) (oks_drop hS 8 rfl) ?_; intro K hK
     refine ow_call Try.func96 rfl rfl (evs_cons (tmS rfl rfl) <| evs_nil) (join_c 7 _ _ [(A1, cnum small (capM false) 4, c1), (A2, cnum small 2 2, c2), (A3, cnum small 4 2, c3), (A4, cnum small 0 4, c4), (A5, cnum small 0 4, c5), (A6, cnum small most 4, c6), (A7, cnum small link 4, c7)] _ (by have h := viewB hS.ok 0 rfl; simp only [List.map_cons, List.map_nil, rowV, cnum_len]; exact h) (seen_cons (viewR hS.ok 7 rfl) <| seen_cons (viewR hS.ok 6 rfl) <| seen_cons (viewR hS.ok 5 rfl) <| seen_cons (viewR hS.ok 4 rfl) <| seen_cons (viewR hS.ok 3 rfl) <| seen_cons (viewR hS.ok 2 rfl) <| seen_cons (viewR hS.ok 1 rfl) seen_nil) rfl (by omega) (by rw [hjo, hjl]; omega)) ?_
     rintro e w ⟨Aj, mj, cj, hmj, rfl, hn1, hk⟩
     refine ⟨_, rfl, ?_⟩
     rw [hjo] at hn1 hmj
     rw [hjl] at hmj
     replace hS := hS.add hk hn1 -- +rowj
     clear hn1 hk
     refine hK _ _ ?_; clear hK K
     refine rg_take 21 rfl rfl (by kernel_rfl) (by kernel_rfl) (by kernel_rfl) (want_0) (fun w hok => x_assign (tmS rfl rfl)) ?_
     refine rg_done (oks_drop hS 9 rfl) (by kernel_rfl) ?_
     refine then_n (hK5 _ _ ?_); clear hK5 K5
     refine wp_ret ?_
     refine ret1 rfl (.tmp rfl (show _ = Value.slice _ _ _ from rfl)) ?_
     obtain rfl : mj = 24 := hmj
     exact ⟨_, _, rfl, hS.new 0 rfl rfl, hS.kp⟩
  · skip
    refine ent (n := 27) Try.func30 rfl rfl ?_
    refine wp_seq_k ?_; intro K1 hK1
    refine wlit ?_
    refine wl_e rfl ?_; intro K hK
    refine ow_box hS (tmA rfl rfl) rfl ?_
    clear hS; intro g0_0 w hg0_0 hS
    refine hK _ _ ?_; clear hK K
    refine wl_v (x_assign ev_c) ?_
    refine wl_nil ?_
    refine then_n (hK1 _ _ ?_); clear hK1 K1
    refine wp_seq_k ?_; intro K2 hK2
    refine wlit ?_
    refine wl_v (x_assign (ev_cN 2712847316)) ?_
    refine wl_nil ?_
    refine then_n (hK2 _ _ ?_); clear hK2 K2
    refine wp_seq_k ?_; intro K3 hK3
    refine wp_seq_k ?_; intro K4 hK4
    refine wlit ?_
    refine wl_v (x_fa 1 Try.underlying51 rfl rfl ts_4 (tmP rfl rfl)) ?_
    first
     | refine wl_v (x_load Try.underlying4 rfl (tmP rfl rfl) (cellB hS.ok 0 rfl rfl)) ?_
     | refine wl_v (x_load Try.underlying4 rfl (tmP rfl rfl) (cellB hS.ok 0 rfl (getm (by omega)))) ?_
    refine wl_nil ?_
    refine then_n (hK4 _ _ ?_); clear hK4 K4
    refine cnds (tm rfl) (fun hc0 => ?_) (fun hc0 => ?_)
    · exfalso
      simp at hc0
    try (exfalso; first | with_reducible exact absurd hc0 Bool.false_ne_true | with_reducible exact absurd hc0.symm Bool.false_ne_true | (simp only [nrm] at hc0; omega) | (simp at hc0; done))
    all_goals
     try simp only [nrm] at hc0
     refine wlit ?_
     refine wl_v (x_assign (ev_cN 2712812621)) ?_
     refine wl_nil ?_
     refine then_n (hK3 _ _ ?_); clear hK3 K3
     refine wp_seq_k ?_; intro K5 hK5
     refine rg_startk 0 hS mixed_ ?_
     clear hS; intro w hS
     refine rg_take 0 rfl rfl (by kernel_rfl) (by kernel_rfl) (by kernel_rfl) (want_0) (fun w hok => x_loadA (cs := [_, _, _, _]) Try.underlying51 rfl ts_51 (tmP rfl rfl) (rangeB hok 0 rfl rfl)) ?_
     refine rg_take 1 rfl rfl (by kernel_rfl) (by kernel_rfl) (by kernel_rfl) (want_0) (fun w hok => x_move (tmI rfl rfl)) ?_
     refine rg_take 3 rfl rfl (by kernel_rfl) (by kernel_rfl) (by kernel_rfl) (want_0) (fun w hok => x_loadA (cs := [_, _, _, _]) Try.underlying51 rfl ts_51 (tmP rfl rfl) (rangeB hok 0 rfl rfl)) ?_
     refine rg_take 5 rfl rfl (by kernel_rfl) (by kernel_rfl) (by kernel_rfl) (want_0) (fun w hok => x_loadA (cs := [_, _, _, _]) Try.underlying51 rfl ts_51 (tmP rfl rfl) (rangeB hok 0 rfl rfl)) ?_
     refine rg_take 7 rfl rfl (by kernel_rfl) (by kernel_rfl) (by kernel_rfl) (want_0) (fun w hok => x_loadA (cs := [_, _, _, _]) Try.underlying51 rfl ts_51 (tmP rfl rfl) (rangeB hok 0 rfl rfl)) ?_
     refine rg_take 9 rfl rfl (by kernel_rfl) (by kernel_rfl) (by kernel_rfl) (want_0) (fun w hok => x_loadA (cs := [_, _, _, _]) Try.underlying51 rfl ts_51 (tmP rfl rfl) (rangeB hok 0 rfl rfl)) ?_
     refine rg_take 11 rfl rfl (by kernel_rfl) (by kernel_rfl) (by kernel_rfl) (want_0) (fun w hok => x_loadA (cs := [_, _, _, _]) Try.underlying51 rfl ts_51 (tmP rfl rfl) (rangeB hok 0 rfl rfl)) ?_
     refine rg_take 12 rfl rfl (by kernel_rfl) (by kernel_rfl) (by kernel_rfl) (want_0) (fun w hok => x_fa 2 Try.underlying51 rfl rfl ts_49 (tmP rfl rfl)) ?_
     first
      | refine rg_take 13 rfl rfl (by kernel_rfl) (by kernel_rfl) (by kernel_rfl) (want_0) (fun w hok => x_load Try.underlying49 rfl (tmP rfl rfl) (cellB hok 0 rfl rfl)) ?_
      | refine rg_take 13 rfl rfl (by kernel_rfl) (by kernel_rfl) (by kernel_rfl) (want_0) (fun w hok => x_load Try.underlying49 rfl (tmP rfl rfl) (cellB hok 0 rfl (getm (by omega)))) ?_
     refine rg_take 15 rfl rfl (by kernel_rfl) (by kernel_rfl) (by kernel_rfl) (want_0) (fun w hok => x_loadA (cs := [_, _, _, _]) Try.underlying51 rfl ts_51 (tmP rfl rfl) (rangeB hok 0 rfl rfl)) ?_
     refine rg_take 16 rfl rfl (by kernel_rfl) (by kernel_rfl) (by kernel_rfl) (want_0) (fun w hok => x_fa 3 Try.underlying51 rfl rfl ts_49 (tmP rfl rfl)) ?_
     first
      | refine rg_take 17 rfl rfl (by kernel_rfl) (by kernel_rfl) (by kernel_rfl) (want_0) (fun w hok => x_load Try.underlying49 rfl (tmP rfl rfl) (cellB hok 0 rfl rfl)) ?_
      | refine rg_take 17 rfl rfl (by kernel_rfl) (by kernel_rfl) (by kernel_rfl) (want_0) (fun w hok => x_load Try.underlying49 rfl (tmP rfl rfl) (cellB hok 0 rfl (getm (by omega)))) ?_
     refine rg_step 2 rfl (by kernel_rfl) (want_0) (oks_drop hS 0 rfl) ?_; intro K hK
     refine ow_call Try.func97 rfl rfl (evs_cons (tmA rfl rfl) <| evs_cons (tmI rfl rfl) <| evs_cons (ev_cN 4) <| evs_nil) (rcnum_c small true most link (capM true) 4 _ (by decide) (by omega)) ?_
     rintro e w ⟨A1, c1, rfl, hn1, hk⟩
     refine ⟨_, rfl, ?_⟩
     replace hS := hS.add hk hn1 -- +rowa
     clear hn1 hk
     refine hK _ _ ?_; clear hK K
     refine rg_step 4 rfl (by kernel_rfl) (want_0) (oks_drop hS 1 rfl) ?_; intro K hK
     refine ow_call Try.func97 rfl rfl (evs_cons (tmA rfl rfl) <| evs_cons (ev_cN 2) <| evs_cons (ev_cN 2) <| evs_nil) (rcnum_c small true most link 2 2 _ (by omega) (by omega)) ?_
     rintro e w ⟨A2, c2, rfl, hn1, hk⟩
     refine ⟨_, rfl, ?_⟩
     replace hS := hS.add hk hn1 -- +rowb
     clear hn1 hk
     refine hK _ _ ?_; clear hK K
     refine rg_step 6 rfl (by kernel_rfl) (want_0) (oks_drop hS 2 rfl) ?_; intro K hK
     refine ow_call Try.func97 rfl rfl (evs_cons (tmA rfl rfl) <| evs_cons (ev_cN 4) <| evs_cons (ev_cN 2) <| evs_nil) (rcnum_c small true most link 4 2 _ (by omega) (by omega)) ?_
     rintro e w ⟨A3, c3, rfl, hn1, hk⟩
     refine ⟨_, rfl, ?_⟩
     replace hS := hS.add hk hn1 -- +rowc
     clear hn1 hk
     refine hK _ _ ?_; clear hK K
     refine rg_step 8 rfl (by kernel_rfl) (want_0) (oks_drop hS 3 rfl) ?_; intro K hK
     refine ow_call Try.func97 rfl rfl (evs_cons (tmA rfl rfl) <| evs_cons (ev_cN 0) <| evs_cons (ev_cN 4) <| evs_nil) (rcnum_c small true most link 0 4 _ (by omega) (by omega)) ?_
     rintro e w ⟨A4, c4, rfl, hn1, hk⟩
     refine ⟨_, rfl, ?_⟩
     replace hS := hS.add hk hn1 -- +rowd
     clear hn1 hk
     refine hK _ _ ?_; clear hK K
     refine rg_step 10 rfl (by kernel_rfl) (want_0) (oks_drop hS 4 rfl) ?_; intro K hK
     refine ow_call Try.func97 rfl rfl (evs_cons (tmA rfl rfl) <| evs_cons (ev_cN 0) <| evs_cons (ev_cN 4) <| evs_nil) (rcnum_c small true most link 0 4 _ (by omega) (by omega)) ?_
     rintro e w ⟨A5, c5, rfl, hn1, hk⟩
     refine ⟨_, rfl, ?_⟩
     replace hS := hS.add hk hn1 -- +rowe
     clear hn1 hk
     refine hK _ _ ?_; clear hK K
     refine rg_step 14 rfl (by kernel_rfl) (want_0) (oks_drop hS 5 rfl) ?_; intro K hK
     refine ow_call Try.func97 rfl rfl (evs_cons (tmA rfl rfl) <| evs_cons (tmI rfl rfl) <| evs_cons (ev_cN 4) <| evs_nil) (rcnum_c small true most link most 4 _ (by omega) (by omega)) ?_
     rintro e w ⟨A6, c6, rfl, hn1, hk⟩
     refine ⟨_, rfl, ?_⟩
     replace hS := hS.add hk hn1 -- +rowf
     clear hn1 hk
     refine hK _ _ ?_; clear hK K
     refine rg_step 18 rfl (by kernel_rfl) (want_0) (oks_drop hS 6 rfl) ?_; intro K hK
     refine ow_call Try.func97 rfl rfl (evs_cons (tmA rfl rfl) <| evs_cons (tmI rfl rfl) <| evs_cons (ev_cN 4) <| evs_nil) (rcnum_c small true most link link 4 _ (by omega) (by omega)) ?_
     rintro e w ⟨A7, c7, rfl, hn1, hk⟩
     refine ⟨_, rfl, ?_⟩
     replace hS := hS.add hk hn1 -- +rowg
     clear hn1 hk
     refine hK _ _ ?_; clear hK K
     refine rg_step 19 rfl (by kernel_rfl) (want_0) (oks_drop hS 7 rfl) ?_; intro K hK
     refine ow_build hS Try.underlying158 tz_22 (bc_take (tmS rfl rfl) <| bc_take (tmS rfl rfl) <| bc_take (tmS rfl rfl) <| bc_take (tmS rfl rfl) <| bc_take (tmS rfl rfl) <| bc_take (tmS rfl rfl) <| bc_take (tmS rfl rfl) <| bc_nil) rfl rfl (by kernel_rfl) ?_
     clear hS; intro g4_19 w hg4_19 hS
     refine hK _ _ ?_; clear hK K
     refine rg_step 20 rfl (by kernel_rfl) (want_0) (oks_drop hS 8 rfl) ?_; intro K hK
     refine ow_call Try.func96 rfl rfl (evs_cons (tmS rfl rfl) <| evs_nil) (join_c 7 _ _ [(A1, cnum small (capM true) 4, c1), (A2, cnum small 2 2, c2), (A3, cnum small 4 2, c3), (A4, cnum small 0 4, c4), (A5, cnum small 0 4, c5), (A6, cnum small most 4, c6), (A7, cnum small link 4, c7)] _ (by have h := viewB hS.ok 0 rfl; simp only [List.map_cons, List.map_nil, rowV, cnum_len]; exact h) (seen_cons (viewR hS.ok 7 rfl) <| seen_cons (viewR hS.ok 6 rfl) <| seen_cons (viewR hS.ok 5 rfl) <| seen_cons (viewR hS.ok 4 rfl) <| seen_cons (viewR hS.ok 3 rfl) <| seen_cons (viewR hS.ok 2 rfl) <| seen_cons (viewR hS.ok 1 rfl) seen_nil) rfl (by omega) (by rw [hjo, hjl]; omega)) ?_
     rintro e w ⟨Aj, mj, cj, hmj, rfl, hn1, hk⟩
     refine ⟨_, rfl, ?_⟩
     rw [hjo] at hn1 hmj
     rw [hjl] at hmj
     replace hS := hS.add hk hn1 -- +rowj
     clear hn1 hk
     refine hK _ _ ?_; clear hK K
     refine rg_take 21 rfl rfl (by kernel_rfl) (by kernel_rfl) (by kernel_rfl) (want_0) (fun w hok => x_assign (tmS rfl rfl)) ?_
     refine rg_done (oks_drop hS 9 rfl) (by kernel_rfl) ?_
     refine then_n (hK5 _ _ ?_); clear hK5 K5
     refine wp_ret ?_
     refine ret1 rfl (.tmp rfl (show _ = Value.slice _ _ _ from rfl)) ?_
     obtain rfl : mj = 24 := hmj
     exact ⟨_, _, rfl, hS.new 0 rfl rfl, hS.kp⟩
set_option maxRecDepth 100000 in
set_option maxHeartbeats 4000000 in
theorem to45_c (small nano : Bool) (most link : Nat) (w0 : World) :
    Calls Try.prog 28 #[.agg (cfV small nano most link).toArray] w0 fun e w' => e = .returned (.agg (cfV small nano most link).toArray) ∧ Kp [] w0 w' := by
  have hS := St.sv w0
  refine ent (n := 12) Try.func28 rfl rfl ?_
  refine wp_seq_k ?_; intro K1 hK1
  refine wlit ?_
  refine wl_e rfl ?_; intro K hK
  refine ow_box hS (tmA rfl rfl) rfl ?_
  clear hS; intro g0_0 w hg0_0 hS
  refine hK _ _ ?_; clear hK K
  refine wl_e rfl ?_; intro K hK
  refine ow_alloc hS tz_54 rfl ?_
  clear hS; intro g0_1 w hg0_1 hS
  refine hK _ _ ?_; clear hK K
  refine wl_nil ?_
  refine then_n (hK1 _ _ ?_); clear hK1 K1
  refine wp_seq_k ?_; intro K2 hK2
  refine wlit ?_
  refine wl_v (x_fa 0 Try.underlying51 rfl rfl ts_4 (tmP rfl rfl)) ?_
  first
   | refine wl_v (x_load Try.underlying4 rfl (tmP rfl rfl) (cellB hS.ok 1 rfl rfl)) ?_
   | refine wl_v (x_load Try.underlying4 rfl (tmP rfl rfl) (cellB hS.ok 1 rfl (getm (by omega)))) ?_
  refine wl_v (x_fa 1 Try.underlying51 rfl rfl ts_4 (tmP rfl rfl)) ?_
  first
   | refine wl_v (x_load Try.underlying4 rfl (tmP rfl rfl) (cellB hS.ok 1 rfl rfl)) ?_
   | refine wl_v (x_load Try.underlying4 rfl (tmP rfl rfl) (cellB hS.ok 1 rfl (getm (by omega)))) ?_
  refine wl_v (x_fa 2 Try.underlying51 rfl rfl ts_49 (tmP rfl rfl)) ?_
  first
   | refine wl_v (x_load Try.underlying49 rfl (tmP rfl rfl) (cellB hS.ok 1 rfl rfl)) ?_
   | refine wl_v (x_load Try.underlying49 rfl (tmP rfl rfl) (cellB hS.ok 1 rfl (getm (by omega)))) ?_
  refine wl_v (x_fa 3 Try.underlying51 rfl rfl ts_49 (tmP rfl rfl)) ?_
  first
   | refine wl_v (x_load Try.underlying49 rfl (tmP rfl rfl) (cellB hS.ok 1 rfl rfl)) ?_
   | refine wl_v (x_load Try.underlying49 rfl (tmP rfl rfl) (cellB hS.ok 1 rfl (getm (by omega)))) ?_
  refine wl_v (x_build (bc_take (tmB rfl rfl) <| bc_take (tmB rfl rfl) <| bc_take (tmI rfl rfl) <| bc_take (tmI rfl rfl) <| bc_nil) (by kernel_rfl)) ?_
  refine wl_e rfl ?_; intro K hK
  refine ow_storeA hS 0 rfl ts_54 (tmP rfl rfl) (tmA rfl rfl) rfl rfl rfl ?_
  clear hS; intro w hS
  try replace hS := St.nm (M' := [.blk _ _ [_, _, _, _], .blk _ _ [_, _, _, _], _]) hS rfl
  refine hK _ _ ?_; clear hK K
  refine wl_nil ?_
  refine then_n (hK2 _ _ ?_); clear hK2 K2
  refine wp_ret ?_
  refine ret1 rfl (.cell rfl rfl (load_rowB (cs := [_, _, _, _]) hS.ok 0 rfl Try.underlying54 rfl ts_54 rfl)) ?_
  exact ⟨rfl, hS.kp⟩
set_option maxRecDepth 100000 in
set_option maxHeartbeats 4000000 in
theorem packet45_c (sec part len : Nat) (D : Option Addr) (n c : Nat) (w0 : World) :
    Calls Try.prog 32 #[.agg (cpV sec part len D n c).toArray] w0 fun e w' => e = .returned (.agg (cpV sec part len D n c).toArray) ∧ Kp [] w0 w' := by
  have hS := St.sv w0
  refine ent (n := 12) Try.func32 rfl rfl ?_
  refine wp_seq_k ?_; intro K1 hK1
  refine wlit ?_
  refine wl_e rfl ?_; intro K hK
  refine ow_box hS (tmA rfl rfl) rfl ?_
  clear hS; intro g0_0 w hg0_0 hS
  refine hK _ _ ?_; clear hK K
  refine wl_e rfl ?_; intro K hK
  refine ow_alloc hS tz_59 rfl ?_
  clear hS; intro g0_1 w hg0_1 hS
  refine hK _ _ ?_; clear hK K
  refine wl_nil ?_
  refine then_n (hK1 _ _ ?_); clear hK1 K1
  refine wp_seq_k ?_; intro K2 hK2
  refine wlit ?_
  refine wl_v (x_fa 0 Try.underlying53 rfl rfl ts_49 (tmP rfl rfl)) ?_
  first
   | refine wl_v (x_load Try.underlying49 rfl (tmP rfl rfl) (cellB hS.ok 1 rfl rfl)) ?_
   | refine wl_v (x_load Try.underlying49 rfl (tmP rfl rfl) (cellB hS.ok 1 rfl (getm (by omega)))) ?_
  refine wl_v (x_fa 1 Try.underlying53 rfl rfl ts_49 (tmP rfl rfl)) ?_
  first
   | refine wl_v (x_load Try.underlying49 rfl (tmP rfl rfl) (cellB hS.ok 1 rfl rfl)) ?_
   | refine wl_v (x_load Try.underlying49 rfl (tmP rfl rfl) (cellB hS.ok 1 rfl (getm (by omega)))) ?_
  refine wl_v (x_fa 2 Try.underlying53 rfl rfl ts_49 (tmP rfl rfl)) ?_
  first
   | refine wl_v (x_load Try.underlying49 rfl (tmP rfl rfl) (cellB hS.ok 1 rfl rfl)) ?_
   | refine wl_v (x_load Try.underlying49 rfl (tmP rfl rfl) (cellB hS.ok 1 rfl (getm (by omega)))) ?_
  refine wl_v (x_fa 3 Try.underlying53 rfl rfl ts_22 (tmP rfl rfl)) ?_
  first
   | refine wl_v (x_load Try.underlying22 rfl (tmP rfl rfl) (cellB hS.ok 1 rfl rfl)) ?_
   | refine wl_v (x_load Try.underlying22 rfl (tmP rfl rfl) (cellB hS.ok 1 rfl (getm (by omega)))) ?_
  refine wl_v (x_build (bc_take (tmI rfl rfl) <| bc_take (tmI rfl rfl) <| bc_take (tmI rfl rfl) <| bc_take (tmS rfl rfl) <| bc_nil) (by kernel_rfl)) ?_
  refine wl_e rfl ?_; intro K hK
  refine ow_storeA hS 0 rfl ts_59 (tmP rfl rfl) (tmA rfl rfl) rfl rfl rfl ?_
  clear hS; intro w hS
  try replace hS := St.nm (M' := [.blk _ _ [_, _, _, _], .blk _ _ [_, _, _, _], _]) hS rfl
  refine hK _ _ ?_; clear hK K
  refine wl_nil ?_
  refine then_n (hK2 _ _ ?_); clear hK2 K2
  refine wp_ret ?_
  refine ret1 rfl (.cell rfl rfl (load_rowB (cs := [_, _, _, _]) hS.ok 0 rfl Try.underlying59 rfl ts_59 rfl)) ?_
  exact ⟨rfl, hS.kp⟩
end Go.Proofs.Ytilgolflpdpfnaa
