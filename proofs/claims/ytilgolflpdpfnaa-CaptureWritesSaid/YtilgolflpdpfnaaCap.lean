
/- capture: put, Head, Right, Write by contract, and the references'. Conditions: none but bounds. -/
import Derived.Test.YtilgolflpdpfnaaRev
import Derived.Test.YtilgolflpdpfnaaJoin
import Derived.Test.YtilgolflpdpfnaaArr
namespace Go.Proofs.Ytilgolflpdpfnaa
open Go.RowKit
def cfV (small nano : Bool) (most link : Nat) : List Value := [.bool small, .bool nano, .int .u32 (most : Int), .int .u32 (link : Int)]
def cpV (sec part len : Nat) (D : Option Addr) (n c : Nat) : List Value := [.int .u32 (sec : Int), .int .u32 (part : Int), .int .u32 (len : Int), .slice D n c]
def cnum (small : Bool) (N sz : Nat) : List Nat := cond small (be N sz).reverse (be N sz)
theorem cnum_len (small : Bool) (N sz : Nat) : (cnum small N sz).length = sz := by unfold cnum; cases small <;> simp [be_length]
theorem cnum_bytes (small : Bool) (N sz : Nat) : Bytes (cnum small N sz) := by
  unfold cnum
  cases small
  · exact be_bytes _ _
  · intro x hx
    exact be_bytes N sz x (by simpa using hx)
set_option maxRecDepth 100000 in
set_option maxHeartbeats 4000000 in
theorem cput_c (small nano : Bool) (most link : Nat) (A : Option Addr) (n c : Nat) (l : List Nat) (N sz : Nat) (F : List Nat) (w0 : World) (hS : St F w0 [.row (.slice A n c) 5 1 n (l.map u8v)] w0) (hN : N ≤ 18446744073709551615) (hz : 0 < sz ∧ sz ≤ 8) (hn4 : n ≤ 1000000) :
    Calls Try.prog 95 #[.agg (cfV small nano most link).toArray, .slice A n c, .int .u64 (N : Int), .int .i64 (sz : Int)] w0 fun e w' => ∃ A' c', e = .returned (.slice A' (n + sz) c') ∧ St F w0 [.row (.slice A' (n + sz) c') 5 1 (n + sz) ((l ++ cnum small N sz).map u8v)] w' := by
  have hcl := cnum_len small N sz
  have hbl := be_length N sz
  cases small with
  | false =>
    refine ent (n := 20) Try.func95 rfl rfl ?_
    refine wp_seq_k ?_; intro K1 hK1
    refine wlit ?_
    refine wl_e rfl ?_; intro K hK
    refine ow_box hS (tmA rfl rfl) rfl ?_
    clear hS; intro g0_0 w hg0_0 hS
    refine hK _ _ ?_; clear hK K
    refine wl_v (x_assign ev_c) ?_
    refine wl_nil ?_
    refine then_n (hK1 _ _ ?_); clear hK1 K1
    refine wp_seq_k ?_; intro K2 hK2
    refine wlit ?_
    refine wl_v (x_move (tmI rfl rfl)) ?_
    refine wl_v (x_move (tmI rfl rfl)) ?_
    refine wl_e rfl ?_; intro K hK
    refine ow_call Try.func105 rfl rfl (evs_cons ev_c <| evs_cons (tmI rfl rfl) <| evs_cons (tmI rfl rfl) <| evs_nil) (put_c 0 none 0 [] N sz _ View.nil_ rfl (by omega) (by omega) (by omega)) ?_
    rintro e w ⟨g1, rfl, hn, hk⟩
    refine ⟨_, rfl, ?_⟩
    rw [Nat.zero_add, List.nil_append] at hn
    replace hS := hS.add hk hn -- +rowo
    clear hn hk
    refine hK _ _ ?_; clear hK K
    refine wl_v (x_assign (tmS rfl (congrArg (fun q : Nat => Value.slice (some ⟨g1, 0, none⟩) q q) (Nat.zero_add sz)))) ?_
    refine wl_nil ?_
    refine then_n (hK2 _ _ ?_); clear hK2 K2
    refine wp_seq_k ?_; intro K3 hK3
    refine wp_seq_k ?_; intro K4 hK4
    refine wlit ?_
    refine wl_v (x_fa 0 Try.underlying54 rfl rfl ts_4 (tmP rfl rfl)) ?_
    first
     | refine wl_v (x_load Try.underlying4 rfl (tmP rfl rfl) (cellB hS.ok 1 rfl rfl)) ?_
     | refine wl_v (x_load Try.underlying4 rfl (tmP rfl rfl) (cellB hS.ok 1 rfl (getm (by omega)))) ?_
    refine wl_nil ?_
    refine then_n (hK4 _ _ ?_); clear hK4 K4
    refine cnd (tm rfl) (fun hc0 => ?_) (fun hc0 => ?_)
    · exfalso
      simp at hc0
    try (exfalso; first | with_reducible exact absurd hc0 Bool.false_ne_true | with_reducible exact absurd hc0.symm Bool.false_ne_true | (simp only [nrm] at hc0; omega) | (simp at hc0; done))
    all_goals
     try simp only [nrm] at hc0
     refine wp_skip ?_
     refine then_n (hK3 _ _ ?_); clear hK3 K3
     refine wp_seq_k ?_; intro K5 hK5
     replace hS := hS.freeze 0 rfl
     refine wlit ?_
     refine wl_v (x_move (tmS rfl rfl)) ?_
     refine wl_v (x_move (tmS rfl rfl)) ?_
     refine wl_e rfl ?_; intro K hK
     first
      | (refine ow_append hS 2 0 rfl rfl Try.underlying22 tz_5 rfl (tmS rfl rfl) (tmS rfl rfl) rfl ⟨by decide, by decide, rfl⟩ (by simp only [maxLen]; omega) (by omega) ?_; clear hS; intro g4_2 cg4_2 w hS)
      | (refine ow_append hS 2 1 rfl rfl Try.underlying22 tz_5 rfl (tmS rfl rfl) (tmS rfl rfl) rfl ⟨by decide, by decide, rfl⟩ (by simp only [maxLen]; omega) (by omega) ?_; clear hS; intro g4_2 cg4_2 w hS)
      | (refine ow_appendV hS 2 rfl (viewV hS.ok 0 rfl) Try.underlying22 tz_5 rfl (tmS rfl rfl) (tmS rfl rfl) (by first | exact u8v_one _ | (intro u hu; simp at hu; first | (rcases hu with rfl | rfl <;> rfl) | (obtain ⟨_, _, rfl⟩ := hu; rfl))) ⟨by decide, by first | rfl | (simp; done) | (simp; omega)⟩ (by simp only [maxLen]; omega) (by omega) ?_; clear hS; intro g4_2 cg4_2 w hAg4_2 hCg4_2 hS)
      | (refine ow_appendV hS 2 rfl (viewR hS.ok 2 rfl) Try.underlying22 tz_5 rfl (tmS rfl rfl) (tmS rfl rfl) (by first | exact u8v_one _ | (intro u hu; simp at hu; first | (rcases hu with rfl | rfl <;> rfl) | (obtain ⟨_, _, rfl⟩ := hu; rfl))) ⟨by decide, by first | rfl | (simp; done) | (simp; omega)⟩ (by simp only [maxLen]; omega) (by omega) ?_; clear hS; intro g4_2 cg4_2 w hAg4_2 hCg4_2 hS)
      | (refine ow_appendV hS 2 rfl View.nil_ Try.underlying22 tz_5 rfl (tmS rfl rfl) (tmS rfl rfl) (by first | exact u8v_one _ | (intro u hu; simp at hu; first | (rcases hu with rfl | rfl <;> rfl) | (obtain ⟨_, _, rfl⟩ := hu; rfl))) ⟨by decide, by first | rfl | (simp; done) | (simp; omega)⟩ (by simp only [maxLen]; omega) (by omega) ?_; clear hS; intro g4_2 cg4_2 w hAg4_2 hCg4_2 hS)
     refine hK _ _ ?_; clear hK K
     refine wl_v (x_assign (tmS rfl rfl)) ?_
     refine wl_nil ?_
     refine then_n (hK5 _ _ ?_); clear hK5 K5
     refine wp_ret ?_
     refine ret1 rfl (.tmp rfl (show _ = Value.slice _ _ _ from rfl)) ?_
     rw [← List.map_append] at hS
     exact ⟨_, _, rfl, hS.pick [2] rfl rfl⟩
  | true =>
    refine ent (n := 20) Try.func95 rfl rfl ?_
    refine wp_seq_k ?_; intro K1 hK1
    refine wlit ?_
    refine wl_e rfl ?_; intro K hK
    refine ow_box hS (tmA rfl rfl) rfl ?_
    clear hS; intro g0_0 w hg0_0 hS
    refine hK _ _ ?_; clear hK K
    refine wl_v (x_assign ev_c) ?_
    refine wl_nil ?_
    refine then_n (hK1 _ _ ?_); clear hK1 K1
    refine wp_seq_k ?_; intro K2 hK2
    refine wlit ?_
    refine wl_v (x_move (tmI rfl rfl)) ?_
    refine wl_v (x_move (tmI rfl rfl)) ?_
    refine wl_e rfl ?_; intro K hK
    refine ow_call Try.func105 rfl rfl (evs_cons ev_c <| evs_cons (tmI rfl rfl) <| evs_cons (tmI rfl rfl) <| evs_nil) (put_c 0 none 0 [] N sz _ View.nil_ rfl (by omega) (by omega) (by omega)) ?_
    rintro e w ⟨g1, rfl, hn, hk⟩
    refine ⟨_, rfl, ?_⟩
    rw [Nat.zero_add, List.nil_append] at hn
    replace hS := hS.add hk hn -- +rowo
    clear hn hk
    refine hK _ _ ?_; clear hK K
    refine wl_v (x_assign (tmS rfl (congrArg (fun q : Nat => Value.slice (some ⟨g1, 0, none⟩) q q) (Nat.zero_add sz)))) ?_
    refine wl_nil ?_
    refine then_n (hK2 _ _ ?_); clear hK2 K2
    refine wp_seq_k ?_; intro K3 hK3
    refine wp_seq_k ?_; intro K4 hK4
    refine wlit ?_
    refine wl_v (x_fa 0 Try.underlying54 rfl rfl ts_4 (tmP rfl rfl)) ?_
    first
     | refine wl_v (x_load Try.underlying4 rfl (tmP rfl rfl) (cellB hS.ok 1 rfl rfl)) ?_
     | refine wl_v (x_load Try.underlying4 rfl (tmP rfl rfl) (cellB hS.ok 1 rfl (getm (by omega)))) ?_
    refine wl_nil ?_
    refine then_n (hK4 _ _ ?_); clear hK4 K4
    refine cnds (tm rfl) (fun hc0 => ?_) (fun hc0 => ?_)
    · exfalso
      simp at hc0
    try (exfalso; first | with_reducible exact absurd hc0 Bool.false_ne_true | with_reducible exact absurd hc0.symm Bool.false_ne_true | (simp only [nrm] at hc0; omega) | (simp at hc0; done))
    all_goals
     try simp only [nrm] at hc0
     refine wlit ?_
     refine wl_v (x_move (tmS rfl rfl)) ?_
     refine wl_e rfl ?_; intro K hK
     refine ow_call Try.func147 rfl rfl (evs_cons (tmS rfl rfl) <| evs_nil) (reverse_c _ sz _ (be N sz) _ _ (hS.enter [0] [] rfl rfl) hbl (by omega)) ?_
     rintro e w ⟨rfl, hS2⟩
     refine ⟨_, rfl, ?_⟩
     replace hS := hS.turn 0 rfl rfl hS2 rfl
     clear hS2
     try replace hS := St.nm (M' := [.row _ _ _ _ _, .blk _ _ [_, _, _, _], .row _ _ _ _ _]) hS rfl
     refine hK _ _ ?_; clear hK K
     refine wl_nil ?_
     refine then_n (hK3 _ _ ?_); clear hK3 K3
     refine wp_seq_k ?_; intro K5 hK5
     have hrl : (be N sz).reverse.length = sz := by simp [be_length]
     replace hS := hS.freeze 0 rfl
     refine wlit ?_
     refine wl_v (x_move (tmS rfl rfl)) ?_
     refine wl_v (x_move (tmS rfl rfl)) ?_
     refine wl_e rfl ?_; intro K hK
     first
      | (refine ow_append hS 2 0 rfl rfl Try.underlying22 tz_5 rfl (tmS rfl rfl) (tmS rfl rfl) rfl ⟨by decide, by decide, rfl⟩ (by simp only [maxLen]; omega) (by omega) ?_; clear hS; intro g4_2 cg4_2 w hS)
      | (refine ow_append hS 2 1 rfl rfl Try.underlying22 tz_5 rfl (tmS rfl rfl) (tmS rfl rfl) rfl ⟨by decide, by decide, rfl⟩ (by simp only [maxLen]; omega) (by omega) ?_; clear hS; intro g4_2 cg4_2 w hS)
      | (refine ow_appendV hS 2 rfl (viewV hS.ok 0 rfl) Try.underlying22 tz_5 rfl (tmS rfl rfl) (tmS rfl rfl) (by first | exact u8v_one _ | (intro u hu; simp at hu; first | (rcases hu with rfl | rfl <;> rfl) | (obtain ⟨_, _, rfl⟩ := hu; rfl))) ⟨by decide, by first | rfl | (simp; done) | (simp; omega)⟩ (by simp only [maxLen]; omega) (by omega) ?_; clear hS; intro g4_2 cg4_2 w hAg4_2 hCg4_2 hS)
      | (refine ow_appendV hS 2 rfl (viewR hS.ok 2 rfl) Try.underlying22 tz_5 rfl (tmS rfl rfl) (tmS rfl rfl) (by first | exact u8v_one _ | (intro u hu; simp at hu; first | (rcases hu with rfl | rfl <;> rfl) | (obtain ⟨_, _, rfl⟩ := hu; rfl))) ⟨by decide, by first | rfl | (simp; done) | (simp; omega)⟩ (by simp only [maxLen]; omega) (by omega) ?_; clear hS; intro g4_2 cg4_2 w hAg4_2 hCg4_2 hS)
      | (refine ow_appendV hS 2 rfl View.nil_ Try.underlying22 tz_5 rfl (tmS rfl rfl) (tmS rfl rfl) (by first | exact u8v_one _ | (intro u hu; simp at hu; first | (rcases hu with rfl | rfl <;> rfl) | (obtain ⟨_, _, rfl⟩ := hu; rfl))) ⟨by decide, by first | rfl | (simp; done) | (simp; omega)⟩ (by simp only [maxLen]; omega) (by omega) ?_; clear hS; intro g4_2 cg4_2 w hAg4_2 hCg4_2 hS)
     refine hK _ _ ?_; clear hK K
     refine wl_v (x_assign (tmS rfl rfl)) ?_
     refine wl_nil ?_
     refine then_n (hK5 _ _ ?_); clear hK5 K5
     refine wp_ret ?_
     refine ret1 rfl (.tmp rfl (show _ = Value.slice _ _ _ from rfl)) ?_
     rw [← List.map_append] at hS
     exact ⟨_, _, rfl, hS.pick [2] rfl rfl⟩
set_option maxRecDepth 100000 in
set_option maxHeartbeats 4000000 in
theorem rcnum_c (small nano : Bool) (most link : Nat) (N sz : Nat) (w0 : World) (hN : N ≤ 4294967295) (hz : 0 < sz ∧ sz ≤ 8) :
    Calls Try.prog 97 #[.agg (cfV small nano most link).toArray, .int .u32 (N : Int), .int .i64 (sz : Int)] w0 fun e w' => ∃ A' c', e = .returned (.slice A' sz c') ∧ New w0 w' (.row (.slice A' sz c') 5 1 sz ((cnum small N sz).map u8v)) ∧ Kp [] w0 w' := by
  have hS := St.sv w0
  have hbl := be_length N sz
  cases small with
  | false =>
    refine ent (n := 33) Try.func97 rfl rfl ?_
    refine wp_seq_k ?_; intro K1 hK1
    refine wlit ?_
    refine wl_e rfl ?_; intro K hK
    refine ow_box hS (tmA rfl rfl) rfl ?_
    clear hS; intro g0_0 w hg0_0 hS
    refine hK _ _ ?_; clear hK K
    refine wl_v (x_assign ev_c) ?_
    refine wl_nil ?_
    refine then_n (hK1 _ _ ?_); clear hK1 K1
    refine wp_seq_k ?_; intro K2 hK2
    refine wlit ?_
    refine wl_v (x_move (tmI rfl rfl)) ?_
    first
     | refine wl_v (x_convN Try.underlying49 Try.underlying24 (tmI rfl rfl) (fit_u64 (by omega))) ?_
     | refine wl_v (x_convU Try.underlying49 Try.underlying24 (tmI rfl rfl) rfl) ?_
     | refine wl_v (x_conv Try.underlying49 Try.underlying24 (tmI rfl rfl)) ?_
    refine wl_v (x_move (tmI rfl rfl)) ?_
    refine wl_e rfl ?_; intro K hK
    refine ow_call Try.func106 rfl rfl (evs_cons (tmI rfl rfl) <| evs_cons (tmI rfl rfl) <| evs_nil) (rbytes_c N sz _ (by omega) (by omega)) ?_
    rintro e w ⟨g1, rfl, hn, hk⟩
    refine ⟨_, rfl, ?_⟩
    replace hS := hS.add hk hn -- +rowo
    clear hn hk
    refine hK _ _ ?_; clear hK K
    refine wl_v (x_assign (tmS rfl rfl)) ?_
    refine wl_nil ?_
    refine then_n (hK2 _ _ ?_); clear hK2 K2
    refine wp_seq_k ?_; intro K3 hK3
    refine wp_seq_k ?_; intro K4 hK4
    refine wlit ?_
    refine wl_v (x_fa 0 Try.underlying51 rfl rfl ts_4 (tmP rfl rfl)) ?_
    first
     | refine wl_v (x_load Try.underlying4 rfl (tmP rfl rfl) (cellB hS.ok 1 rfl rfl)) ?_
     | refine wl_v (x_load Try.underlying4 rfl (tmP rfl rfl) (cellB hS.ok 1 rfl (getm (by omega)))) ?_
    refine wl_v (x_not (tmB rfl rfl)) ?_
    refine wl_nil ?_
    refine then_n (hK4 _ _ ?_); clear hK4 K4
    refine cnds (tm rfl) (fun hc0 => ?_) (fun hc0 => ?_)
    · exfalso
      simp at hc0
    try (exfalso; first | with_reducible exact absurd hc0 Bool.false_ne_true | with_reducible exact absurd hc0.symm Bool.false_ne_true | (simp only [nrm] at hc0; omega) | (simp at hc0; done))
    all_goals
     try simp only [nrm] at hc0
     refine wp_seq_k ?_; intro K5 hK5
     refine wlit ?_
     refine wl_v (x_move (tmS rfl rfl)) ?_
     refine wl_v (x_assign (tmS rfl rfl)) ?_
     refine wl_nil ?_
     refine then_n (hK5 _ _ ?_); clear hK5 K5
     refine wp_ret ?_
     refine then_r ?_
     refine ret1 rfl (.tmp rfl (show _ = Value.slice _ _ _ from rfl)) ?_
     exact ⟨_, _, rfl, hS.new 0 rfl rfl, hS.kp⟩
  | true =>
    refine ent (n := 33) Try.func97 rfl rfl ?_
    refine wp_seq_k ?_; intro K1 hK1
    refine wlit ?_
    refine wl_e rfl ?_; intro K hK
    refine ow_box hS (tmA rfl rfl) rfl ?_
    clear hS; intro g0_0 w hg0_0 hS
    refine hK _ _ ?_; clear hK K
    refine wl_v (x_assign ev_c) ?_
    refine wl_nil ?_
    refine then_n (hK1 _ _ ?_); clear hK1 K1
    refine wp_seq_k ?_; intro K2 hK2
    refine wlit ?_
    refine wl_v (x_move (tmI rfl rfl)) ?_
    first
     | refine wl_v (x_convN Try.underlying49 Try.underlying24 (tmI rfl rfl) (fit_u64 (by omega))) ?_
     | refine wl_v (x_convU Try.underlying49 Try.underlying24 (tmI rfl rfl) rfl) ?_
     | refine wl_v (x_conv Try.underlying49 Try.underlying24 (tmI rfl rfl)) ?_
    refine wl_v (x_move (tmI rfl rfl)) ?_
    refine wl_e rfl ?_; intro K hK
    refine ow_call Try.func106 rfl rfl (evs_cons (tmI rfl rfl) <| evs_cons (tmI rfl rfl) <| evs_nil) (rbytes_c N sz _ (by omega) (by omega)) ?_
    rintro e w ⟨g1, rfl, hn, hk⟩
    refine ⟨_, rfl, ?_⟩
    replace hS := hS.add hk hn -- +rowo
    clear hn hk
    refine hK _ _ ?_; clear hK K
    refine wl_v (x_assign (tmS rfl rfl)) ?_
    refine wl_nil ?_
    refine then_n (hK2 _ _ ?_); clear hK2 K2
    refine wp_seq_k ?_; intro K3 hK3
    refine wp_seq_k ?_; intro K4 hK4
    refine wlit ?_
    refine wl_v (x_fa 0 Try.underlying51 rfl rfl ts_4 (tmP rfl rfl)) ?_
    first
     | refine wl_v (x_load Try.underlying4 rfl (tmP rfl rfl) (cellB hS.ok 1 rfl rfl)) ?_
     | refine wl_v (x_load Try.underlying4 rfl (tmP rfl rfl) (cellB hS.ok 1 rfl (getm (by omega)))) ?_
    refine wl_v (x_not (tmB rfl rfl)) ?_
    refine wl_nil ?_
    refine then_n (hK4 _ _ ?_); clear hK4 K4
    refine cnd (tm rfl) (fun hc0 => ?_) (fun hc0 => ?_)
    · exfalso
      simp at hc0
    try (exfalso; first | with_reducible exact absurd hc0 Bool.false_ne_true | with_reducible exact absurd hc0.symm Bool.false_ne_true | (simp only [nrm] at hc0; omega) | (simp at hc0; done))
    all_goals
     try simp only [nrm] at hc0
     refine wp_skip ?_
     refine then_n (hK3 _ _ ?_); clear hK3 K3
     refine wp_seq_k ?_; intro K5 hK5
     refine wlit ?_
     refine wl_v (x_assign ev_c) ?_
     refine wl_nil ?_
     refine then_n (hK5 _ _ ?_); clear hK5 K5
     refine wp_seq_k ?_; intro K6 hK6
     refine wp_seq_k ?_; intro K7 hK7
     refine wlit ?_
     refine wl_v (x_move (tmS rfl rfl)) ?_
     refine wl_v (x_len Try.underlying22 (tmS rfl rfl)) ?_
     first
      | refine wl_v (x_subN (tmI rfl rfl) (ev_cN 1) (fit_i64 (by omega)) (by omega)) ?_
      | refine wl_v (x_subI (tmI rfl rfl) (ev_cN 1) (IntWalk.i64_in _ (by omega))) ?_
      | refine wl_v (x_sub (tmI rfl rfl) (ev_cN 1)) ?_
     refine wl_v (x_assign (tmI rfl rfl)) ?_
     refine wl_nil ?_
     refine then_n (hK7 _ _ ?_); clear hK7 K7
     refine wp_block ?_
     have hS := (hS.freeze 0 rfl).nilrow 5 1
     refine lp [8, 9, 21, 22, 23, 24, 25, 26, 27, 28, 29, 30, 31] (fun mz g w => ∃ (k : Nat), ∃ (A' : Option Addr), ∃ (c' : Nat), mz = sz - k ∧ g 9 = .int .i64 ((sz : Int) - 1 - (k : Int)) ∧ g 8 = .slice A' k c' ∧ St [] w0 [.row (.slice A' k c') 5 1 k (((be N sz).reverse.take k).map u8v), .vw (some ⟨g1, 0, none⟩) ((be N sz).map u8v)] w ∧ (k ≤ sz)) ?_ ?_
     · exact ⟨_, 0, none, 0, rfl, (by first | rfl | go_num | exact congrArg (Value.int _) (by first | omega | (simp; done) | (simp; omega))), (by first | rfl | go_num | exact congrArg (Value.int _) (by first | omega | (simp; done) | (simp; omega))), (hS.pick [0, 1] rfl rfl), (by omega)⟩
     · clear hS; intro mz g w hI
       obtain ⟨k, A', c', rfl, hs9, hs8, hS, hk⟩ := hI
       refine fr_know (d := 9) hs9 ?_; clear hs9
       refine fr_know (d := 8) hs8 ?_; clear hs8
       refine wp_seq_k ?_; intro K8 hK8
       refine wp_seq_k ?_; intro K9 hK9
       refine wlit ?_
       refine wl_v (x_move (tmI rfl rfl)) ?_
       refine wl_v (x_geq (tmI rfl rfl) (ev_cN 0)) ?_
       refine wl_nil ?_
       refine then_n (hK9 _ _ ?_); clear hK9 K9
       refine cnd (tm rfl) (fun hc1 => ?_) (fun hc1 => ?_)
       · try (exfalso; first | with_reducible exact absurd hc1 Bool.false_ne_true | with_reducible exact absurd hc1.symm Bool.false_ne_true | (simp only [nrm] at hc1; omega) | (simp at hc1; done))
         all_goals
          try simp only [nrm] at hc1
          have hlt : k < sz := by omega
          have hix : (sz : Int) - 1 - (k : Int) = ((sz - 1 - k : Nat) : Int) := by omega
          have hv1 : ((be N sz).map u8v)[sz - 1 - k]? = some (u8v (nth (be N sz) (sz - 1 - k))) := getB (by omega)
          have hx : (be N sz).reverse.take (k + 1) = (be N sz).reverse.take k ++ [nth (be N sz) (sz - 1 - k)] := by
            rw [List.take_succ_eq_append_getElem (by simp [be_length]; omega), List.getElem_reverse]
            congr 2
            rw [nth_eq (by omega)]
            congr 1
            omega
          refine wp_skip ?_
          refine then_n (hK8 _ _ ?_); clear hK8 K8
          refine wp_seq_k ?_; intro K10 hK10
          refine wp_block ?_
          refine wlit ?_
          refine wl_v (x_move (tmS rfl rfl)) ?_
          refine wl_v (x_move (tmS rfl rfl)) ?_
          refine wl_v (x_move (tmI rfl rfl)) ?_
          refine wl_v (x_ixs1 Try.underlying22 ts_5 (tmS rfl rfl) (tmI rfl (congrArg (Value.int .i64) hix)) (by omega)) ?_
          refine wl_v (x_load Try.underlying5 rfl (tmP rfl rfl) (cellV hS.ok 1 rfl hv1)) ?_
          refine wl_e rfl ?_; intro K hK
          refine ow_build hS Try.underlying22 tz_5 (bc_take (tmI rfl rfl) <| bc_nil) rfl rfl (by kernel_rfl) ?_
          clear hS; intro g8_5 w hg8_5 hS
          refine hK _ _ ?_; clear hK K
          refine wl_e rfl ?_; intro K hK
          (refine ow_append hS 1 0 rfl rfl Try.underlying22 tz_5 rfl (tmS rfl rfl) (tmS rfl rfl) rfl ⟨by decide, by decide, rfl⟩ (by simp only [maxLen]; omega) (by omega) ?_; clear hS; intro g8_6 cg8_6 w hS)
          refine hK _ _ ?_; clear hK K
          refine wl_v (x_assign (tmS rfl rfl)) ?_
          refine wl_nil ?_
          refine inb_n ?_
          refine then_n (hK10 _ _ ?_); clear hK10 K10
          refine wlit ?_
          refine wl_v (x_move (tmI rfl rfl)) ?_
          first
           | refine wl_v (x_subN (tmI rfl rfl) (ev_cN 1) (fit_i64 (by omega)) (by omega)) ?_
           | refine wl_v (x_subI (tmI rfl rfl) (ev_cN 1) (IntWalk.i64_in _ (by omega))) ?_
           | refine wl_v (x_sub (tmI rfl rfl) (ev_cN 1)) ?_
          refine wl_v (x_assign (tmI rfl rfl)) ?_
          refine wl_nil ?_
          exact then_n ⟨_, _, rfl, (by show _ < _; omega), (by repeat (first | exact agree_self | exact agree_refl | refine agree_upd rfl ?_ | refine agree_mix rfl ?_)), k + 1, _, _, rfl, (by first | rfl | go_num | exact congrArg (Value.int _) (by first | omega | (simp; done) | (simp; omega))), (by first | rfl | go_num | exact congrArg (Value.int _) (by first | omega | (simp; done) | (simp; omega))), (by rw [hx, List.map_append]; exact hS.pick [1, 2] rfl rfl), (by omega)⟩
       try (exfalso; first | with_reducible exact absurd hc1 Bool.false_ne_true | with_reducible exact absurd hc1.symm Bool.false_ne_true | (simp only [nrm] at hc1; omega) | (simp at hc1; done))
       all_goals
        try simp only [nrm] at hc1
        refine wp_exit ?_
        refine then_x ?_; clear hK8 K8
        refine then_x ?_
        refine inb_x ?_
        refine then_n (hK6 _ _ ?_); clear hK6 K6
        refine wp_seq_k ?_; intro K11 hK11
        refine wlit ?_
        refine wl_v (x_move (tmS rfl rfl)) ?_
        refine wl_v (x_assign (tmS rfl rfl)) ?_
        refine wl_nil ?_
        refine then_n (hK11 _ _ ?_); clear hK11 K11
        refine wp_ret ?_
        refine ret1 rfl (.tmp rfl (show _ = Value.slice _ _ _ from rfl)) ?_
        obtain rfl : k = sz := by omega
        rw [List.take_of_length_le (by simp [be_length])] at hS
        exact ⟨_, _, rfl, hS.new 0 rfl rfl, hS.kp⟩
end Go.Proofs.Ytilgolflpdpfnaa
