
/- Parse of both sides, and what Packet makes, as functions. Conditions: none but bounds. -/
import Derived.Test.YtpibinkekfkafaaIp4R
import Derived.Test.YtpibinkekfkafaaIp4Q
import Derived.Test.YtpibinkekfkafaaFrA
namespace Go.Proofs.Ytpibinkekfkafaa
open Go.RowKit
set_option maxRecDepth 100000 in
set_option maxHeartbeats 8000000 in
theorem rip4_parse_x (n : Nat) (A : Option Addr) (c : Nat) (l : List Nat) (w0 : World) (hv : View w0 w0.heap.size A (l.map u8v)) (hl : l.length = n) (hc : n ≤ c) (hb : Bytes l) (hn4 : n ≤ 1000000)
    (sz len : Nat) (hf : Ip4Form l n sz len) (hlen : len ≤ n) (hsum : SumOk l sz) :
    Calls Try.prog 11 #[.slice A n c] w0 fun e w' => ∃ O co L cl, e = .returned (.tuple #[.agg (hdV (getN l 1 1) (len : Int) (getN l 4 2) (decide (getN l 6 2 / 2 ^ 14 % 2 = 1)) (decide (getN l 6 2 / 2 ^ 13 % 2 = 1)) ((getN l 6 2 % 8192 : Nat) : Int) (getN l 8 1) (getN l 9 1) (getN l 10 2) ⟨false, 0, getN l 12 4⟩ ⟨false, 0, getN l 16 4⟩ O (sz - 20) co).toArray, .slice L (len - sz) cl, .int .i64 0]) ∧
      len - sz ≤ cl ∧ NewV w0 w' O (((l.drop 20).take (sz - 20)).map u8v) ∧ NewV w0 w' L (((l.drop sz).take (len - sz)).map u8v) ∧ Kp [] w0 w' := by
  obtain ⟨n20, four, size, sz20, flags, hle, szlen⟩ := hf
  have hS := (St.sv w0).vcons rfl hv
  have hq : l.getD 0 0 = nth l 0 := rfl
  have hqb := nth_lt hb 0
  have hz : l.getD 0 0 % 16 * 4 = sz := size
  have hfl := getN_lt hb 6 2
  have hle2 := getN_lt hb 2 2
  have h4_ := getN_lt hb 4 2
  have h10_ := getN_lt hb 10 2
  have h12_ := getN_lt hb 12 4
  have h16_ := getN_lt hb 16 4
  have e1 : getN l 1 1 = l.getD 1 0 := getN_one (by omega)
  have e8 : getN l 8 1 = l.getD 8 0 := getN_one (by omega)
  have e9 : getN l 9 1 = l.getD 9 0 := getN_one (by omega)
  have e14 : decide (((getN l 6 2 / 16384 % 2 : Nat) : Int) = ((1 : Nat) : Int)) = decide (getN l 6 2 / 2 ^ 14 % 2 = 1) := by
    rw [Bool.eq_iff_iff]; simp only [nrm, decide_eq_true_eq]; try omega
  have e13 : decide (((getN l 6 2 / 8192 % 2 : Nat) : Int) = ((1 : Nat) : Int)) = decide (getN l 6 2 / 2 ^ 13 % 2 = 1) := by
    rw [Bool.eq_iff_iff]; simp only [nrm, decide_eq_true_eq]; try omega
  have htl : (l.take sz).length = sz := by rw [List.length_take]; omega
  have hfb := foldN_bd (psum (l.take sz) sz)
  have hsum' : foldN (psum (l.take sz) sz) = 65535 := hsum
  obtain ⟨b4, o4, rfl⟩ := view_some hv (by rw [List.length_map]; omega)
  refine ent (n := 103) Try.func11 rfl rfl ?_
  refine wp_seq_k ?_; intro K1 hK1
  refine wlit ?_
  refine wl_e rfl ?_; intro K hK
  refine ow_alloc hS tz_41 rfl ?_
  clear hS; intro g0_0 w hg0_0 hS
  refine hK _ _ ?_; clear hK K
  refine wl_v (x_assign ev_c) ?_
  refine wl_v (x_assign (ev_cN 0)) ?_
  refine wl_nil ?_
  refine then_n (hK1 _ _ ?_); clear hK1 K1
  refine wp_seq_k ?_; intro K2 hK2
  refine wp_seq_k ?_; intro K3 hK3
  refine wlit ?_
  refine wl_v (x_move (tmS rfl rfl)) ?_
  refine wl_v (x_len Try.underlying22 (tmS rfl rfl)) ?_
  refine wl_v (x_lss (tmI rfl rfl) (ev_cN 20)) ?_
  refine wl_nil ?_
  refine then_n (hK3 _ _ ?_); clear hK3 K3
  refine cnd (tm rfl) (fun hc0 => ?_) (fun hc0 => ?_)
  · exfalso
    simp only [nrm] at hc0
    omega
  try (exfalso; first | with_reducible exact absurd hc0 Bool.false_ne_true | with_reducible exact absurd hc0.symm Bool.false_ne_true | (simp only [nrm] at hc0; omega) | (simp at hc0; done))
  all_goals
   try simp only [nrm] at hc0
   refine wp_skip ?_
   refine then_n (hK2 _ _ ?_); clear hK2 K2
   refine wp_seq_k ?_; intro K4 hK4
   refine wlit ?_
   refine wl_v (x_move (tmS rfl rfl)) ?_
   refine wl_v (x_ixs1 Try.underlying22 ts_5 (tmS rfl rfl) (ev_cN 0) (by omega)) ?_
   first
    | refine wl_v (x_load Try.underlying5 rfl (tmP rfl rfl) (cellV hS.ok 1 rfl rfl)) ?_
    | refine wl_v (x_load Try.underlying5 rfl (tmP rfl rfl) (cellV hS.ok 1 rfl (getm (by omega)))) ?_
    | refine wl_v (x_load Try.underlying5 rfl (tmP rfl rfl) (cellVs hS.ok 1 rfl (fun _ => rfl) rfl (by omega) rfl)) ?_
   first
    | refine wl_v (x_remN (tmI rfl rfl) (ev_cN 16) (by omega)) ?_
    | refine wl_v (x_rem (tmI rfl rfl) (ev_cN 16) (by omega)) ?_
   first
    | refine wl_v (x_convN Try.underlying5 Try.underlying3 (tmI rfl rfl) (fit_i64 (by omega))) ?_
    | refine wl_v (x_conv Try.underlying5 Try.underlying3 (tmI rfl rfl)) ?_
   first
    | refine wl_v (x_mulN (tmI rfl rfl) (ev_cN 4) (fit_i64 (by omega))) ?_
    | refine wl_v (x_mulI (tmI rfl rfl) (ev_cN 4) (IntWalk.i64_in _ (by omega))) ?_
    | refine wl_v (x_mul (tmI rfl rfl) (ev_cN 4)) ?_
   refine wl_v (x_assign (tmI rfl (congrArg (fun q : Nat => Value.int .i64 (q : Int)) hz))) ?_
   refine wl_nil ?_
   refine then_n (hK4 _ _ ?_); clear hK4 K4
   refine wp_seq_k ?_; intro K5 hK5
   refine wp_seq_k ?_; intro K6 hK6
   refine wlit ?_
   refine wl_v (x_move (tmS rfl rfl)) ?_
   refine wl_v (x_ixs1 Try.underlying22 ts_5 (tmS rfl rfl) (ev_cN 0) (by omega)) ?_
   first
    | refine wl_v (x_load Try.underlying5 rfl (tmP rfl rfl) (cellV hS.ok 1 rfl rfl)) ?_
    | refine wl_v (x_load Try.underlying5 rfl (tmP rfl rfl) (cellV hS.ok 1 rfl (getm (by omega)))) ?_
    | refine wl_v (x_load Try.underlying5 rfl (tmP rfl rfl) (cellVs hS.ok 1 rfl (fun _ => rfl) rfl (by omega) rfl)) ?_
   first
    | refine wl_v (x_quoN (tmI rfl rfl) (ev_cN 16) (by omega) (fit_u8 (by omega))) ?_
    | refine wl_v (x_quo (tmI rfl rfl) (ev_cN 16) (by omega)) ?_
   refine wl_v (x_neq (tmI rfl rfl) (ev_cN 4)) ?_
   refine wl_v (x_move (tmB rfl rfl)) ?_
   refine gs_wl (tm (t := 23) rfl) (fun hg4_5 => ?_) (fun hg4_5 => ?_)
   · have hg4_5' := hg4_5; (try simp only [nrm] at hg4_5'); try (exfalso; first | with_reducible exact absurd hg4_5 Bool.false_ne_true | with_reducible exact absurd hg4_5.symm Bool.false_ne_true | omega | (simp at hg4_5; done))
     all_goals
      refine wl_s rfl (want_n rfl rfl rfl rfl (by rw [hg4_5]; rfl)) ?_
      refine wl_s rfl (want_n rfl rfl rfl rfl (by rw [hg4_5]; rfl)) ?_
      refine wl_v (x_pickT (tmB rfl rfl) hg4_5 ev_c) ?_
      refine wl_nil ?_
      refine then_n (hK6 _ _ ?_); clear hK6 K6
      refine cnd_t (tmB rfl rfl) rfl ?_
      refine wp_seq_k ?_; intro K7 hK7
      refine wlit ?_
      refine wl_v (x_build (bc_skip (.int .u8 0) <| bc_skip (.int .i64 0) <| bc_skip (.int .u16 0) <| bc_skip (.bool false) <| bc_skip (.bool false) <| bc_skip (.int .i64 0) <| bc_skip (.int .u8 0) <| bc_skip (.int .u8 0) <| bc_skip (.int .u16 0) <| bc_skipL [.bool false, .int .u64 0, .int .u64 0] <| bc_skipL [.bool false, .int .u64 0, .int .u64 0] <| bc_skip (.slice none 0 0) <| bc_nil) (by kernel_rfl)) ?_
      refine wl_e rfl ?_; intro K hK
      refine ow_storeA hS 0 rfl ts_41 (tmP rfl rfl) (tmA rfl rfl) rfl rfl rfl ?_
      clear hS; intro w hS
      try replace hS := St.nm (M' := [.blk _ _ [_, _, _, _, _, _, _, _, _, _, _, _, _, _, _, _], .vw _ _]) hS rfl
      refine hK _ _ ?_; clear hK K
      refine wl_v (x_assign ev_c) ?_
      refine wl_v (x_assign (ev_cN 21)) ?_
      refine wl_nil ?_
      refine then_n (hK7 _ _ ?_); clear hK7 K7
      refine wp_ret ?_
      refine then_r ?_
      refine ret3 rfl (.cell rfl rfl (load_rowB (cs := [_, _, _, _, _, _, _, _, _, _, _, _, _, _, _, _]) hS.ok 0 rfl Try.underlying41 rfl ts_41 rfl)) (.tmp rfl (show _ = Value.slice _ _ _ from rfl)) (.tmp rfl (show _ = Value.int _ _ from rfl)) ?_
      refine ⟨g16_4, cg16_4, g17_7, cg17_7, ?_, row_cap (hS.rowOk (no_label_row) rfl) (by decide), hS.newv (no_label_rowo) rfl, hS.newv (no_label_row) rfl, hS.kp⟩
      rw [e1, e8, e9, Nat.zero_add]
      rfl
   have hg4_5' := hg4_5; (try simp only [nrm] at hg4_5'); try (exfalso; first | with_reducible exact absurd hg4_5 Bool.false_ne_true | with_reducible exact absurd hg4_5.symm Bool.false_ne_true | omega | (simp at hg4_5; done))
   all_goals
    refine wl_gv (want_y rfl rfl rfl rfl (by rw [hg4_5]; rfl)) (x_move (tmI rfl rfl)) ?_
    refine wl_gv (want_y rfl rfl rfl rfl (by rw [hg4_5]; rfl)) (x_lss (tmI rfl rfl) (ev_cN 20)) ?_
    refine wl_v (x_pickF (tmB rfl rfl) hg4_5 (tmB rfl rfl)) ?_
    refine wl_nil ?_
    refine then_n (hK6 _ _ ?_); clear hK6 K6
    refine cnd (tm rfl) (fun hc1 => ?_) (fun hc1 => ?_)
    · exfalso
      simp only [nrm] at hc1
      omega
    try (exfalso; first | with_reducible exact absurd hc1 Bool.false_ne_true | with_reducible exact absurd hc1.symm Bool.false_ne_true | (simp only [nrm] at hc1; omega) | (simp at hc1; done))
    all_goals
     try simp only [nrm] at hc1
     refine wp_skip ?_
     refine then_n (hK5 _ _ ?_); clear hK5 K5
     refine wp_seq_k ?_; intro K9 hK9
     refine wlit ?_
     refine wl_v (x_move (tmS rfl rfl)) ?_
     refine wl_e rfl ?_; intro K hK
     refine ow_call Try.func20 rfl rfl (evs_cons (tmS rfl rfl) <| evs_cons (ev_cN 6) <| evs_cons (ev_cN 2) <| evs_nil) (get_c n _ c l _ _ _ (viewV hS.ok 1 rfl) hl hc hn4 hb (by omega) (by omega)) ?_
     rintro e w ⟨rfl, hk⟩
     refine ⟨_, rfl, ?_⟩
     replace hS := hS.kept hk
     clear hk
     refine hK _ _ ?_; clear hK K
     refine wl_v (x_assign (tmI rfl rfl)) ?_
     refine wl_nil ?_
     refine then_n (hK9 _ _ ?_); clear hK9 K9
     refine wp_seq_k ?_; intro K10 hK10
     refine rg_startk 0 hS mixed_ ?_
     clear hS; intro w hS
     refine rg_take 0 rfl rfl (by kernel_rfl) (by kernel_rfl) (by kernel_rfl) (want_0) (fun w hok => x_move (tmS rfl rfl)) ?_
     refine rg_take 1 rfl rfl (by kernel_rfl) (by kernel_rfl) (by kernel_rfl) (want_0) (fun w hok => x_ixs1 Try.underlying22 ts_5 (tmS rfl rfl) (ev_cN 1) (by omega)) ?_
     first
      | refine rg_take 2 rfl rfl (by kernel_rfl) (by kernel_rfl) (by kernel_rfl) (want_0) (fun w hok => x_load Try.underlying5 rfl (tmP rfl rfl) (cellV hok 1 rfl rfl)) ?_
      | refine rg_take 2 rfl rfl (by kernel_rfl) (by kernel_rfl) (by kernel_rfl) (want_0) (fun w hok => x_load Try.underlying5 rfl (tmP rfl rfl) (cellV hok 1 rfl (getm (by omega)))) ?_
      | refine rg_take 2 rfl rfl (by kernel_rfl) (by kernel_rfl) (by kernel_rfl) (want_0) (fun w hok => x_load Try.underlying5 rfl (tmP rfl rfl) (cellVs hok 1 rfl (fun _ => rfl) rfl (by omega) rfl)) ?_
     refine rg_take 3 rfl rfl (by kernel_rfl) (by kernel_rfl) (by kernel_rfl) (want_0) (fun w hok => x_move (tmS rfl rfl)) ?_
     refine rg_take 6 rfl rfl (by kernel_rfl) (by kernel_rfl) (by kernel_rfl) (want_0) (fun w hok => x_move (tmS rfl rfl)) ?_
     refine rg_take 9 rfl rfl (by kernel_rfl) (by kernel_rfl) (by kernel_rfl) (want_0) (fun w hok => x_move (tmI rfl rfl)) ?_
     first
      | refine rg_take 10 rfl rfl (by kernel_rfl) (by kernel_rfl) (by kernel_rfl) (want_0) (fun w hok => x_quoN (tmI rfl rfl) (ev_cN 16384) (by omega) (fit_u64 (by omega))) ?_
      | refine rg_take 10 rfl rfl (by kernel_rfl) (by kernel_rfl) (by kernel_rfl) (want_0) (fun w hok => x_quo (tmI rfl rfl) (ev_cN 16384) (by omega)) ?_
     first
      | refine rg_take 11 rfl rfl (by kernel_rfl) (by kernel_rfl) (by kernel_rfl) (want_0) (fun w hok => x_remN (tmI rfl rfl) (ev_cN 2) (by omega)) ?_
      | refine rg_take 11 rfl rfl (by kernel_rfl) (by kernel_rfl) (by kernel_rfl) (want_0) (fun w hok => x_rem (tmI rfl rfl) (ev_cN 2) (by omega)) ?_
     refine rg_take 12 rfl rfl (by kernel_rfl) (by kernel_rfl) (by kernel_rfl) (want_0) (fun w hok => (congrArg (fun q : Bool => Value.bool q) e14) ▸ x_eql (tmI rfl rfl) (ev_cN 1)) ?_
     refine rg_take 13 rfl rfl (by kernel_rfl) (by kernel_rfl) (by kernel_rfl) (want_0) (fun w hok => x_move (tmI rfl rfl)) ?_
     first
      | refine rg_take 14 rfl rfl (by kernel_rfl) (by kernel_rfl) (by kernel_rfl) (want_0) (fun w hok => x_quoN (tmI rfl rfl) (ev_cN 8192) (by omega) (fit_u64 (by omega))) ?_
      | refine rg_take 14 rfl rfl (by kernel_rfl) (by kernel_rfl) (by kernel_rfl) (want_0) (fun w hok => x_quo (tmI rfl rfl) (ev_cN 8192) (by omega)) ?_
     first
      | refine rg_take 15 rfl rfl (by kernel_rfl) (by kernel_rfl) (by kernel_rfl) (want_0) (fun w hok => x_remN (tmI rfl rfl) (ev_cN 2) (by omega)) ?_
      | refine rg_take 15 rfl rfl (by kernel_rfl) (by kernel_rfl) (by kernel_rfl) (want_0) (fun w hok => x_rem (tmI rfl rfl) (ev_cN 2) (by omega)) ?_
     refine rg_take 16 rfl rfl (by kernel_rfl) (by kernel_rfl) (by kernel_rfl) (want_0) (fun w hok => (congrArg (fun q : Bool => Value.bool q) e13) ▸ x_eql (tmI rfl rfl) (ev_cN 1)) ?_
     refine rg_take 17 rfl rfl (by kernel_rfl) (by kernel_rfl) (by kernel_rfl) (want_0) (fun w hok => x_move (tmI rfl rfl)) ?_
     first
      | refine rg_take 18 rfl rfl (by kernel_rfl) (by kernel_rfl) (by kernel_rfl) (want_0) (fun w hok => x_remN (tmI rfl rfl) (ev_cN 8192) (by omega)) ?_
      | refine rg_take 18 rfl rfl (by kernel_rfl) (by kernel_rfl) (by kernel_rfl) (want_0) (fun w hok => x_rem (tmI rfl rfl) (ev_cN 8192) (by omega)) ?_
     first
      | refine rg_take 19 rfl rfl (by kernel_rfl) (by kernel_rfl) (by kernel_rfl) (want_0) (fun w hok => x_convN Try.underlying37 Try.underlying3 (tmI rfl rfl) (fit_i64 (by omega))) ?_
      | refine rg_take 19 rfl rfl (by kernel_rfl) (by kernel_rfl) (by kernel_rfl) (want_0) (fun w hok => x_conv Try.underlying37 Try.underlying3 (tmI rfl rfl)) ?_
     refine rg_take 20 rfl rfl (by kernel_rfl) (by kernel_rfl) (by kernel_rfl) (want_0) (fun w hok => x_move (tmS rfl rfl)) ?_
     refine rg_take 21 rfl rfl (by kernel_rfl) (by kernel_rfl) (by kernel_rfl) (want_0) (fun w hok => x_ixs1 Try.underlying22 ts_5 (tmS rfl rfl) (ev_cN 8) (by omega)) ?_
     first
      | refine rg_take 22 rfl rfl (by kernel_rfl) (by kernel_rfl) (by kernel_rfl) (want_0) (fun w hok => x_load Try.underlying5 rfl (tmP rfl rfl) (cellV hok 1 rfl rfl)) ?_
      | refine rg_take 22 rfl rfl (by kernel_rfl) (by kernel_rfl) (by kernel_rfl) (want_0) (fun w hok => x_load Try.underlying5 rfl (tmP rfl rfl) (cellV hok 1 rfl (getm (by omega)))) ?_
      | refine rg_take 22 rfl rfl (by kernel_rfl) (by kernel_rfl) (by kernel_rfl) (want_0) (fun w hok => x_load Try.underlying5 rfl (tmP rfl rfl) (cellVs hok 1 rfl (fun _ => rfl) rfl (by omega) rfl)) ?_
     refine rg_take 23 rfl rfl (by kernel_rfl) (by kernel_rfl) (by kernel_rfl) (want_0) (fun w hok => x_move (tmS rfl rfl)) ?_
     refine rg_take 24 rfl rfl (by kernel_rfl) (by kernel_rfl) (by kernel_rfl) (want_0) (fun w hok => x_ixs1 Try.underlying22 ts_5 (tmS rfl rfl) (ev_cN 9) (by omega)) ?_
     first
      | refine rg_take 25 rfl rfl (by kernel_rfl) (by kernel_rfl) (by kernel_rfl) (want_0) (fun w hok => x_load Try.underlying5 rfl (tmP rfl rfl) (cellV hok 1 rfl rfl)) ?_
      | refine rg_take 25 rfl rfl (by kernel_rfl) (by kernel_rfl) (by kernel_rfl) (want_0) (fun w hok => x_load Try.underlying5 rfl (tmP rfl rfl) (cellV hok 1 rfl (getm (by omega)))) ?_
      | refine rg_take 25 rfl rfl (by kernel_rfl) (by kernel_rfl) (by kernel_rfl) (want_0) (fun w hok => x_load Try.underlying5 rfl (tmP rfl rfl) (cellVs hok 1 rfl (fun _ => rfl) rfl (by omega) rfl)) ?_
     refine rg_take 26 rfl rfl (by kernel_rfl) (by kernel_rfl) (by kernel_rfl) (want_0) (fun w hok => x_move (tmS rfl rfl)) ?_
     refine rg_step2 4 30 rfl rfl (by kernel_rfl) (want_0) (want_0) (oks_drop hS 0 rfl) ?_ ?_
     · intro K hK
       refine ow_call Try.func20 rfl rfl (evs_cons (tmS rfl rfl) <| evs_cons (ev_cN 2) <| evs_cons (ev_cN 2) <| evs_nil) (get_c n _ c l _ _ _ (viewV hS.ok 1 rfl) hl hc hn4 hb (by omega) (by omega)) ?_
       rintro e w ⟨rfl, hk⟩
       refine ⟨_, rfl, ?_⟩
       replace hS := hS.kept hk
       clear hk
       refine hK _ _ ?_; clear hK K
       refine rg_take 5 rfl rfl (by kernel_rfl) (by kernel_rfl) (by kernel_rfl) (want_0) (fun w hok => x_convN Try.underlying37 Try.underlying3 (tmI rfl (congrArg (fun q : Nat => Value.int .u64 (q : Int)) hle)) (fit_i64 (by omega))) ?_
       refine rg_step2 7 30 rfl rfl (by kernel_rfl) (want_0) (want_0) (oks_drop hS 0 rfl) ?_ ?_
       · intro K hK
         refine ow_call Try.func20 rfl rfl (evs_cons (tmS rfl rfl) <| evs_cons (ev_cN 4) <| evs_cons (ev_cN 2) <| evs_nil) (get_c n _ c l _ _ _ (viewV hS.ok 1 rfl) hl hc hn4 hb (by omega) (by omega)) ?_
         rintro e w ⟨rfl, hk⟩
         refine ⟨_, rfl, ?_⟩
         replace hS := hS.kept hk
         clear hk
         refine hK _ _ ?_; clear hK K
         first
          | refine rg_take 8 rfl rfl (by kernel_rfl) (by kernel_rfl) (by kernel_rfl) (want_0) (fun w hok => x_convN Try.underlying37 Try.underlying36 (tmI rfl rfl) (fit_u16 (by omega))) ?_
          | refine rg_take 8 rfl rfl (by kernel_rfl) (by kernel_rfl) (by kernel_rfl) (want_0) (fun w hok => x_convU Try.underlying37 Try.underlying36 (tmI rfl rfl) rfl) ?_
          | refine rg_take 8 rfl rfl (by kernel_rfl) (by kernel_rfl) (by kernel_rfl) (want_0) (fun w hok => x_conv Try.underlying37 Try.underlying36 (tmI rfl rfl)) ?_
         refine rg_step2 27 30 rfl rfl (by kernel_rfl) (want_0) (want_0) (oks_drop hS 0 rfl) ?_ ?_
         · intro K hK
           refine ow_call Try.func20 rfl rfl (evs_cons (tmS rfl rfl) <| evs_cons (ev_cN 10) <| evs_cons (ev_cN 2) <| evs_nil) (get_c n _ c l _ _ _ (viewV hS.ok 1 rfl) hl hc hn4 hb (by omega) (by omega)) ?_
           rintro e w ⟨rfl, hk⟩
           refine ⟨_, rfl, ?_⟩
           replace hS := hS.kept hk
           clear hk
           refine hK _ _ ?_; clear hK K
           first
            | refine rg_take 28 rfl rfl (by kernel_rfl) (by kernel_rfl) (by kernel_rfl) (want_0) (fun w hok => x_convN Try.underlying37 Try.underlying36 (tmI rfl rfl) (fit_u16 (by omega))) ?_
            | refine rg_take 28 rfl rfl (by kernel_rfl) (by kernel_rfl) (by kernel_rfl) (want_0) (fun w hok => x_convU Try.underlying37 Try.underlying36 (tmI rfl rfl) rfl) ?_
            | refine rg_take 28 rfl rfl (by kernel_rfl) (by kernel_rfl) (by kernel_rfl) (want_0) (fun w hok => x_conv Try.underlying37 Try.underlying36 (tmI rfl rfl)) ?_
           refine rg_take 29 rfl rfl (by kernel_rfl) (by kernel_rfl) (by kernel_rfl) (want_0) (fun w hok => x_build (bc_take (tmI rfl rfl) <| bc_take (tmI rfl rfl) <| bc_take (tmI rfl rfl) <| bc_take (tmB rfl rfl) <| bc_take (tmB rfl rfl) <| bc_take (tmI rfl rfl) <| bc_take (tmI rfl rfl) <| bc_take (tmI rfl rfl) <| bc_take (tmI rfl rfl) <| bc_skipL [.bool false, .int .u64 0, .int .u64 0] <| bc_skipL [.bool false, .int .u64 0, .int .u64 0] <| bc_skip (.slice none 0 0) <| bc_nil) (by kernel_rfl)) ?_
           refine rg_step 30 rfl (by kernel_rfl) (want_0) (oks_drop hS 0 rfl) ?_; intro K hK
           refine ow_alloc hS tz_41 rfl ?_
           clear hS; intro g7_30 w hg7_30 hS
           refine hK _ _ ?_; clear hK K
           refine rg_step 31 rfl (by kernel_rfl) (want_0) (oks_drop hS 1 rfl) ?_; intro K hK
           refine ow_storeA hS 0 rfl ts_41 (tmP rfl rfl) (tmA rfl rfl) rfl rfl rfl ?_
           clear hS; intro w hS
           try replace hS := St.nm (M' := [.blk _ _ [_, _, _, _, _, _, _, _, _, _, _, _, _, _, _, _], .blk _ _ [_, _, _, _, _, _, _, _, _, _, _, _, _, _, _, _], .vw _ _]) hS rfl
           refine hK _ _ ?_; clear hK K
           refine rg_done (oks_drop hS 1 rfl) (by kernel_rfl) ?_
           refine then_n (hK10 _ _ ?_); clear hK10 K10
           refine wp_seq_k ?_; intro K11 hK11
           refine wlit ?_
           refine wl_v (x_move (tmS rfl rfl)) ?_
           refine wl_e rfl ?_; intro K hK
           refine ow_call Try.func20 rfl rfl (evs_cons (tmS rfl rfl) <| evs_cons (ev_cN 12) <| evs_cons (ev_cN 4) <| evs_nil) (get_c n _ c l _ _ _ (viewV hS.ok 2 rfl) hl hc hn4 hb (by omega) (by omega)) ?_
           rintro e w ⟨rfl, hk⟩
           refine ⟨_, rfl, ?_⟩
           replace hS := hS.kept hk
           clear hk
           refine hK _ _ ?_; clear hK K
           refine wl_v (x_build (bc_skip (.bool false) <| bc_skip (.int .u64 0) <| bc_take (tmI rfl rfl) <| bc_nil) (by kernel_rfl)) ?_
           refine wl_v (x_fa 9 Try.underlying41 rfl rfl ts_39 (tmP rfl rfl)) ?_
           refine wl_e rfl ?_; intro K hK
           refine ow_storeA hS 0 rfl ts_39 (tmP rfl rfl) (tmA rfl rfl) rfl rfl rfl ?_
           clear hS; intro w hS
           try replace hS := St.nm (M' := [.blk _ _ [_, _, _, _, _, _, _, _, _, _, _, _, _, _, _, _], .blk _ _ [_, _, _, _, _, _, _, _, _, _, _, _, _, _, _, _], .vw _ _]) hS rfl
           refine hK _ _ ?_; clear hK K
           refine wl_nil ?_
           refine then_n (hK11 _ _ ?_); clear hK11 K11
           refine wp_seq_k ?_; intro K12 hK12
           refine wlit ?_
           refine wl_v (x_move (tmS rfl rfl)) ?_
           refine wl_e rfl ?_; intro K hK
           refine ow_call Try.func20 rfl rfl (evs_cons (tmS rfl rfl) <| evs_cons (ev_cN 16) <| evs_cons (ev_cN 4) <| evs_nil) (get_c n _ c l _ _ _ (viewV hS.ok 2 rfl) hl hc hn4 hb (by omega) (by omega)) ?_
           rintro e w ⟨rfl, hk⟩
           refine ⟨_, rfl, ?_⟩
           replace hS := hS.kept hk
           clear hk
           refine hK _ _ ?_; clear hK K
           refine wl_v (x_build (bc_skip (.bool false) <| bc_skip (.int .u64 0) <| bc_take (tmI rfl rfl) <| bc_nil) (by kernel_rfl)) ?_
           refine wl_v (x_fa 12 Try.underlying41 rfl rfl ts_39 (tmP rfl rfl)) ?_
           refine wl_e rfl ?_; intro K hK
           refine ow_storeA hS 0 rfl ts_39 (tmP rfl rfl) (tmA rfl rfl) rfl rfl rfl ?_
           clear hS; intro w hS
           try replace hS := St.nm (M' := [.blk _ _ [_, _, _, _, _, _, _, _, _, _, _, _, _, _, _, _], .blk _ _ [_, _, _, _, _, _, _, _, _, _, _, _, _, _, _, _], .vw _ _]) hS rfl
           refine hK _ _ ?_; clear hK K
           refine wl_nil ?_
           refine then_n (hK12 _ _ ?_); clear hK12 K12
           refine wp_seq_k ?_; intro K13 hK13
           refine wp_seq_k ?_; intro K14 hK14
           refine wlit ?_
           refine wl_v (x_move (tmI rfl rfl)) ?_
           refine wl_v (x_gtr (tmI rfl rfl) (ev_cN 32767)) ?_
           refine wl_v (x_move (tmB rfl rfl)) ?_
           refine gs_wl (tm (t := 70) rfl) (fun hg10_2 => ?_) (fun hg10_2 => ?_)
           · have hg10_2' := hg10_2; (try simp only [nrm] at hg10_2'); try (exfalso; first | with_reducible exact absurd hg10_2 Bool.false_ne_true | with_reducible exact absurd hg10_2.symm Bool.false_ne_true | omega | (simp at hg10_2; done))
             all_goals
              refine wl_s rfl (want_n rfl rfl rfl rfl (by rw [hg10_2]; rfl)) ?_
              refine wl_s rfl (want_n rfl rfl rfl rfl (by rw [hg10_2]; rfl)) ?_
              refine wl_s rfl (want_n rfl rfl rfl rfl (by rw [hg10_2]; rfl)) ?_
              refine wl_s rfl (want_n rfl rfl rfl rfl (by rw [hg10_2]; rfl)) ?_
              refine wl_v (x_pickT (tmB rfl rfl) hg10_2 ev_c) ?_
              refine wl_nil ?_
              refine then_n (hK14 _ _ ?_); clear hK14 K14
              refine cnd_t (tmB rfl rfl) rfl ?_
              refine wp_seq_k ?_; intro K15 hK15
              refine wlit ?_
              refine wl_v (x_build (bc_skip (.int .u8 0) <| bc_skip (.int .i64 0) <| bc_skip (.int .u16 0) <| bc_skip (.bool false) <| bc_skip (.bool false) <| bc_skip (.int .i64 0) <| bc_skip (.int .u8 0) <| bc_skip (.int .u8 0) <| bc_skip (.int .u16 0) <| bc_skipL [.bool false, .int .u64 0, .int .u64 0] <| bc_skipL [.bool false, .int .u64 0, .int .u64 0] <| bc_skip (.slice none 0 0) <| bc_nil) (by kernel_rfl)) ?_
              refine wl_e rfl ?_; intro K hK
              refine ow_storeA hS 1 rfl ts_41 (tmP rfl rfl) (tmA rfl rfl) rfl rfl rfl ?_
              clear hS; intro w hS
              try replace hS := St.nm (M' := [.blk _ _ [_, _, _, _, _, _, _, _, _, _, _, _, _, _, _, _], .blk _ _ [_, _, _, _, _, _, _, _, _, _, _, _, _, _, _, _], .vw _ _]) hS rfl
              refine hK _ _ ?_; clear hK K
              refine wl_v (x_assign ev_c) ?_
              refine wl_v (x_assign (ev_cN 21)) ?_
              refine wl_nil ?_
              refine then_n (hK15 _ _ ?_); clear hK15 K15
              refine wp_ret ?_
              refine then_r ?_
              refine ret3 rfl (.cell rfl rfl (load_rowB (cs := [_, _, _, _, _, _, _, _, _, _, _, _, _, _, _, _]) hS.ok 1 rfl Try.underlying41 rfl ts_41 rfl)) (.tmp rfl (show _ = Value.slice _ _ _ from rfl)) (.tmp rfl (show _ = Value.int _ _ from rfl)) ?_
              refine ⟨g16_4, cg16_4, g17_7, cg17_7, ?_, row_cap (hS.rowOk (no_label_row) rfl) (by decide), hS.newv (no_label_rowo) rfl, hS.newv (no_label_row) rfl, hS.kp⟩
              rw [e1, e8, e9, Nat.zero_add]
              rfl
           have hg10_2' := hg10_2; (try simp only [nrm] at hg10_2'); try (exfalso; first | with_reducible exact absurd hg10_2 Bool.false_ne_true | with_reducible exact absurd hg10_2.symm Bool.false_ne_true | omega | (simp at hg10_2; done))
           all_goals
            refine wl_gv (want_y rfl rfl rfl rfl (by rw [hg10_2]; rfl)) (x_fa 1 Try.underlying41 rfl rfl ts_3 (tmP rfl rfl)) ?_
            first
             | refine wl_gv (want_y rfl rfl rfl rfl (by rw [hg10_2]; rfl)) (x_load Try.underlying3 rfl (tmP rfl rfl) (cellB hS.ok 0 rfl rfl)) ?_
             | refine wl_gv (want_y rfl rfl rfl rfl (by rw [hg10_2]; rfl)) (x_load Try.underlying3 rfl (tmP rfl rfl) (cellB hS.ok 0 rfl (getm (by omega)))) ?_
            refine wl_gv (want_y rfl rfl rfl rfl (by rw [hg10_2]; rfl)) (x_move (tmI rfl rfl)) ?_
            refine wl_gv (want_y rfl rfl rfl rfl (by rw [hg10_2]; rfl)) (x_lss (tmI rfl rfl) (tmI rfl rfl)) ?_
            refine wl_v (x_pickF (tmB rfl rfl) hg10_2 (tmB rfl rfl)) ?_
            refine wl_nil ?_
            refine then_n (hK14 _ _ ?_); clear hK14 K14
            refine cnd (tm rfl) (fun hc2 => ?_) (fun hc2 => ?_)
            · exfalso
              simp only [nrm] at hc2
              omega
            try (exfalso; first | with_reducible exact absurd hc2 Bool.false_ne_true | with_reducible exact absurd hc2.symm Bool.false_ne_true | (simp only [nrm] at hc2; omega) | (simp at hc2; done))
            all_goals
             try simp only [nrm] at hc2
             refine wp_skip ?_
             refine then_n (hK13 _ _ ?_); clear hK13 K13
             refine wp_seq_k ?_; intro K17 hK17
             refine wp_seq_k ?_; intro K18 hK18
             refine wlit ?_
             refine wl_v (x_move (tmS rfl rfl)) ?_
             refine wl_v (x_len Try.underlying22 (tmS rfl rfl)) ?_
             refine wl_v (x_fa 1 Try.underlying41 rfl rfl ts_3 (tmP rfl rfl)) ?_
             first
              | refine wl_v (x_load Try.underlying3 rfl (tmP rfl rfl) (cellB hS.ok 0 rfl rfl)) ?_
              | refine wl_v (x_load Try.underlying3 rfl (tmP rfl rfl) (cellB hS.ok 0 rfl (getm (by omega)))) ?_
             refine wl_v (x_lss (tmI rfl rfl) (tmI rfl rfl)) ?_
             refine wl_nil ?_
             refine then_n (hK18 _ _ ?_); clear hK18 K18
             refine cnd (tm rfl) (fun hc3 => ?_) (fun hc3 => ?_)
             · exfalso
               simp only [nrm] at hc3
               omega
             try (exfalso; first | with_reducible exact absurd hc3 Bool.false_ne_true | with_reducible exact absurd hc3.symm Bool.false_ne_true | (simp only [nrm] at hc3; omega) | (simp at hc3; done))
             all_goals
              try simp only [nrm] at hc3
              refine wp_skip ?_
              refine then_n (hK17 _ _ ?_); clear hK17 K17
              refine wp_seq_k ?_; intro K19 hK19
              refine wp_seq_k ?_; intro K20 hK20
              refine wlit ?_
              refine wl_v (x_move (tmS rfl rfl)) ?_
              refine wl_v (x_move (tmI rfl rfl)) ?_
              refine wl_v (x_sliceH Try.underlying22 ts_5 (tmS rfl rfl) (tmI rfl rfl) (by omega)) ?_
              replace hS := hS.cutb 2 0 sz rfl (by omega : l.length ≤ c)
              refine wl_e rfl ?_; intro K hK
              refine ow_call Try.func21 rfl rfl (evs_cons (tmS rfl rfl) <| evs_nil) (rsum_of_c sz _ _ (l.take sz) _ (viewV hS.ok 0 rfl) htl (hb.take sz) (by omega)) ?_
              rintro e w ⟨rfl, hk⟩
              refine ⟨_, rfl, ?_⟩
              replace hS := hS.kept hk
              clear hk
              refine hK _ _ ?_; clear hK K
              refine wl_v (x_neq (tmI rfl rfl) (ev_cN 0)) ?_
              refine wl_nil ?_
              refine then_n (hK20 _ _ ?_); clear hK20 K20
              refine cnd (tm rfl) (fun hc4 => ?_) (fun hc4 => ?_)
              · exfalso
                simp only [nrm] at hc4
                omega
              try (exfalso; first | with_reducible exact absurd hc4 Bool.false_ne_true | with_reducible exact absurd hc4.symm Bool.false_ne_true | (simp only [nrm] at hc4; omega) | (simp at hc4; done))
              all_goals
               try simp only [nrm] at hc4
               refine wp_skip ?_
               refine then_n (hK19 _ _ ?_); clear hK19 K19
               refine wp_seq_k ?_; intro K21 hK21
               refine wlit ?_
               refine wl_e rfl ?_; intro K hK
               refine ow_build0 hS Try.underlying22 tz_5 rfl rfl ?_
               clear hS; intro g16_0 w hg16_0 hS
               refine hK _ _ ?_; clear hK K
               refine wl_v (x_move (tmS rfl rfl)) ?_
               refine wl_v (x_move (tmI rfl rfl)) ?_
               refine wl_v (x_sliceLH Try.underlying22 ts_5 (tmS rfl rfl) (ev_cN 20) (tmI rfl rfl) (by omega)) ?_
               replace hS := hS.cutb 4 20 (sz - 20) rfl (by omega : l.length ≤ c)
               refine wl_e rfl ?_; intro K hK
               first
                | (refine ow_append hS 1 0 rfl rfl Try.underlying22 tz_5 rfl (tmS rfl rfl) (tmS rfl rfl) rfl ⟨by decide, by decide, rfl⟩ (by simp only [maxLen]; omega) (by omega) ?_; clear hS; intro g16_4 cg16_4 w hS)
                | (refine ow_append hS 1 2 rfl rfl Try.underlying22 tz_5 rfl (tmS rfl rfl) (tmS rfl rfl) rfl ⟨by decide, by decide, rfl⟩ (by simp only [maxLen]; omega) (by omega) ?_; clear hS; intro g16_4 cg16_4 w hS)
                | (refine ow_append hS 1 3 rfl rfl Try.underlying22 tz_5 rfl (tmS rfl rfl) (tmS rfl rfl) rfl ⟨by decide, by decide, rfl⟩ (by simp only [maxLen]; omega) (by omega) ?_; clear hS; intro g16_4 cg16_4 w hS)
                | (refine ow_append hS 1 4 rfl rfl Try.underlying22 tz_5 rfl (tmS rfl rfl) (tmS rfl rfl) rfl ⟨by decide, by decide, rfl⟩ (by simp only [maxLen]; omega) (by omega) ?_; clear hS; intro g16_4 cg16_4 w hS)
                | (refine ow_append hS 1 5 rfl rfl Try.underlying22 tz_5 rfl (tmS rfl rfl) (tmS rfl rfl) rfl ⟨by decide, by decide, rfl⟩ (by simp only [maxLen]; omega) (by omega) ?_; clear hS; intro g16_4 cg16_4 w hS)
                | (refine ow_appendV hS 1 rfl (viewV hS.ok 0 rfl) Try.underlying22 tz_5 rfl (tmS rfl rfl) (tmS rfl rfl) (by first | exact u8v_one _ | (intro u hu; simp at hu; first | (rcases hu with rfl | rfl <;> rfl) | (obtain ⟨_, _, rfl⟩ := hu; rfl))) ⟨by decide, by first | rfl | (simp; done) | (simp; omega)⟩ (by simp only [maxLen]; omega) (by omega) ?_; clear hS; intro g16_4 cg16_4 w hAg16_4 hCg16_4 hS)
                | (refine ow_appendV hS 1 rfl (viewR hS.ok 1 rfl) Try.underlying22 tz_5 rfl (tmS rfl rfl) (tmS rfl rfl) (by first | exact u8v_one _ | (intro u hu; simp at hu; first | (rcases hu with rfl | rfl <;> rfl) | (obtain ⟨_, _, rfl⟩ := hu; rfl))) ⟨by decide, by first | rfl | (simp; done) | (simp; omega)⟩ (by simp only [maxLen]; omega) (by omega) ?_; clear hS; intro g16_4 cg16_4 w hAg16_4 hCg16_4 hS)
                | (refine ow_appendV hS 1 rfl (viewV hS.ok 2 rfl) Try.underlying22 tz_5 rfl (tmS rfl rfl) (tmS rfl rfl) (by first | exact u8v_one _ | (intro u hu; simp at hu; first | (rcases hu with rfl | rfl <;> rfl) | (obtain ⟨_, _, rfl⟩ := hu; rfl))) ⟨by decide, by first | rfl | (simp; done) | (simp; omega)⟩ (by simp only [maxLen]; omega) (by omega) ?_; clear hS; intro g16_4 cg16_4 w hAg16_4 hCg16_4 hS)
                | (refine ow_appendV hS 1 rfl (viewV hS.ok 5 rfl) Try.underlying22 tz_5 rfl (tmS rfl rfl) (tmS rfl rfl) (by first | exact u8v_one _ | (intro u hu; simp at hu; first | (rcases hu with rfl | rfl <;> rfl) | (obtain ⟨_, _, rfl⟩ := hu; rfl))) ⟨by decide, by first | rfl | (simp; done) | (simp; omega)⟩ (by simp only [maxLen]; omega) (by omega) ?_; clear hS; intro g16_4 cg16_4 w hAg16_4 hCg16_4 hS)
                | (refine ow_appendV hS 1 rfl View.nil_ Try.underlying22 tz_5 rfl (tmS rfl rfl) (tmS rfl rfl) (by first | exact u8v_one _ | (intro u hu; simp at hu; first | (rcases hu with rfl | rfl <;> rfl) | (obtain ⟨_, _, rfl⟩ := hu; rfl))) ⟨by decide, by first | rfl | (simp; done) | (simp; omega)⟩ (by simp only [maxLen]; omega) (by omega) ?_; clear hS; intro g16_4 cg16_4 w hAg16_4 hCg16_4 hS)
               refine hK _ _ ?_; clear hK K
               refine wl_v (x_fa 15 Try.underlying41 rfl rfl ts_22 (tmP rfl rfl)) ?_
               refine wl_e rfl ?_; intro K hK
               first
                | refine ow_store hS 3 rfl ts_22 (tmP rfl rfl) (tmS rfl rfl) rfl rfl ?_
                | refine ow_storeX hS 3 rfl ts_22 (tmP rfl rfl) (tmS rfl rfl) rfl (by simp; omega) ?_
               clear hS; intro w hS
               try replace hS := St.nm (M' := [.vw _ _, .row _ _ _ _ _, .vw _ _, .blk _ _ [_, _, _, _, _, _, _, _, _, _, _, _, _, _, _, _], .blk _ _ [_, _, _, _, _, _, _, _, _, _, _, _, _, _, _, _], .vw _ _]) hS rfl
               refine hK _ _ ?_; clear hK K
               refine wl_nil ?_
               simp only [List.nil_append, Nat.zero_add] at hS
               refine then_n (hK21 _ _ ?_); clear hK21 K21
               refine wp_seq_k ?_; intro K22 hK22
               replace hS := hS.cutb 5 sz (len - sz) rfl (by omega : l.length ≤ c)
               replace hS := hS.pick [5, 4, 0, 2, 6] rfl rfl
               try replace hS := St.nm (M' := [.blk _ _ [_, _, _, _, _, _, _, _, _, _, _, _, _, _, _, _], .blk _ _ [_, _, _, _, _, _, _, _, _, _, _, _, _, _, _, _], .vw _ _, .row _ _ _ _ _, .vw _ _]) hS rfl
               refine rg_startk 1 hS mixed_ ?_
               clear hS; intro w hS
               refine rg_take 0 rfl rfl (by kernel_rfl) (by kernel_rfl) (by kernel_rfl) (want_0) (fun w hok => x_loadA (cs := [_, _, _, _, _, _, _, _, _, _, _, _, _, _, _, _]) Try.underlying41 rfl ts_41 (tmP rfl rfl) (rangeB hok 0 rfl rfl)) ?_
               refine rg_take 2 rfl rfl (by kernel_rfl) (by kernel_rfl) (by kernel_rfl) (want_0) (fun w hok => x_move (tmS rfl rfl)) ?_
               refine rg_take 3 rfl rfl (by kernel_rfl) (by kernel_rfl) (by kernel_rfl) (want_0) (fun w hok => x_move (tmI rfl rfl)) ?_
               refine rg_take 4 rfl rfl (by kernel_rfl) (by kernel_rfl) (by kernel_rfl) (want_0) (fun w hok => x_fa 1 Try.underlying41 rfl rfl ts_3 (tmP rfl rfl)) ?_
               first
                | refine rg_take 5 rfl rfl (by kernel_rfl) (by kernel_rfl) (by kernel_rfl) (want_0) (fun w hok => x_load Try.underlying3 rfl (tmP rfl rfl) (cellB hok 0 rfl rfl)) ?_
                | refine rg_take 5 rfl rfl (by kernel_rfl) (by kernel_rfl) (by kernel_rfl) (want_0) (fun w hok => x_load Try.underlying3 rfl (tmP rfl rfl) (cellB hok 0 rfl (getm (by omega)))) ?_
               refine rg_take 6 rfl rfl (by kernel_rfl) (by kernel_rfl) (by kernel_rfl) (want_0) (fun w hok => x_sliceLH Try.underlying22 ts_5 (tmS rfl rfl) (tmI rfl rfl) (tmI rfl rfl) (by omega)) ?_
               refine rg_step 1 rfl (by kernel_rfl) (want_0) (oks_drop hS 1 rfl) ?_; intro K hK
               refine ow_build0 hS Try.underlying22 tz_5 rfl rfl ?_
               clear hS; intro g17_1 w hg17_1 hS
               refine hK _ _ ?_; clear hK K
               refine rg_step 7 rfl (by kernel_rfl) (want_0) (oks_drop hS 2 rfl) ?_; intro K hK
               first
                | (refine ow_append hS 0 1 rfl rfl Try.underlying22 tz_5 rfl (tmS rfl rfl) (tmS rfl rfl) rfl ⟨by decide, by decide, rfl⟩ (by simp only [maxLen]; omega) (by omega) ?_; clear hS; intro g17_7 cg17_7 w hS)
                | (refine ow_append hS 0 2 rfl rfl Try.underlying22 tz_5 rfl (tmS rfl rfl) (tmS rfl rfl) rfl ⟨by decide, by decide, rfl⟩ (by simp only [maxLen]; omega) (by omega) ?_; clear hS; intro g17_7 cg17_7 w hS)
                | (refine ow_append hS 0 3 rfl rfl Try.underlying22 tz_5 rfl (tmS rfl rfl) (tmS rfl rfl) rfl ⟨by decide, by decide, rfl⟩ (by simp only [maxLen]; omega) (by omega) ?_; clear hS; intro g17_7 cg17_7 w hS)
                | (refine ow_append hS 0 4 rfl rfl Try.underlying22 tz_5 rfl (tmS rfl rfl) (tmS rfl rfl) rfl ⟨by decide, by decide, rfl⟩ (by simp only [maxLen]; omega) (by omega) ?_; clear hS; intro g17_7 cg17_7 w hS)
                | (refine ow_append hS 0 5 rfl rfl Try.underlying22 tz_5 rfl (tmS rfl rfl) (tmS rfl rfl) rfl ⟨by decide, by decide, rfl⟩ (by simp only [maxLen]; omega) (by omega) ?_; clear hS; intro g17_7 cg17_7 w hS)
                | (refine ow_append hS 4 0 rfl rfl Try.underlying22 tz_5 rfl (tmS rfl rfl) (tmS rfl rfl) rfl ⟨by decide, by decide, rfl⟩ (by simp only [maxLen]; omega) (by omega) ?_; clear hS; intro g17_7 cg17_7 w hS)
                | (refine ow_append hS 4 1 rfl rfl Try.underlying22 tz_5 rfl (tmS rfl rfl) (tmS rfl rfl) rfl ⟨by decide, by decide, rfl⟩ (by simp only [maxLen]; omega) (by omega) ?_; clear hS; intro g17_7 cg17_7 w hS)
                | (refine ow_append hS 4 2 rfl rfl Try.underlying22 tz_5 rfl (tmS rfl rfl) (tmS rfl rfl) rfl ⟨by decide, by decide, rfl⟩ (by simp only [maxLen]; omega) (by omega) ?_; clear hS; intro g17_7 cg17_7 w hS)
                | (refine ow_append hS 4 3 rfl rfl Try.underlying22 tz_5 rfl (tmS rfl rfl) (tmS rfl rfl) rfl ⟨by decide, by decide, rfl⟩ (by simp only [maxLen]; omega) (by omega) ?_; clear hS; intro g17_7 cg17_7 w hS)
                | (refine ow_append hS 4 5 rfl rfl Try.underlying22 tz_5 rfl (tmS rfl rfl) (tmS rfl rfl) rfl ⟨by decide, by decide, rfl⟩ (by simp only [maxLen]; omega) (by omega) ?_; clear hS; intro g17_7 cg17_7 w hS)
                | (refine ow_appendV hS 0 rfl (viewR hS.ok 0 rfl) Try.underlying22 tz_5 rfl (tmS rfl rfl) (tmS rfl rfl) (by first | exact u8v_one _ | (intro u hu; simp at hu; first | (rcases hu with rfl | rfl <;> rfl) | (obtain ⟨_, _, rfl⟩ := hu; rfl))) ⟨by decide, by first | rfl | (simp; done) | (simp; omega)⟩ (by simp only [maxLen]; omega) (by omega) ?_; clear hS; intro g17_7 cg17_7 w hAg17_7 hCg17_7 hS)
                | (refine ow_appendV hS 0 rfl (viewV hS.ok 3 rfl) Try.underlying22 tz_5 rfl (tmS rfl rfl) (tmS rfl rfl) (by first | exact u8v_one _ | (intro u hu; simp at hu; first | (rcases hu with rfl | rfl <;> rfl) | (obtain ⟨_, _, rfl⟩ := hu; rfl))) ⟨by decide, by first | rfl | (simp; done) | (simp; omega)⟩ (by simp only [maxLen]; omega) (by omega) ?_; clear hS; intro g17_7 cg17_7 w hAg17_7 hCg17_7 hS)
                | (refine ow_appendV hS 0 rfl (viewR hS.ok 4 rfl) Try.underlying22 tz_5 rfl (tmS rfl rfl) (tmS rfl rfl) (by first | exact u8v_one _ | (intro u hu; simp at hu; first | (rcases hu with rfl | rfl <;> rfl) | (obtain ⟨_, _, rfl⟩ := hu; rfl))) ⟨by decide, by first | rfl | (simp; done) | (simp; omega)⟩ (by simp only [maxLen]; omega) (by omega) ?_; clear hS; intro g17_7 cg17_7 w hAg17_7 hCg17_7 hS)
                | (refine ow_appendV hS 0 rfl (viewV hS.ok 5 rfl) Try.underlying22 tz_5 rfl (tmS rfl rfl) (tmS rfl rfl) (by first | exact u8v_one _ | (intro u hu; simp at hu; first | (rcases hu with rfl | rfl <;> rfl) | (obtain ⟨_, _, rfl⟩ := hu; rfl))) ⟨by decide, by first | rfl | (simp; done) | (simp; omega)⟩ (by simp only [maxLen]; omega) (by omega) ?_; clear hS; intro g17_7 cg17_7 w hAg17_7 hCg17_7 hS)
                | (refine ow_appendV hS 0 rfl View.nil_ Try.underlying22 tz_5 rfl (tmS rfl rfl) (tmS rfl rfl) (by first | exact u8v_one _ | (intro u hu; simp at hu; first | (rcases hu with rfl | rfl <;> rfl) | (obtain ⟨_, _, rfl⟩ := hu; rfl))) ⟨by decide, by first | rfl | (simp; done) | (simp; omega)⟩ (by simp only [maxLen]; omega) (by omega) ?_; clear hS; intro g17_7 cg17_7 w hAg17_7 hCg17_7 hS)
                | (refine ow_appendV hS 4 rfl (viewR hS.ok 0 rfl) Try.underlying22 tz_5 rfl (tmS rfl rfl) (tmS rfl rfl) (by first | exact u8v_one _ | (intro u hu; simp at hu; first | (rcases hu with rfl | rfl <;> rfl) | (obtain ⟨_, _, rfl⟩ := hu; rfl))) ⟨by decide, by first | rfl | (simp; done) | (simp; omega)⟩ (by simp only [maxLen]; omega) (by omega) ?_; clear hS; intro g17_7 cg17_7 w hAg17_7 hCg17_7 hS)
                | (refine ow_appendV hS 4 rfl (viewV hS.ok 3 rfl) Try.underlying22 tz_5 rfl (tmS rfl rfl) (tmS rfl rfl) (by first | exact u8v_one _ | (intro u hu; simp at hu; first | (rcases hu with rfl | rfl <;> rfl) | (obtain ⟨_, _, rfl⟩ := hu; rfl))) ⟨by decide, by first | rfl | (simp; done) | (simp; omega)⟩ (by simp only [maxLen]; omega) (by omega) ?_; clear hS; intro g17_7 cg17_7 w hAg17_7 hCg17_7 hS)
                | (refine ow_appendV hS 4 rfl (viewR hS.ok 4 rfl) Try.underlying22 tz_5 rfl (tmS rfl rfl) (tmS rfl rfl) (by first | exact u8v_one _ | (intro u hu; simp at hu; first | (rcases hu with rfl | rfl <;> rfl) | (obtain ⟨_, _, rfl⟩ := hu; rfl))) ⟨by decide, by first | rfl | (simp; done) | (simp; omega)⟩ (by simp only [maxLen]; omega) (by omega) ?_; clear hS; intro g17_7 cg17_7 w hAg17_7 hCg17_7 hS)
                | (refine ow_appendV hS 4 rfl (viewV hS.ok 5 rfl) Try.underlying22 tz_5 rfl (tmS rfl rfl) (tmS rfl rfl) (by first | exact u8v_one _ | (intro u hu; simp at hu; first | (rcases hu with rfl | rfl <;> rfl) | (obtain ⟨_, _, rfl⟩ := hu; rfl))) ⟨by decide, by first | rfl | (simp; done) | (simp; omega)⟩ (by simp only [maxLen]; omega) (by omega) ?_; clear hS; intro g17_7 cg17_7 w hAg17_7 hCg17_7 hS)
                | (refine ow_appendV hS 4 rfl View.nil_ Try.underlying22 tz_5 rfl (tmS rfl rfl) (tmS rfl rfl) (by first | exact u8v_one _ | (intro u hu; simp at hu; first | (rcases hu with rfl | rfl <;> rfl) | (obtain ⟨_, _, rfl⟩ := hu; rfl))) ⟨by decide, by first | rfl | (simp; done) | (simp; omega)⟩ (by simp only [maxLen]; omega) (by omega) ?_; clear hS; intro g17_7 cg17_7 w hAg17_7 hCg17_7 hS)
               refine hK _ _ ?_; clear hK K
               refine rg_step 8 rfl (by kernel_rfl) (want_0) (oks_drop hS 2 rfl) ?_; intro K hK
               refine ow_storeA hS 1 rfl ts_41 (tmP rfl rfl) (tmA rfl rfl) rfl rfl rfl ?_
               clear hS; intro w hS
               try replace hS := St.nm (M' := [.row _ _ _ _ _, .blk _ _ [_, _, _, _, _, _, _, _, _, _, _, _, _, _, _, _], .blk _ _ [_, _, _, _, _, _, _, _, _, _, _, _, _, _, _, _], .vw _ _, .row _ _ _ _ _, .vw _ _]) hS rfl
               refine hK _ _ ?_; clear hK K
               refine rg_take 9 rfl rfl (by kernel_rfl) (by kernel_rfl) (by kernel_rfl) (want_0) (fun w hok => x_assign (tmS rfl rfl)) ?_
               refine rg_take 10 rfl rfl (by kernel_rfl) (by kernel_rfl) (by kernel_rfl) (want_0) (fun w hok => x_assign (ev_cN 0)) ?_
               refine rg_done (oks_drop hS 2 rfl) (by kernel_rfl) ?_
               simp only [List.nil_append, Nat.zero_add] at hS
               refine then_n (hK22 _ _ ?_); clear hK22 K22
               refine wp_ret ?_
               refine ret3 rfl (.cell rfl rfl (load_rowB (cs := [_, _, _, _, _, _, _, _, _, _, _, _, _, _, _, _]) hS.ok 1 rfl Try.underlying41 rfl ts_41 rfl)) (.tmp rfl (show _ = Value.slice _ _ _ from rfl)) (.tmp rfl (show _ = Value.int _ _ from rfl)) ?_
               refine ⟨g16_4, cg16_4, g17_7, cg17_7, ?_, row_cap (hS.rowOk 0 rfl) (by decide), hS.newv 4 rfl, hS.newv 0 rfl, hS.kp⟩
               rw [e1, e8, e9, Nat.zero_add]
               rfl
         · intro K hK
           refine ow_alloc hS tz_41 rfl ?_
           clear hS; intro g7_30 w hg7_30 hS
           refine hK _ _ ?_; clear hK K
           refine rg_step 27 rfl (by kernel_rfl) (want_0) (oks_drop hS 1 rfl) ?_; intro K hK
           refine ow_call Try.func20 rfl rfl (evs_cons (tmS rfl rfl) <| evs_cons (ev_cN 10) <| evs_cons (ev_cN 2) <| evs_nil) (get_c n _ c l _ _ _ (viewV hS.ok 2 rfl) hl hc hn4 hb (by omega) (by omega)) ?_
           rintro e w ⟨rfl, hk⟩
           refine ⟨_, rfl, ?_⟩
           replace hS := hS.kept hk
           clear hk
           refine hK _ _ ?_; clear hK K
           first
            | refine rg_take 28 rfl rfl (by kernel_rfl) (by kernel_rfl) (by kernel_rfl) (want_0) (fun w hok => x_convN Try.underlying37 Try.underlying36 (tmI rfl rfl) (fit_u16 (by omega))) ?_
            | refine rg_take 28 rfl rfl (by kernel_rfl) (by kernel_rfl) (by kernel_rfl) (want_0) (fun w hok => x_convU Try.underlying37 Try.underlying36 (tmI rfl rfl) rfl) ?_
            | refine rg_take 28 rfl rfl (by kernel_rfl) (by kernel_rfl) (by kernel_rfl) (want_0) (fun w hok => x_conv Try.underlying37 Try.underlying36 (tmI rfl rfl)) ?_
           refine rg_take 29 rfl rfl (by kernel_rfl) (by kernel_rfl) (by kernel_rfl) (want_0) (fun w hok => x_build (bc_take (tmI rfl rfl) <| bc_take (tmI rfl rfl) <| bc_take (tmI rfl rfl) <| bc_take (tmB rfl rfl) <| bc_take (tmB rfl rfl) <| bc_take (tmI rfl rfl) <| bc_take (tmI rfl rfl) <| bc_take (tmI rfl rfl) <| bc_take (tmI rfl rfl) <| bc_skipL [.bool false, .int .u64 0, .int .u64 0] <| bc_skipL [.bool false, .int .u64 0, .int .u64 0] <| bc_skip (.slice none 0 0) <| bc_nil) (by kernel_rfl)) ?_
           refine rg_step 31 rfl (by kernel_rfl) (want_0) (oks_drop hS 1 rfl) ?_; intro K hK
           refine ow_storeA hS 0 rfl ts_41 (tmP rfl rfl) (tmA rfl rfl) rfl rfl rfl ?_
           clear hS; intro w hS
           try replace hS := St.nm (M' := [.blk _ _ [_, _, _, _, _, _, _, _, _, _, _, _, _, _, _, _], .blk _ _ [_, _, _, _, _, _, _, _, _, _, _, _, _, _, _, _], .vw _ _]) hS rfl
           refine hK _ _ ?_; clear hK K
           refine rg_done (oks_drop hS 1 rfl) (by kernel_rfl) ?_
           refine then_n (hK10 _ _ ?_); clear hK10 K10
           refine wp_seq_k ?_; intro K24 hK24
           refine wlit ?_
           refine wl_v (x_move (tmS rfl rfl)) ?_
           refine wl_e rfl ?_; intro K hK
           refine ow_call Try.func20 rfl rfl (evs_cons (tmS rfl rfl) <| evs_cons (ev_cN 12) <| evs_cons (ev_cN 4) <| evs_nil) (get_c n _ c l _ _ _ (viewV hS.ok 2 rfl) hl hc hn4 hb (by omega) (by omega)) ?_
           rintro e w ⟨rfl, hk⟩
           refine ⟨_, rfl, ?_⟩
           replace hS := hS.kept hk
           clear hk
           refine hK _ _ ?_; clear hK K
           refine wl_v (x_build (bc_skip (.bool false) <| bc_skip (.int .u64 0) <| bc_take (tmI rfl rfl) <| bc_nil) (by kernel_rfl)) ?_
           refine wl_v (x_fa 9 Try.underlying41 rfl rfl ts_39 (tmP rfl rfl)) ?_
           refine wl_e rfl ?_; intro K hK
           refine ow_storeA hS 0 rfl ts_39 (tmP rfl rfl) (tmA rfl rfl) rfl rfl rfl ?_
           clear hS; intro w hS
           try replace hS := St.nm (M' := [.blk _ _ [_, _, _, _, _, _, _, _, _, _, _, _, _, _, _, _], .blk _ _ [_, _, _, _, _, _, _, _, _, _, _, _, _, _, _, _], .vw _ _]) hS rfl
           refine hK _ _ ?_; clear hK K
           refine wl_nil ?_
           refine then_n (hK24 _ _ ?_); clear hK24 K24
           refine wp_seq_k ?_; intro K25 hK25
           refine wlit ?_
           refine wl_v (x_move (tmS rfl rfl)) ?_
           refine wl_e rfl ?_; intro K hK
           refine ow_call Try.func20 rfl rfl (evs_cons (tmS rfl rfl) <| evs_cons (ev_cN 16) <| evs_cons (ev_cN 4) <| evs_nil) (get_c n _ c l _ _ _ (viewV hS.ok 2 rfl) hl hc hn4 hb (by omega) (by omega)) ?_
           rintro e w ⟨rfl, hk⟩
           refine ⟨_, rfl, ?_⟩
           replace hS := hS.kept hk
           clear hk
           refine hK _ _ ?_; clear hK K
           refine wl_v (x_build (bc_skip (.bool false) <| bc_skip (.int .u64 0) <| bc_take (tmI rfl rfl) <| bc_nil) (by kernel_rfl)) ?_
           refine wl_v (x_fa 12 Try.underlying41 rfl rfl ts_39 (tmP rfl rfl)) ?_
           refine wl_e rfl ?_; intro K hK
           refine ow_storeA hS 0 rfl ts_39 (tmP rfl rfl) (tmA rfl rfl) rfl rfl rfl ?_
           clear hS; intro w hS
           try replace hS := St.nm (M' := [.blk _ _ [_, _, _, _, _, _, _, _, _, _, _, _, _, _, _, _], .blk _ _ [_, _, _, _, _, _, _, _, _, _, _, _, _, _, _, _], .vw _ _]) hS rfl
           refine hK _ _ ?_; clear hK K
           refine wl_nil ?_
           refine then_n (hK25 _ _ ?_); clear hK25 K25
           refine wp_seq_k ?_; intro K26 hK26
           refine wp_seq_k ?_; intro K27 hK27
           refine wlit ?_
           refine wl_v (x_move (tmI rfl rfl)) ?_
           refine wl_v (x_gtr (tmI rfl rfl) (ev_cN 32767)) ?_
           refine wl_v (x_move (tmB rfl rfl)) ?_
           refine gs_wl (tm (t := 70) rfl) (fun hg10_2 => ?_) (fun hg10_2 => ?_)
           · have hg10_2' := hg10_2; (try simp only [nrm] at hg10_2'); try (exfalso; first | with_reducible exact absurd hg10_2 Bool.false_ne_true | with_reducible exact absurd hg10_2.symm Bool.false_ne_true | omega | (simp at hg10_2; done))
             all_goals
              refine wl_s rfl (want_n rfl rfl rfl rfl (by rw [hg10_2]; rfl)) ?_
              refine wl_s rfl (want_n rfl rfl rfl rfl (by rw [hg10_2]; rfl)) ?_
              refine wl_s rfl (want_n rfl rfl rfl rfl (by rw [hg10_2]; rfl)) ?_
              refine wl_s rfl (want_n rfl rfl rfl rfl (by rw [hg10_2]; rfl)) ?_
              refine wl_v (x_pickT (tmB rfl rfl) hg10_2 ev_c) ?_
              refine wl_nil ?_
              refine then_n (hK27 _ _ ?_); clear hK27 K27
              refine cnd_t (tmB rfl rfl) rfl ?_
              refine wp_seq_k ?_; intro K28 hK28
              refine wlit ?_
              refine wl_v (x_build (bc_skip (.int .u8 0) <| bc_skip (.int .i64 0) <| bc_skip (.int .u16 0) <| bc_skip (.bool false) <| bc_skip (.bool false) <| bc_skip (.int .i64 0) <| bc_skip (.int .u8 0) <| bc_skip (.int .u8 0) <| bc_skip (.int .u16 0) <| bc_skipL [.bool false, .int .u64 0, .int .u64 0] <| bc_skipL [.bool false, .int .u64 0, .int .u64 0] <| bc_skip (.slice none 0 0) <| bc_nil) (by kernel_rfl)) ?_
              refine wl_e rfl ?_; intro K hK
              refine ow_storeA hS 1 rfl ts_41 (tmP rfl rfl) (tmA rfl rfl) rfl rfl rfl ?_
              clear hS; intro w hS
              try replace hS := St.nm (M' := [.blk _ _ [_, _, _, _, _, _, _, _, _, _, _, _, _, _, _, _], .blk _ _ [_, _, _, _, _, _, _, _, _, _, _, _, _, _, _, _], .vw _ _]) hS rfl
              refine hK _ _ ?_; clear hK K
              refine wl_v (x_assign ev_c) ?_
              refine wl_v (x_assign (ev_cN 21)) ?_
              refine wl_nil ?_
              refine then_n (hK28 _ _ ?_); clear hK28 K28
              refine wp_ret ?_
              refine then_r ?_
              refine ret3 rfl (.cell rfl rfl (load_rowB (cs := [_, _, _, _, _, _, _, _, _, _, _, _, _, _, _, _]) hS.ok 1 rfl Try.underlying41 rfl ts_41 rfl)) (.tmp rfl (show _ = Value.slice _ _ _ from rfl)) (.tmp rfl (show _ = Value.int _ _ from rfl)) ?_
              refine ⟨g16_4, cg16_4, g17_7, cg17_7, ?_, row_cap (hS.rowOk (no_label_row) rfl) (by decide), hS.newv (no_label_rowo) rfl, hS.newv (no_label_row) rfl, hS.kp⟩
              rw [e1, e8, e9, Nat.zero_add]
              rfl
           have hg10_2' := hg10_2; (try simp only [nrm] at hg10_2'); try (exfalso; first | with_reducible exact absurd hg10_2 Bool.false_ne_true | with_reducible exact absurd hg10_2.symm Bool.false_ne_true | omega | (simp at hg10_2; done))
           all_goals
            refine wl_gv (want_y rfl rfl rfl rfl (by rw [hg10_2]; rfl)) (x_fa 1 Try.underlying41 rfl rfl ts_3 (tmP rfl rfl)) ?_
            first
             | refine wl_gv (want_y rfl rfl rfl rfl (by rw [hg10_2]; rfl)) (x_load Try.underlying3 rfl (tmP rfl rfl) (cellB hS.ok 0 rfl rfl)) ?_
             | refine wl_gv (want_y rfl rfl rfl rfl (by rw [hg10_2]; rfl)) (x_load Try.underlying3 rfl (tmP rfl rfl) (cellB hS.ok 0 rfl (getm (by omega)))) ?_
            refine wl_gv (want_y rfl rfl rfl rfl (by rw [hg10_2]; rfl)) (x_move (tmI rfl rfl)) ?_
            refine wl_gv (want_y rfl rfl rfl rfl (by rw [hg10_2]; rfl)) (x_lss (tmI rfl rfl) (tmI rfl rfl)) ?_
            refine wl_v (x_pickF (tmB rfl rfl) hg10_2 (tmB rfl rfl)) ?_
            refine wl_nil ?_
            refine then_n (hK27 _ _ ?_); clear hK27 K27
            refine cnd (tm rfl) (fun hc2 => ?_) (fun hc2 => ?_)
            · exfalso
              simp only [nrm] at hc2
              omega
            try (exfalso; first | with_reducible exact absurd hc2 Bool.false_ne_true | with_reducible exact absurd hc2.symm Bool.false_ne_true | (simp only [nrm] at hc2; omega) | (simp at hc2; done))
            all_goals
             try simp only [nrm] at hc2
             refine wp_skip ?_
             refine then_n (hK26 _ _ ?_); clear hK26 K26
             refine wp_seq_k ?_; intro K30 hK30
             refine wp_seq_k ?_; intro K31 hK31
             refine wlit ?_
             refine wl_v (x_move (tmS rfl rfl)) ?_
             refine wl_v (x_len Try.underlying22 (tmS rfl rfl)) ?_
             refine wl_v (x_fa 1 Try.underlying41 rfl rfl ts_3 (tmP rfl rfl)) ?_
             first
              | refine wl_v (x_load Try.underlying3 rfl (tmP rfl rfl) (cellB hS.ok 0 rfl rfl)) ?_
              | refine wl_v (x_load Try.underlying3 rfl (tmP rfl rfl) (cellB hS.ok 0 rfl (getm (by omega)))) ?_
             refine wl_v (x_lss (tmI rfl rfl) (tmI rfl rfl)) ?_
             refine wl_nil ?_
             refine then_n (hK31 _ _ ?_); clear hK31 K31
             refine cnd (tm rfl) (fun hc3 => ?_) (fun hc3 => ?_)
             · exfalso
               simp only [nrm] at hc3
               omega
             try (exfalso; first | with_reducible exact absurd hc3 Bool.false_ne_true | with_reducible exact absurd hc3.symm Bool.false_ne_true | (simp only [nrm] at hc3; omega) | (simp at hc3; done))
             all_goals
              try simp only [nrm] at hc3
              refine wp_skip ?_
              refine then_n (hK30 _ _ ?_); clear hK30 K30
              refine wp_seq_k ?_; intro K32 hK32
              refine wp_seq_k ?_; intro K33 hK33
              refine wlit ?_
              refine wl_v (x_move (tmS rfl rfl)) ?_
              refine wl_v (x_move (tmI rfl rfl)) ?_
              refine wl_v (x_sliceH Try.underlying22 ts_5 (tmS rfl rfl) (tmI rfl rfl) (by omega)) ?_
              replace hS := hS.cutb 2 0 sz rfl (by omega : l.length ≤ c)
              refine wl_e rfl ?_; intro K hK
              refine ow_call Try.func21 rfl rfl (evs_cons (tmS rfl rfl) <| evs_nil) (rsum_of_c sz _ _ (l.take sz) _ (viewV hS.ok 0 rfl) htl (hb.take sz) (by omega)) ?_
              rintro e w ⟨rfl, hk⟩
              refine ⟨_, rfl, ?_⟩
              replace hS := hS.kept hk
              clear hk
              refine hK _ _ ?_; clear hK K
              refine wl_v (x_neq (tmI rfl rfl) (ev_cN 0)) ?_
              refine wl_nil ?_
              refine then_n (hK33 _ _ ?_); clear hK33 K33
              refine cnd (tm rfl) (fun hc4 => ?_) (fun hc4 => ?_)
              · exfalso
                simp only [nrm] at hc4
                omega
              try (exfalso; first | with_reducible exact absurd hc4 Bool.false_ne_true | with_reducible exact absurd hc4.symm Bool.false_ne_true | (simp only [nrm] at hc4; omega) | (simp at hc4; done))
              all_goals
               try simp only [nrm] at hc4
               refine wp_skip ?_
               refine then_n (hK32 _ _ ?_); clear hK32 K32
               refine wp_seq_k ?_; intro K34 hK34
               refine wlit ?_
               refine wl_e rfl ?_; intro K hK
               refine ow_build0 hS Try.underlying22 tz_5 rfl rfl ?_
               clear hS; intro g16_0 w hg16_0 hS
               refine hK _ _ ?_; clear hK K
               refine wl_v (x_move (tmS rfl rfl)) ?_
               refine wl_v (x_move (tmI rfl rfl)) ?_
               refine wl_v (x_sliceLH Try.underlying22 ts_5 (tmS rfl rfl) (ev_cN 20) (tmI rfl rfl) (by omega)) ?_
               replace hS := hS.cutb 4 20 (sz - 20) rfl (by omega : l.length ≤ c)
               refine wl_e rfl ?_; intro K hK
               first
                | (refine ow_append hS 1 0 rfl rfl Try.underlying22 tz_5 rfl (tmS rfl rfl) (tmS rfl rfl) rfl ⟨by decide, by decide, rfl⟩ (by simp only [maxLen]; omega) (by omega) ?_; clear hS; intro g16_4 cg16_4 w hS)
                | (refine ow_append hS 1 2 rfl rfl Try.underlying22 tz_5 rfl (tmS rfl rfl) (tmS rfl rfl) rfl ⟨by decide, by decide, rfl⟩ (by simp only [maxLen]; omega) (by omega) ?_; clear hS; intro g16_4 cg16_4 w hS)
                | (refine ow_append hS 1 3 rfl rfl Try.underlying22 tz_5 rfl (tmS rfl rfl) (tmS rfl rfl) rfl ⟨by decide, by decide, rfl⟩ (by simp only [maxLen]; omega) (by omega) ?_; clear hS; intro g16_4 cg16_4 w hS)
                | (refine ow_append hS 1 4 rfl rfl Try.underlying22 tz_5 rfl (tmS rfl rfl) (tmS rfl rfl) rfl ⟨by decide, by decide, rfl⟩ (by simp only [maxLen]; omega) (by omega) ?_; clear hS; intro g16_4 cg16_4 w hS)
                | (refine ow_append hS 1 5 rfl rfl Try.underlying22 tz_5 rfl (tmS rfl rfl) (tmS rfl rfl) rfl ⟨by decide, by decide, rfl⟩ (by simp only [maxLen]; omega) (by omega) ?_; clear hS; intro g16_4 cg16_4 w hS)
                | (refine ow_appendV hS 1 rfl (viewV hS.ok 0 rfl) Try.underlying22 tz_5 rfl (tmS rfl rfl) (tmS rfl rfl) (by first | exact u8v_one _ | (intro u hu; simp at hu; first | (rcases hu with rfl | rfl <;> rfl) | (obtain ⟨_, _, rfl⟩ := hu; rfl))) ⟨by decide, by first | rfl | (simp; done) | (simp; omega)⟩ (by simp only [maxLen]; omega) (by omega) ?_; clear hS; intro g16_4 cg16_4 w hAg16_4 hCg16_4 hS)
                | (refine ow_appendV hS 1 rfl (viewR hS.ok 1 rfl) Try.underlying22 tz_5 rfl (tmS rfl rfl) (tmS rfl rfl) (by first | exact u8v_one _ | (intro u hu; simp at hu; first | (rcases hu with rfl | rfl <;> rfl) | (obtain ⟨_, _, rfl⟩ := hu; rfl))) ⟨by decide, by first | rfl | (simp; done) | (simp; omega)⟩ (by simp only [maxLen]; omega) (by omega) ?_; clear hS; intro g16_4 cg16_4 w hAg16_4 hCg16_4 hS)
                | (refine ow_appendV hS 1 rfl (viewV hS.ok 2 rfl) Try.underlying22 tz_5 rfl (tmS rfl rfl) (tmS rfl rfl) (by first | exact u8v_one _ | (intro u hu; simp at hu; first | (rcases hu with rfl | rfl <;> rfl) | (obtain ⟨_, _, rfl⟩ := hu; rfl))) ⟨by decide, by first | rfl | (simp; done) | (simp; omega)⟩ (by simp only [maxLen]; omega) (by omega) ?_; clear hS; intro g16_4 cg16_4 w hAg16_4 hCg16_4 hS)
                | (refine ow_appendV hS 1 rfl (viewV hS.ok 5 rfl) Try.underlying22 tz_5 rfl (tmS rfl rfl) (tmS rfl rfl) (by first | exact u8v_one _ | (intro u hu; simp at hu; first | (rcases hu with rfl | rfl <;> rfl) | (obtain ⟨_, _, rfl⟩ := hu; rfl))) ⟨by decide, by first | rfl | (simp; done) | (simp; omega)⟩ (by simp only [maxLen]; omega) (by omega) ?_; clear hS; intro g16_4 cg16_4 w hAg16_4 hCg16_4 hS)
                | (refine ow_appendV hS 1 rfl View.nil_ Try.underlying22 tz_5 rfl (tmS rfl rfl) (tmS rfl rfl) (by first | exact u8v_one _ | (intro u hu; simp at hu; first | (rcases hu with rfl | rfl <;> rfl) | (obtain ⟨_, _, rfl⟩ := hu; rfl))) ⟨by decide, by first | rfl | (simp; done) | (simp; omega)⟩ (by simp only [maxLen]; omega) (by omega) ?_; clear hS; intro g16_4 cg16_4 w hAg16_4 hCg16_4 hS)
               refine hK _ _ ?_; clear hK K
               refine wl_v (x_fa 15 Try.underlying41 rfl rfl ts_22 (tmP rfl rfl)) ?_
               refine wl_e rfl ?_; intro K hK
               first
                | refine ow_store hS 3 rfl ts_22 (tmP rfl rfl) (tmS rfl rfl) rfl rfl ?_
                | refine ow_storeX hS 3 rfl ts_22 (tmP rfl rfl) (tmS rfl rfl) rfl (by simp; omega) ?_
               clear hS; intro w hS
               try replace hS := St.nm (M' := [.vw _ _, .row _ _ _ _ _, .vw _ _, .blk _ _ [_, _, _, _, _, _, _, _, _, _, _, _, _, _, _, _], .blk _ _ [_, _, _, _, _, _, _, _, _, _, _, _, _, _, _, _], .vw _ _]) hS rfl
               refine hK _ _ ?_; clear hK K
               refine wl_nil ?_
               simp only [List.nil_append, Nat.zero_add] at hS
               refine then_n (hK34 _ _ ?_); clear hK34 K34
               refine wp_seq_k ?_; intro K35 hK35
               replace hS := hS.cutb 5 sz (len - sz) rfl (by omega : l.length ≤ c)
               replace hS := hS.pick [5, 4, 0, 2, 6] rfl rfl
               try replace hS := St.nm (M' := [.blk _ _ [_, _, _, _, _, _, _, _, _, _, _, _, _, _, _, _], .blk _ _ [_, _, _, _, _, _, _, _, _, _, _, _, _, _, _, _], .vw _ _, .row _ _ _ _ _, .vw _ _]) hS rfl
               refine rg_startk 1 hS mixed_ ?_
               clear hS; intro w hS
               refine rg_take 0 rfl rfl (by kernel_rfl) (by kernel_rfl) (by kernel_rfl) (want_0) (fun w hok => x_loadA (cs := [_, _, _, _, _, _, _, _, _, _, _, _, _, _, _, _]) Try.underlying41 rfl ts_41 (tmP rfl rfl) (rangeB hok 0 rfl rfl)) ?_
               refine rg_take 2 rfl rfl (by kernel_rfl) (by kernel_rfl) (by kernel_rfl) (want_0) (fun w hok => x_move (tmS rfl rfl)) ?_
               refine rg_take 3 rfl rfl (by kernel_rfl) (by kernel_rfl) (by kernel_rfl) (want_0) (fun w hok => x_move (tmI rfl rfl)) ?_
               refine rg_take 4 rfl rfl (by kernel_rfl) (by kernel_rfl) (by kernel_rfl) (want_0) (fun w hok => x_fa 1 Try.underlying41 rfl rfl ts_3 (tmP rfl rfl)) ?_
               first
                | refine rg_take 5 rfl rfl (by kernel_rfl) (by kernel_rfl) (by kernel_rfl) (want_0) (fun w hok => x_load Try.underlying3 rfl (tmP rfl rfl) (cellB hok 0 rfl rfl)) ?_
                | refine rg_take 5 rfl rfl (by kernel_rfl) (by kernel_rfl) (by kernel_rfl) (want_0) (fun w hok => x_load Try.underlying3 rfl (tmP rfl rfl) (cellB hok 0 rfl (getm (by omega)))) ?_
               refine rg_take 6 rfl rfl (by kernel_rfl) (by kernel_rfl) (by kernel_rfl) (want_0) (fun w hok => x_sliceLH Try.underlying22 ts_5 (tmS rfl rfl) (tmI rfl rfl) (tmI rfl rfl) (by omega)) ?_
               refine rg_step 1 rfl (by kernel_rfl) (want_0) (oks_drop hS 1 rfl) ?_; intro K hK
               refine ow_build0 hS Try.underlying22 tz_5 rfl rfl ?_
               clear hS; intro g17_1 w hg17_1 hS
               refine hK _ _ ?_; clear hK K
               refine rg_step 7 rfl (by kernel_rfl) (want_0) (oks_drop hS 2 rfl) ?_; intro K hK
               first
                | (refine ow_append hS 0 1 rfl rfl Try.underlying22 tz_5 rfl (tmS rfl rfl) (tmS rfl rfl) rfl ⟨by decide, by decide, rfl⟩ (by simp only [maxLen]; omega) (by omega) ?_; clear hS; intro g17_7 cg17_7 w hS)
                | (refine ow_append hS 0 2 rfl rfl Try.underlying22 tz_5 rfl (tmS rfl rfl) (tmS rfl rfl) rfl ⟨by decide, by decide, rfl⟩ (by simp only [maxLen]; omega) (by omega) ?_; clear hS; intro g17_7 cg17_7 w hS)
                | (refine ow_append hS 0 3 rfl rfl Try.underlying22 tz_5 rfl (tmS rfl rfl) (tmS rfl rfl) rfl ⟨by decide, by decide, rfl⟩ (by simp only [maxLen]; omega) (by omega) ?_; clear hS; intro g17_7 cg17_7 w hS)
                | (refine ow_append hS 0 4 rfl rfl Try.underlying22 tz_5 rfl (tmS rfl rfl) (tmS rfl rfl) rfl ⟨by decide, by decide, rfl⟩ (by simp only [maxLen]; omega) (by omega) ?_; clear hS; intro g17_7 cg17_7 w hS)
                | (refine ow_append hS 0 5 rfl rfl Try.underlying22 tz_5 rfl (tmS rfl rfl) (tmS rfl rfl) rfl ⟨by decide, by decide, rfl⟩ (by simp only [maxLen]; omega) (by omega) ?_; clear hS; intro g17_7 cg17_7 w hS)
                | (refine ow_append hS 4 0 rfl rfl Try.underlying22 tz_5 rfl (tmS rfl rfl) (tmS rfl rfl) rfl ⟨by decide, by decide, rfl⟩ (by simp only [maxLen]; omega) (by omega) ?_; clear hS; intro g17_7 cg17_7 w hS)
                | (refine ow_append hS 4 1 rfl rfl Try.underlying22 tz_5 rfl (tmS rfl rfl) (tmS rfl rfl) rfl ⟨by decide, by decide, rfl⟩ (by simp only [maxLen]; omega) (by omega) ?_; clear hS; intro g17_7 cg17_7 w hS)
                | (refine ow_append hS 4 2 rfl rfl Try.underlying22 tz_5 rfl (tmS rfl rfl) (tmS rfl rfl) rfl ⟨by decide, by decide, rfl⟩ (by simp only [maxLen]; omega) (by omega) ?_; clear hS; intro g17_7 cg17_7 w hS)
                | (refine ow_append hS 4 3 rfl rfl Try.underlying22 tz_5 rfl (tmS rfl rfl) (tmS rfl rfl) rfl ⟨by decide, by decide, rfl⟩ (by simp only [maxLen]; omega) (by omega) ?_; clear hS; intro g17_7 cg17_7 w hS)
                | (refine ow_append hS 4 5 rfl rfl Try.underlying22 tz_5 rfl (tmS rfl rfl) (tmS rfl rfl) rfl ⟨by decide, by decide, rfl⟩ (by simp only [maxLen]; omega) (by omega) ?_; clear hS; intro g17_7 cg17_7 w hS)
                | (refine ow_appendV hS 0 rfl (viewR hS.ok 0 rfl) Try.underlying22 tz_5 rfl (tmS rfl rfl) (tmS rfl rfl) (by first | exact u8v_one _ | (intro u hu; simp at hu; first | (rcases hu with rfl | rfl <;> rfl) | (obtain ⟨_, _, rfl⟩ := hu; rfl))) ⟨by decide, by first | rfl | (simp; done) | (simp; omega)⟩ (by simp only [maxLen]; omega) (by omega) ?_; clear hS; intro g17_7 cg17_7 w hAg17_7 hCg17_7 hS)
                | (refine ow_appendV hS 0 rfl (viewV hS.ok 3 rfl) Try.underlying22 tz_5 rfl (tmS rfl rfl) (tmS rfl rfl) (by first | exact u8v_one _ | (intro u hu; simp at hu; first | (rcases hu with rfl | rfl <;> rfl) | (obtain ⟨_, _, rfl⟩ := hu; rfl))) ⟨by decide, by first | rfl | (simp; done) | (simp; omega)⟩ (by simp only [maxLen]; omega) (by omega) ?_; clear hS; intro g17_7 cg17_7 w hAg17_7 hCg17_7 hS)
                | (refine ow_appendV hS 0 rfl (viewR hS.ok 4 rfl) Try.underlying22 tz_5 rfl (tmS rfl rfl) (tmS rfl rfl) (by first | exact u8v_one _ | (intro u hu; simp at hu; first | (rcases hu with rfl | rfl <;> rfl) | (obtain ⟨_, _, rfl⟩ := hu; rfl))) ⟨by decide, by first | rfl | (simp; done) | (simp; omega)⟩ (by simp only [maxLen]; omega) (by omega) ?_; clear hS; intro g17_7 cg17_7 w hAg17_7 hCg17_7 hS)
                | (refine ow_appendV hS 0 rfl (viewV hS.ok 5 rfl) Try.underlying22 tz_5 rfl (tmS rfl rfl) (tmS rfl rfl) (by first | exact u8v_one _ | (intro u hu; simp at hu; first | (rcases hu with rfl | rfl <;> rfl) | (obtain ⟨_, _, rfl⟩ := hu; rfl))) ⟨by decide, by first | rfl | (simp; done) | (simp; omega)⟩ (by simp only [maxLen]; omega) (by omega) ?_; clear hS; intro g17_7 cg17_7 w hAg17_7 hCg17_7 hS)
                | (refine ow_appendV hS 0 rfl View.nil_ Try.underlying22 tz_5 rfl (tmS rfl rfl) (tmS rfl rfl) (by first | exact u8v_one _ | (intro u hu; simp at hu; first | (rcases hu with rfl | rfl <;> rfl) | (obtain ⟨_, _, rfl⟩ := hu; rfl))) ⟨by decide, by first | rfl | (simp; done) | (simp; omega)⟩ (by simp only [maxLen]; omega) (by omega) ?_; clear hS; intro g17_7 cg17_7 w hAg17_7 hCg17_7 hS)
                | (refine ow_appendV hS 4 rfl (viewR hS.ok 0 rfl) Try.underlying22 tz_5 rfl (tmS rfl rfl) (tmS rfl rfl) (by first | exact u8v_one _ | (intro u hu; simp at hu; first | (rcases hu with rfl | rfl <;> rfl) | (obtain ⟨_, _, rfl⟩ := hu; rfl))) ⟨by decide, by first | rfl | (simp; done) | (simp; omega)⟩ (by simp only [maxLen]; omega) (by omega) ?_; clear hS; intro g17_7 cg17_7 w hAg17_7 hCg17_7 hS)
                | (refine ow_appendV hS 4 rfl (viewV hS.ok 3 rfl) Try.underlying22 tz_5 rfl (tmS rfl rfl) (tmS rfl rfl) (by first | exact u8v_one _ | (intro u hu; simp at hu; first | (rcases hu with rfl | rfl <;> rfl) | (obtain ⟨_, _, rfl⟩ := hu; rfl))) ⟨by decide, by first | rfl | (simp; done) | (simp; omega)⟩ (by simp only [maxLen]; omega) (by omega) ?_; clear hS; intro g17_7 cg17_7 w hAg17_7 hCg17_7 hS)
                | (refine ow_appendV hS 4 rfl (viewR hS.ok 4 rfl) Try.underlying22 tz_5 rfl (tmS rfl rfl) (tmS rfl rfl) (by first | exact u8v_one _ | (intro u hu; simp at hu; first | (rcases hu with rfl | rfl <;> rfl) | (obtain ⟨_, _, rfl⟩ := hu; rfl))) ⟨by decide, by first | rfl | (simp; done) | (simp; omega)⟩ (by simp only [maxLen]; omega) (by omega) ?_; clear hS; intro g17_7 cg17_7 w hAg17_7 hCg17_7 hS)
                | (refine ow_appendV hS 4 rfl (viewV hS.ok 5 rfl) Try.underlying22 tz_5 rfl (tmS rfl rfl) (tmS rfl rfl) (by first | exact u8v_one _ | (intro u hu; simp at hu; first | (rcases hu with rfl | rfl <;> rfl) | (obtain ⟨_, _, rfl⟩ := hu; rfl))) ⟨by decide, by first | rfl | (simp; done) | (simp; omega)⟩ (by simp only [maxLen]; omega) (by omega) ?_; clear hS; intro g17_7 cg17_7 w hAg17_7 hCg17_7 hS)
                | (refine ow_appendV hS 4 rfl View.nil_ Try.underlying22 tz_5 rfl (tmS rfl rfl) (tmS rfl rfl) (by first | exact u8v_one _ | (intro u hu; simp at hu; first | (rcases hu with rfl | rfl <;> rfl) | (obtain ⟨_, _, rfl⟩ := hu; rfl))) ⟨by decide, by first | rfl | (simp; done) | (simp; omega)⟩ (by simp only [maxLen]; omega) (by omega) ?_; clear hS; intro g17_7 cg17_7 w hAg17_7 hCg17_7 hS)
               refine hK _ _ ?_; clear hK K
               refine rg_step 8 rfl (by kernel_rfl) (want_0) (oks_drop hS 2 rfl) ?_; intro K hK
               refine ow_storeA hS 1 rfl ts_41 (tmP rfl rfl) (tmA rfl rfl) rfl rfl rfl ?_
               clear hS; intro w hS
               try replace hS := St.nm (M' := [.row _ _ _ _ _, .blk _ _ [_, _, _, _, _, _, _, _, _, _, _, _, _, _, _, _], .blk _ _ [_, _, _, _, _, _, _, _, _, _, _, _, _, _, _, _], .vw _ _, .row _ _ _ _ _, .vw _ _]) hS rfl
               refine hK _ _ ?_; clear hK K
               refine rg_take 9 rfl rfl (by kernel_rfl) (by kernel_rfl) (by kernel_rfl) (want_0) (fun w hok => x_assign (tmS rfl rfl)) ?_
               refine rg_take 10 rfl rfl (by kernel_rfl) (by kernel_rfl) (by kernel_rfl) (want_0) (fun w hok => x_assign (ev_cN 0)) ?_
               refine rg_done (oks_drop hS 2 rfl) (by kernel_rfl) ?_
               simp only [List.nil_append, Nat.zero_add] at hS
               refine then_n (hK35 _ _ ?_); clear hK35 K35
               refine wp_ret ?_
               refine ret3 rfl (.cell rfl rfl (load_rowB (cs := [_, _, _, _, _, _, _, _, _, _, _, _, _, _, _, _]) hS.ok 1 rfl Try.underlying41 rfl ts_41 rfl)) (.tmp rfl (show _ = Value.slice _ _ _ from rfl)) (.tmp rfl (show _ = Value.int _ _ from rfl)) ?_
               refine ⟨g16_4, cg16_4, g17_7, cg17_7, ?_, row_cap (hS.rowOk 0 rfl) (by decide), hS.newv 4 rfl, hS.newv 0 rfl, hS.kp⟩
               rw [e1, e8, e9, Nat.zero_add]
               rfl
       · intro K hK
         refine ow_alloc hS tz_41 rfl ?_
         clear hS; intro g7_30 w hg7_30 hS
         refine hK _ _ ?_; clear hK K
         refine rg_step 7 rfl (by kernel_rfl) (want_0) (oks_drop hS 1 rfl) ?_; intro K hK
         refine ow_call Try.func20 rfl rfl (evs_cons (tmS rfl rfl) <| evs_cons (ev_cN 4) <| evs_cons (ev_cN 2) <| evs_nil) (get_c n _ c l _ _ _ (viewV hS.ok 2 rfl) hl hc hn4 hb (by omega) (by omega)) ?_
         rintro e w ⟨rfl, hk⟩
         refine ⟨_, rfl, ?_⟩
         replace hS := hS.kept hk
         clear hk
         refine hK _ _ ?_; clear hK K
         first
          | refine rg_take 8 rfl rfl (by kernel_rfl) (by kernel_rfl) (by kernel_rfl) (want_0) (fun w hok => x_convN Try.underlying37 Try.underlying36 (tmI rfl rfl) (fit_u16 (by omega))) ?_
          | refine rg_take 8 rfl rfl (by kernel_rfl) (by kernel_rfl) (by kernel_rfl) (want_0) (fun w hok => x_convU Try.underlying37 Try.underlying36 (tmI rfl rfl) rfl) ?_
          | refine rg_take 8 rfl rfl (by kernel_rfl) (by kernel_rfl) (by kernel_rfl) (want_0) (fun w hok => x_conv Try.underlying37 Try.underlying36 (tmI rfl rfl)) ?_
         refine rg_step 27 rfl (by kernel_rfl) (want_0) (oks_drop hS 1 rfl) ?_; intro K hK
         refine ow_call Try.func20 rfl rfl (evs_cons (tmS rfl rfl) <| evs_cons (ev_cN 10) <| evs_cons (ev_cN 2) <| evs_nil) (get_c n _ c l _ _ _ (viewV hS.ok 2 rfl) hl hc hn4 hb (by omega) (by omega)) ?_
         rintro e w ⟨rfl, hk⟩
         refine ⟨_, rfl, ?_⟩
         replace hS := hS.kept hk
         clear hk
         refine hK _ _ ?_; clear hK K
         first
          | refine rg_take 28 rfl rfl (by kernel_rfl) (by kernel_rfl) (by kernel_rfl) (want_0) (fun w hok => x_convN Try.underlying37 Try.underlying36 (tmI rfl rfl) (fit_u16 (by omega))) ?_
          | refine rg_take 28 rfl rfl (by kernel_rfl) (by kernel_rfl) (by kernel_rfl) (want_0) (fun w hok => x_convU Try.underlying37 Try.underlying36 (tmI rfl rfl) rfl) ?_
          | refine rg_take 28 rfl rfl (by kernel_rfl) (by kernel_rfl) (by kernel_rfl) (want_0) (fun w hok => x_conv Try.underlying37 Try.underlying36 (tmI rfl rfl)) ?_
         refine rg_take 29 rfl rfl (by kernel_rfl) (by kernel_rfl) (by kernel_rfl) (want_0) (fun w hok => x_build (bc_take (tmI rfl rfl) <| bc_take (tmI rfl rfl) <| bc_take (tmI rfl rfl) <| bc_take (tmB rfl rfl) <| bc_take (tmB rfl rfl) <| bc_take (tmI rfl rfl) <| bc_take (tmI rfl rfl) <| bc_take (tmI rfl rfl) <| bc_take (tmI rfl rfl) <| bc_skipL [.bool false, .int .u64 0, .int .u64 0] <| bc_skipL [.bool false, .int .u64 0, .int .u64 0] <| bc_skip (.slice none 0 0) <| bc_nil) (by kernel_rfl)) ?_
         refine rg_step 31 rfl (by kernel_rfl) (want_0) (oks_drop hS 1 rfl) ?_; intro K hK
         refine ow_storeA hS 0 rfl ts_41 (tmP rfl rfl) (tmA rfl rfl) rfl rfl rfl ?_
         clear hS; intro w hS
         try replace hS := St.nm (M' := [.blk _ _ [_, _, _, _, _, _, _, _, _, _, _, _, _, _, _, _], .blk _ _ [_, _, _, _, _, _, _, _, _, _, _, _, _, _, _, _], .vw _ _]) hS rfl
         refine hK _ _ ?_; clear hK K
         refine rg_done (oks_drop hS 1 rfl) (by kernel_rfl) ?_
         refine then_n (hK10 _ _ ?_); clear hK10 K10
         refine wp_seq_k ?_; intro K37 hK37
         refine wlit ?_
         refine wl_v (x_move (tmS rfl rfl)) ?_
         refine wl_e rfl ?_; intro K hK
         refine ow_call Try.func20 rfl rfl (evs_cons (tmS rfl rfl) <| evs_cons (ev_cN 12) <| evs_cons (ev_cN 4) <| evs_nil) (get_c n _ c l _ _ _ (viewV hS.ok 2 rfl) hl hc hn4 hb (by omega) (by omega)) ?_
         rintro e w ⟨rfl, hk⟩
         refine ⟨_, rfl, ?_⟩
         replace hS := hS.kept hk
         clear hk
         refine hK _ _ ?_; clear hK K
         refine wl_v (x_build (bc_skip (.bool false) <| bc_skip (.int .u64 0) <| bc_take (tmI rfl rfl) <| bc_nil) (by kernel_rfl)) ?_
         refine wl_v (x_fa 9 Try.underlying41 rfl rfl ts_39 (tmP rfl rfl)) ?_
         refine wl_e rfl ?_; intro K hK
         refine ow_storeA hS 0 rfl ts_39 (tmP rfl rfl) (tmA rfl rfl) rfl rfl rfl ?_
         clear hS; intro w hS
         try replace hS := St.nm (M' := [.blk _ _ [_, _, _, _, _, _, _, _, _, _, _, _, _, _, _, _], .blk _ _ [_, _, _, _, _, _, _, _, _, _, _, _, _, _, _, _], .vw _ _]) hS rfl
         refine hK _ _ ?_; clear hK K
         refine wl_nil ?_
         refine then_n (hK37 _ _ ?_); clear hK37 K37
         refine wp_seq_k ?_; intro K38 hK38
         refine wlit ?_
         refine wl_v (x_move (tmS rfl rfl)) ?_
         refine wl_e rfl ?_; intro K hK
         refine ow_call Try.func20 rfl rfl (evs_cons (tmS rfl rfl) <| evs_cons (ev_cN 16) <| evs_cons (ev_cN 4) <| evs_nil) (get_c n _ c l _ _ _ (viewV hS.ok 2 rfl) hl hc hn4 hb (by omega) (by omega)) ?_
         rintro e w ⟨rfl, hk⟩
         refine ⟨_, rfl, ?_⟩
         replace hS := hS.kept hk
         clear hk
         refine hK _ _ ?_; clear hK K
         refine wl_v (x_build (bc_skip (.bool false) <| bc_skip (.int .u64 0) <| bc_take (tmI rfl rfl) <| bc_nil) (by kernel_rfl)) ?_
         refine wl_v (x_fa 12 Try.underlying41 rfl rfl ts_39 (tmP rfl rfl)) ?_
         refine wl_e rfl ?_; intro K hK
         refine ow_storeA hS 0 rfl ts_39 (tmP rfl rfl) (tmA rfl rfl) rfl rfl rfl ?_
         clear hS; intro w hS
         try replace hS := St.nm (M' := [.blk _ _ [_, _, _, _, _, _, _, _, _, _, _, _, _, _, _, _], .blk _ _ [_, _, _, _, _, _, _, _, _, _, _, _, _, _, _, _], .vw _ _]) hS rfl
         refine hK _ _ ?_; clear hK K
         refine wl_nil ?_
         refine then_n (hK38 _ _ ?_); clear hK38 K38
         refine wp_seq_k ?_; intro K39 hK39
         refine wp_seq_k ?_; intro K40 hK40
         refine wlit ?_
         refine wl_v (x_move (tmI rfl rfl)) ?_
         refine wl_v (x_gtr (tmI rfl rfl) (ev_cN 32767)) ?_
         refine wl_v (x_move (tmB rfl rfl)) ?_
         refine gs_wl (tm (t := 70) rfl) (fun hg10_2 => ?_) (fun hg10_2 => ?_)
         · have hg10_2' := hg10_2; (try simp only [nrm] at hg10_2'); try (exfalso; first | with_reducible exact absurd hg10_2 Bool.false_ne_true | with_reducible exact absurd hg10_2.symm Bool.false_ne_true | omega | (simp at hg10_2; done))
           all_goals
            refine wl_s rfl (want_n rfl rfl rfl rfl (by rw [hg10_2]; rfl)) ?_
            refine wl_s rfl (want_n rfl rfl rfl rfl (by rw [hg10_2]; rfl)) ?_
            refine wl_s rfl (want_n rfl rfl rfl rfl (by rw [hg10_2]; rfl)) ?_
            refine wl_s rfl (want_n rfl rfl rfl rfl (by rw [hg10_2]; rfl)) ?_
            refine wl_v (x_pickT (tmB rfl rfl) hg10_2 ev_c) ?_
            refine wl_nil ?_
            refine then_n (hK40 _ _ ?_); clear hK40 K40
            refine cnd_t (tmB rfl rfl) rfl ?_
            refine wp_seq_k ?_; intro K41 hK41
            refine wlit ?_
            refine wl_v (x_build (bc_skip (.int .u8 0) <| bc_skip (.int .i64 0) <| bc_skip (.int .u16 0) <| bc_skip (.bool false) <| bc_skip (.bool false) <| bc_skip (.int .i64 0) <| bc_skip (.int .u8 0) <| bc_skip (.int .u8 0) <| bc_skip (.int .u16 0) <| bc_skipL [.bool false, .int .u64 0, .int .u64 0] <| bc_skipL [.bool false, .int .u64 0, .int .u64 0] <| bc_skip (.slice none 0 0) <| bc_nil) (by kernel_rfl)) ?_
            refine wl_e rfl ?_; intro K hK
            refine ow_storeA hS 1 rfl ts_41 (tmP rfl rfl) (tmA rfl rfl) rfl rfl rfl ?_
            clear hS; intro w hS
            try replace hS := St.nm (M' := [.blk _ _ [_, _, _, _, _, _, _, _, _, _, _, _, _, _, _, _], .blk _ _ [_, _, _, _, _, _, _, _, _, _, _, _, _, _, _, _], .vw _ _]) hS rfl
            refine hK _ _ ?_; clear hK K
            refine wl_v (x_assign ev_c) ?_
            refine wl_v (x_assign (ev_cN 21)) ?_
            refine wl_nil ?_
            refine then_n (hK41 _ _ ?_); clear hK41 K41
            refine wp_ret ?_
            refine then_r ?_
            refine ret3 rfl (.cell rfl rfl (load_rowB (cs := [_, _, _, _, _, _, _, _, _, _, _, _, _, _, _, _]) hS.ok 1 rfl Try.underlying41 rfl ts_41 rfl)) (.tmp rfl (show _ = Value.slice _ _ _ from rfl)) (.tmp rfl (show _ = Value.int _ _ from rfl)) ?_
            refine ⟨g16_4, cg16_4, g17_7, cg17_7, ?_, row_cap (hS.rowOk (no_label_row) rfl) (by decide), hS.newv (no_label_rowo) rfl, hS.newv (no_label_row) rfl, hS.kp⟩
            rw [e1, e8, e9, Nat.zero_add]
            rfl
         have hg10_2' := hg10_2; (try simp only [nrm] at hg10_2'); try (exfalso; first | with_reducible exact absurd hg10_2 Bool.false_ne_true | with_reducible exact absurd hg10_2.symm Bool.false_ne_true | omega | (simp at hg10_2; done))
         all_goals
          refine wl_gv (want_y rfl rfl rfl rfl (by rw [hg10_2]; rfl)) (x_fa 1 Try.underlying41 rfl rfl ts_3 (tmP rfl rfl)) ?_
          first
           | refine wl_gv (want_y rfl rfl rfl rfl (by rw [hg10_2]; rfl)) (x_load Try.underlying3 rfl (tmP rfl rfl) (cellB hS.ok 0 rfl rfl)) ?_
           | refine wl_gv (want_y rfl rfl rfl rfl (by rw [hg10_2]; rfl)) (x_load Try.underlying3 rfl (tmP rfl rfl) (cellB hS.ok 0 rfl (getm (by omega)))) ?_
          refine wl_gv (want_y rfl rfl rfl rfl (by rw [hg10_2]; rfl)) (x_move (tmI rfl rfl)) ?_
          refine wl_gv (want_y rfl rfl rfl rfl (by rw [hg10_2]; rfl)) (x_lss (tmI rfl rfl) (tmI rfl rfl)) ?_
          refine wl_v (x_pickF (tmB rfl rfl) hg10_2 (tmB rfl rfl)) ?_
          refine wl_nil ?_
          refine then_n (hK40 _ _ ?_); clear hK40 K40
          refine cnd (tm rfl) (fun hc2 => ?_) (fun hc2 => ?_)
          · exfalso
            simp only [nrm] at hc2
            omega
          try (exfalso; first | with_reducible exact absurd hc2 Bool.false_ne_true | with_reducible exact absurd hc2.symm Bool.false_ne_true | (simp only [nrm] at hc2; omega) | (simp at hc2; done))
          all_goals
           try simp only [nrm] at hc2
           refine wp_skip ?_
           refine then_n (hK39 _ _ ?_); clear hK39 K39
           refine wp_seq_k ?_; intro K43 hK43
           refine wp_seq_k ?_; intro K44 hK44
           refine wlit ?_
           refine wl_v (x_move (tmS rfl rfl)) ?_
           refine wl_v (x_len Try.underlying22 (tmS rfl rfl)) ?_
           refine wl_v (x_fa 1 Try.underlying41 rfl rfl ts_3 (tmP rfl rfl)) ?_
           first
            | refine wl_v (x_load Try.underlying3 rfl (tmP rfl rfl) (cellB hS.ok 0 rfl rfl)) ?_
            | refine wl_v (x_load Try.underlying3 rfl (tmP rfl rfl) (cellB hS.ok 0 rfl (getm (by omega)))) ?_
           refine wl_v (x_lss (tmI rfl rfl) (tmI rfl rfl)) ?_
           refine wl_nil ?_
           refine then_n (hK44 _ _ ?_); clear hK44 K44
           refine cnd (tm rfl) (fun hc3 => ?_) (fun hc3 => ?_)
           · exfalso
             simp only [nrm] at hc3
             omega
           try (exfalso; first | with_reducible exact absurd hc3 Bool.false_ne_true | with_reducible exact absurd hc3.symm Bool.false_ne_true | (simp only [nrm] at hc3; omega) | (simp at hc3; done))
           all_goals
            try simp only [nrm] at hc3
            refine wp_skip ?_
            refine then_n (hK43 _ _ ?_); clear hK43 K43
            refine wp_seq_k ?_; intro K45 hK45
            refine wp_seq_k ?_; intro K46 hK46
            refine wlit ?_
            refine wl_v (x_move (tmS rfl rfl)) ?_
            refine wl_v (x_move (tmI rfl rfl)) ?_
            refine wl_v (x_sliceH Try.underlying22 ts_5 (tmS rfl rfl) (tmI rfl rfl) (by omega)) ?_
            replace hS := hS.cutb 2 0 sz rfl (by omega : l.length ≤ c)
            refine wl_e rfl ?_; intro K hK
            refine ow_call Try.func21 rfl rfl (evs_cons (tmS rfl rfl) <| evs_nil) (rsum_of_c sz _ _ (l.take sz) _ (viewV hS.ok 0 rfl) htl (hb.take sz) (by omega)) ?_
            rintro e w ⟨rfl, hk⟩
            refine ⟨_, rfl, ?_⟩
            replace hS := hS.kept hk
            clear hk
            refine hK _ _ ?_; clear hK K
            refine wl_v (x_neq (tmI rfl rfl) (ev_cN 0)) ?_
            refine wl_nil ?_
            refine then_n (hK46 _ _ ?_); clear hK46 K46
            refine cnd (tm rfl) (fun hc4 => ?_) (fun hc4 => ?_)
            · exfalso
              simp only [nrm] at hc4
              omega
            try (exfalso; first | with_reducible exact absurd hc4 Bool.false_ne_true | with_reducible exact absurd hc4.symm Bool.false_ne_true | (simp only [nrm] at hc4; omega) | (simp at hc4; done))
            all_goals
             try simp only [nrm] at hc4
             refine wp_skip ?_
             refine then_n (hK45 _ _ ?_); clear hK45 K45
             refine wp_seq_k ?_; intro K47 hK47
             refine wlit ?_
             refine wl_e rfl ?_; intro K hK
             refine ow_build0 hS Try.underlying22 tz_5 rfl rfl ?_
             clear hS; intro g16_0 w hg16_0 hS
             refine hK _ _ ?_; clear hK K
             refine wl_v (x_move (tmS rfl rfl)) ?_
             refine wl_v (x_move (tmI rfl rfl)) ?_
             refine wl_v (x_sliceLH Try.underlying22 ts_5 (tmS rfl rfl) (ev_cN 20) (tmI rfl rfl) (by omega)) ?_
             replace hS := hS.cutb 4 20 (sz - 20) rfl (by omega : l.length ≤ c)
             refine wl_e rfl ?_; intro K hK
             first
              | (refine ow_append hS 1 0 rfl rfl Try.underlying22 tz_5 rfl (tmS rfl rfl) (tmS rfl rfl) rfl ⟨by decide, by decide, rfl⟩ (by simp only [maxLen]; omega) (by omega) ?_; clear hS; intro g16_4 cg16_4 w hS)
              | (refine ow_append hS 1 2 rfl rfl Try.underlying22 tz_5 rfl (tmS rfl rfl) (tmS rfl rfl) rfl ⟨by decide, by decide, rfl⟩ (by simp only [maxLen]; omega) (by omega) ?_; clear hS; intro g16_4 cg16_4 w hS)
              | (refine ow_append hS 1 3 rfl rfl Try.underlying22 tz_5 rfl (tmS rfl rfl) (tmS rfl rfl) rfl ⟨by decide, by decide, rfl⟩ (by simp only [maxLen]; omega) (by omega) ?_; clear hS; intro g16_4 cg16_4 w hS)
              | (refine ow_append hS 1 4 rfl rfl Try.underlying22 tz_5 rfl (tmS rfl rfl) (tmS rfl rfl) rfl ⟨by decide, by decide, rfl⟩ (by simp only [maxLen]; omega) (by omega) ?_; clear hS; intro g16_4 cg16_4 w hS)
              | (refine ow_append hS 1 5 rfl rfl Try.underlying22 tz_5 rfl (tmS rfl rfl) (tmS rfl rfl) rfl ⟨by decide, by decide, rfl⟩ (by simp only [maxLen]; omega) (by omega) ?_; clear hS; intro g16_4 cg16_4 w hS)
              | (refine ow_appendV hS 1 rfl (viewV hS.ok 0 rfl) Try.underlying22 tz_5 rfl (tmS rfl rfl) (tmS rfl rfl) (by first | exact u8v_one _ | (intro u hu; simp at hu; first | (rcases hu with rfl | rfl <;> rfl) | (obtain ⟨_, _, rfl⟩ := hu; rfl))) ⟨by decide, by first | rfl | (simp; done) | (simp; omega)⟩ (by simp only [maxLen]; omega) (by omega) ?_; clear hS; intro g16_4 cg16_4 w hAg16_4 hCg16_4 hS)
              | (refine ow_appendV hS 1 rfl (viewR hS.ok 1 rfl) Try.underlying22 tz_5 rfl (tmS rfl rfl) (tmS rfl rfl) (by first | exact u8v_one _ | (intro u hu; simp at hu; first | (rcases hu with rfl | rfl <;> rfl) | (obtain ⟨_, _, rfl⟩ := hu; rfl))) ⟨by decide, by first | rfl | (simp; done) | (simp; omega)⟩ (by simp only [maxLen]; omega) (by omega) ?_; clear hS; intro g16_4 cg16_4 w hAg16_4 hCg16_4 hS)
              | (refine ow_appendV hS 1 rfl (viewV hS.ok 2 rfl) Try.underlying22 tz_5 rfl (tmS rfl rfl) (tmS rfl rfl) (by first | exact u8v_one _ | (intro u hu; simp at hu; first | (rcases hu with rfl | rfl <;> rfl) | (obtain ⟨_, _, rfl⟩ := hu; rfl))) ⟨by decide, by first | rfl | (simp; done) | (simp; omega)⟩ (by simp only [maxLen]; omega) (by omega) ?_; clear hS; intro g16_4 cg16_4 w hAg16_4 hCg16_4 hS)
              | (refine ow_appendV hS 1 rfl (viewV hS.ok 5 rfl) Try.underlying22 tz_5 rfl (tmS rfl rfl) (tmS rfl rfl) (by first | exact u8v_one _ | (intro u hu; simp at hu; first | (rcases hu with rfl | rfl <;> rfl) | (obtain ⟨_, _, rfl⟩ := hu; rfl))) ⟨by decide, by first | rfl | (simp; done) | (simp; omega)⟩ (by simp only [maxLen]; omega) (by omega) ?_; clear hS; intro g16_4 cg16_4 w hAg16_4 hCg16_4 hS)
              | (refine ow_appendV hS 1 rfl View.nil_ Try.underlying22 tz_5 rfl (tmS rfl rfl) (tmS rfl rfl) (by first | exact u8v_one _ | (intro u hu; simp at hu; first | (rcases hu with rfl | rfl <;> rfl) | (obtain ⟨_, _, rfl⟩ := hu; rfl))) ⟨by decide, by first | rfl | (simp; done) | (simp; omega)⟩ (by simp only [maxLen]; omega) (by omega) ?_; clear hS; intro g16_4 cg16_4 w hAg16_4 hCg16_4 hS)
             refine hK _ _ ?_; clear hK K
             refine wl_v (x_fa 15 Try.underlying41 rfl rfl ts_22 (tmP rfl rfl)) ?_
             refine wl_e rfl ?_; intro K hK
             first
              | refine ow_store hS 3 rfl ts_22 (tmP rfl rfl) (tmS rfl rfl) rfl rfl ?_
              | refine ow_storeX hS 3 rfl ts_22 (tmP rfl rfl) (tmS rfl rfl) rfl (by simp; omega) ?_
             clear hS; intro w hS
             try replace hS := St.nm (M' := [.vw _ _, .row _ _ _ _ _, .vw _ _, .blk _ _ [_, _, _, _, _, _, _, _, _, _, _, _, _, _, _, _], .blk _ _ [_, _, _, _, _, _, _, _, _, _, _, _, _, _, _, _], .vw _ _]) hS rfl
             refine hK _ _ ?_; clear hK K
             refine wl_nil ?_
             simp only [List.nil_append, Nat.zero_add] at hS
             refine then_n (hK47 _ _ ?_); clear hK47 K47
             refine wp_seq_k ?_; intro K48 hK48
             replace hS := hS.cutb 5 sz (len - sz) rfl (by omega : l.length ≤ c)
             replace hS := hS.pick [5, 4, 0, 2, 6] rfl rfl
             try replace hS := St.nm (M' := [.blk _ _ [_, _, _, _, _, _, _, _, _, _, _, _, _, _, _, _], .blk _ _ [_, _, _, _, _, _, _, _, _, _, _, _, _, _, _, _], .vw _ _, .row _ _ _ _ _, .vw _ _]) hS rfl
             refine rg_startk 1 hS mixed_ ?_
             clear hS; intro w hS
             refine rg_take 0 rfl rfl (by kernel_rfl) (by kernel_rfl) (by kernel_rfl) (want_0) (fun w hok => x_loadA (cs := [_, _, _, _, _, _, _, _, _, _, _, _, _, _, _, _]) Try.underlying41 rfl ts_41 (tmP rfl rfl) (rangeB hok 0 rfl rfl)) ?_
             refine rg_take 2 rfl rfl (by kernel_rfl) (by kernel_rfl) (by kernel_rfl) (want_0) (fun w hok => x_move (tmS rfl rfl)) ?_
             refine rg_take 3 rfl rfl (by kernel_rfl) (by kernel_rfl) (by kernel_rfl) (want_0) (fun w hok => x_move (tmI rfl rfl)) ?_
             refine rg_take 4 rfl rfl (by kernel_rfl) (by kernel_rfl) (by kernel_rfl) (want_0) (fun w hok => x_fa 1 Try.underlying41 rfl rfl ts_3 (tmP rfl rfl)) ?_
             first
              | refine rg_take 5 rfl rfl (by kernel_rfl) (by kernel_rfl) (by kernel_rfl) (want_0) (fun w hok => x_load Try.underlying3 rfl (tmP rfl rfl) (cellB hok 0 rfl rfl)) ?_
              | refine rg_take 5 rfl rfl (by kernel_rfl) (by kernel_rfl) (by kernel_rfl) (want_0) (fun w hok => x_load Try.underlying3 rfl (tmP rfl rfl) (cellB hok 0 rfl (getm (by omega)))) ?_
             refine rg_take 6 rfl rfl (by kernel_rfl) (by kernel_rfl) (by kernel_rfl) (want_0) (fun w hok => x_sliceLH Try.underlying22 ts_5 (tmS rfl rfl) (tmI rfl rfl) (tmI rfl rfl) (by omega)) ?_
             refine rg_step 1 rfl (by kernel_rfl) (want_0) (oks_drop hS 1 rfl) ?_; intro K hK
             refine ow_build0 hS Try.underlying22 tz_5 rfl rfl ?_
             clear hS; intro g17_1 w hg17_1 hS
             refine hK _ _ ?_; clear hK K
             refine rg_step 7 rfl (by kernel_rfl) (want_0) (oks_drop hS 2 rfl) ?_; intro K hK
             first
              | (refine ow_append hS 0 1 rfl rfl Try.underlying22 tz_5 rfl (tmS rfl rfl) (tmS rfl rfl) rfl ⟨by decide, by decide, rfl⟩ (by simp only [maxLen]; omega) (by omega) ?_; clear hS; intro g17_7 cg17_7 w hS)
              | (refine ow_append hS 0 2 rfl rfl Try.underlying22 tz_5 rfl (tmS rfl rfl) (tmS rfl rfl) rfl ⟨by decide, by decide, rfl⟩ (by simp only [maxLen]; omega) (by omega) ?_; clear hS; intro g17_7 cg17_7 w hS)
              | (refine ow_append hS 0 3 rfl rfl Try.underlying22 tz_5 rfl (tmS rfl rfl) (tmS rfl rfl) rfl ⟨by decide, by decide, rfl⟩ (by simp only [maxLen]; omega) (by omega) ?_; clear hS; intro g17_7 cg17_7 w hS)
              | (refine ow_append hS 0 4 rfl rfl Try.underlying22 tz_5 rfl (tmS rfl rfl) (tmS rfl rfl) rfl ⟨by decide, by decide, rfl⟩ (by simp only [maxLen]; omega) (by omega) ?_; clear hS; intro g17_7 cg17_7 w hS)
              | (refine ow_append hS 0 5 rfl rfl Try.underlying22 tz_5 rfl (tmS rfl rfl) (tmS rfl rfl) rfl ⟨by decide, by decide, rfl⟩ (by simp only [maxLen]; omega) (by omega) ?_; clear hS; intro g17_7 cg17_7 w hS)
              | (refine ow_append hS 4 0 rfl rfl Try.underlying22 tz_5 rfl (tmS rfl rfl) (tmS rfl rfl) rfl ⟨by decide, by decide, rfl⟩ (by simp only [maxLen]; omega) (by omega) ?_; clear hS; intro g17_7 cg17_7 w hS)
              | (refine ow_append hS 4 1 rfl rfl Try.underlying22 tz_5 rfl (tmS rfl rfl) (tmS rfl rfl) rfl ⟨by decide, by decide, rfl⟩ (by simp only [maxLen]; omega) (by omega) ?_; clear hS; intro g17_7 cg17_7 w hS)
              | (refine ow_append hS 4 2 rfl rfl Try.underlying22 tz_5 rfl (tmS rfl rfl) (tmS rfl rfl) rfl ⟨by decide, by decide, rfl⟩ (by simp only [maxLen]; omega) (by omega) ?_; clear hS; intro g17_7 cg17_7 w hS)
              | (refine ow_append hS 4 3 rfl rfl Try.underlying22 tz_5 rfl (tmS rfl rfl) (tmS rfl rfl) rfl ⟨by decide, by decide, rfl⟩ (by simp only [maxLen]; omega) (by omega) ?_; clear hS; intro g17_7 cg17_7 w hS)
              | (refine ow_append hS 4 5 rfl rfl Try.underlying22 tz_5 rfl (tmS rfl rfl) (tmS rfl rfl) rfl ⟨by decide, by decide, rfl⟩ (by simp only [maxLen]; omega) (by omega) ?_; clear hS; intro g17_7 cg17_7 w hS)
              | (refine ow_appendV hS 0 rfl (viewR hS.ok 0 rfl) Try.underlying22 tz_5 rfl (tmS rfl rfl) (tmS rfl rfl) (by first | exact u8v_one _ | (intro u hu; simp at hu; first | (rcases hu with rfl | rfl <;> rfl) | (obtain ⟨_, _, rfl⟩ := hu; rfl))) ⟨by decide, by first | rfl | (simp; done) | (simp; omega)⟩ (by simp only [maxLen]; omega) (by omega) ?_; clear hS; intro g17_7 cg17_7 w hAg17_7 hCg17_7 hS)
              | (refine ow_appendV hS 0 rfl (viewV hS.ok 3 rfl) Try.underlying22 tz_5 rfl (tmS rfl rfl) (tmS rfl rfl) (by first | exact u8v_one _ | (intro u hu; simp at hu; first | (rcases hu with rfl | rfl <;> rfl) | (obtain ⟨_, _, rfl⟩ := hu; rfl))) ⟨by decide, by first | rfl | (simp; done) | (simp; omega)⟩ (by simp only [maxLen]; omega) (by omega) ?_; clear hS; intro g17_7 cg17_7 w hAg17_7 hCg17_7 hS)
              | (refine ow_appendV hS 0 rfl (viewR hS.ok 4 rfl) Try.underlying22 tz_5 rfl (tmS rfl rfl) (tmS rfl rfl) (by first | exact u8v_one _ | (intro u hu; simp at hu; first | (rcases hu with rfl | rfl <;> rfl) | (obtain ⟨_, _, rfl⟩ := hu; rfl))) ⟨by decide, by first | rfl | (simp; done) | (simp; omega)⟩ (by simp only [maxLen]; omega) (by omega) ?_; clear hS; intro g17_7 cg17_7 w hAg17_7 hCg17_7 hS)
              | (refine ow_appendV hS 0 rfl (viewV hS.ok 5 rfl) Try.underlying22 tz_5 rfl (tmS rfl rfl) (tmS rfl rfl) (by first | exact u8v_one _ | (intro u hu; simp at hu; first | (rcases hu with rfl | rfl <;> rfl) | (obtain ⟨_, _, rfl⟩ := hu; rfl))) ⟨by decide, by first | rfl | (simp; done) | (simp; omega)⟩ (by simp only [maxLen]; omega) (by omega) ?_; clear hS; intro g17_7 cg17_7 w hAg17_7 hCg17_7 hS)
              | (refine ow_appendV hS 0 rfl View.nil_ Try.underlying22 tz_5 rfl (tmS rfl rfl) (tmS rfl rfl) (by first | exact u8v_one _ | (intro u hu; simp at hu; first | (rcases hu with rfl | rfl <;> rfl) | (obtain ⟨_, _, rfl⟩ := hu; rfl))) ⟨by decide, by first | rfl | (simp; done) | (simp; omega)⟩ (by simp only [maxLen]; omega) (by omega) ?_; clear hS; intro g17_7 cg17_7 w hAg17_7 hCg17_7 hS)
              | (refine ow_appendV hS 4 rfl (viewR hS.ok 0 rfl) Try.underlying22 tz_5 rfl (tmS rfl rfl) (tmS rfl rfl) (by first | exact u8v_one _ | (intro u hu; simp at hu; first | (rcases hu with rfl | rfl <;> rfl) | (obtain ⟨_, _, rfl⟩ := hu; rfl))) ⟨by decide, by first | rfl | (simp; done) | (simp; omega)⟩ (by simp only [maxLen]; omega) (by omega) ?_; clear hS; intro g17_7 cg17_7 w hAg17_7 hCg17_7 hS)
              | (refine ow_appendV hS 4 rfl (viewV hS.ok 3 rfl) Try.underlying22 tz_5 rfl (tmS rfl rfl) (tmS rfl rfl) (by first | exact u8v_one _ | (intro u hu; simp at hu; first | (rcases hu with rfl | rfl <;> rfl) | (obtain ⟨_, _, rfl⟩ := hu; rfl))) ⟨by decide, by first | rfl | (simp; done) | (simp; omega)⟩ (by simp only [maxLen]; omega) (by omega) ?_; clear hS; intro g17_7 cg17_7 w hAg17_7 hCg17_7 hS)
              | (refine ow_appendV hS 4 rfl (viewR hS.ok 4 rfl) Try.underlying22 tz_5 rfl (tmS rfl rfl) (tmS rfl rfl) (by first | exact u8v_one _ | (intro u hu; simp at hu; first | (rcases hu with rfl | rfl <;> rfl) | (obtain ⟨_, _, rfl⟩ := hu; rfl))) ⟨by decide, by first | rfl | (simp; done) | (simp; omega)⟩ (by simp only [maxLen]; omega) (by omega) ?_; clear hS; intro g17_7 cg17_7 w hAg17_7 hCg17_7 hS)
              | (refine ow_appendV hS 4 rfl (viewV hS.ok 5 rfl) Try.underlying22 tz_5 rfl (tmS rfl rfl) (tmS rfl rfl) (by first | exact u8v_one _ | (intro u hu; simp at hu; first | (rcases hu with rfl | rfl <;> rfl) | (obtain ⟨_, _, rfl⟩ := hu; rfl))) ⟨by decide, by first | rfl | (simp; done) | (simp; omega)⟩ (by simp only [maxLen]; omega) (by omega) ?_; clear hS; intro g17_7 cg17_7 w hAg17_7 hCg17_7 hS)
              | (refine ow_appendV hS 4 rfl View.nil_ Try.underlying22 tz_5 rfl (tmS rfl rfl) (tmS rfl rfl) (by first | exact u8v_one _ | (intro u hu; simp at hu; first | (rcases hu with rfl | rfl <;> rfl) | (obtain ⟨_, _, rfl⟩ := hu; rfl))) ⟨by decide, by first | rfl | (simp; done) | (simp; omega)⟩ (by simp only [maxLen]; omega) (by omega) ?_; clear hS; intro g17_7 cg17_7 w hAg17_7 hCg17_7 hS)
             refine hK _ _ ?_; clear hK K
             refine rg_step 8 rfl (by kernel_rfl) (want_0) (oks_drop hS 2 rfl) ?_; intro K hK
             refine ow_storeA hS 1 rfl ts_41 (tmP rfl rfl) (tmA rfl rfl) rfl rfl rfl ?_
             clear hS; intro w hS
             try replace hS := St.nm (M' := [.row _ _ _ _ _, .blk _ _ [_, _, _, _, _, _, _, _, _, _, _, _, _, _, _, _], .blk _ _ [_, _, _, _, _, _, _, _, _, _, _, _, _, _, _, _], .vw _ _, .row _ _ _ _ _, .vw _ _]) hS rfl
             refine hK _ _ ?_; clear hK K
             refine rg_take 9 rfl rfl (by kernel_rfl) (by kernel_rfl) (by kernel_rfl) (want_0) (fun w hok => x_assign (tmS rfl rfl)) ?_
             refine rg_take 10 rfl rfl (by kernel_rfl) (by kernel_rfl) (by kernel_rfl) (want_0) (fun w hok => x_assign (ev_cN 0)) ?_
             refine rg_done (oks_drop hS 2 rfl) (by kernel_rfl) ?_
             simp only [List.nil_append, Nat.zero_add] at hS
             refine then_n (hK48 _ _ ?_); clear hK48 K48
             refine wp_ret ?_
             refine ret3 rfl (.cell rfl rfl (load_rowB (cs := [_, _, _, _, _, _, _, _, _, _, _, _, _, _, _, _]) hS.ok 1 rfl Try.underlying41 rfl ts_41 rfl)) (.tmp rfl (show _ = Value.slice _ _ _ from rfl)) (.tmp rfl (show _ = Value.int _ _ from rfl)) ?_
             refine ⟨g16_4, cg16_4, g17_7, cg17_7, ?_, row_cap (hS.rowOk 0 rfl) (by decide), hS.newv 4 rfl, hS.newv 0 rfl, hS.kp⟩
             rw [e1, e8, e9, Nat.zero_add]
             rfl
     · intro K hK
       refine ow_alloc hS tz_41 rfl ?_
       clear hS; intro g7_30 w hg7_30 hS
       refine hK _ _ ?_; clear hK K
       refine rg_step 4 rfl (by kernel_rfl) (want_0) (oks_drop hS 1 rfl) ?_; intro K hK
       refine ow_call Try.func20 rfl rfl (evs_cons (tmS rfl rfl) <| evs_cons (ev_cN 2) <| evs_cons (ev_cN 2) <| evs_nil) (get_c n _ c l _ _ _ (viewV hS.ok 2 rfl) hl hc hn4 hb (by omega) (by omega)) ?_
       rintro e w ⟨rfl, hk⟩
       refine ⟨_, rfl, ?_⟩
       replace hS := hS.kept hk
       clear hk
       refine hK _ _ ?_; clear hK K
       refine rg_take 5 rfl rfl (by kernel_rfl) (by kernel_rfl) (by kernel_rfl) (want_0) (fun w hok => x_convN Try.underlying37 Try.underlying3 (tmI rfl (congrArg (fun q : Nat => Value.int .u64 (q : Int)) hle)) (fit_i64 (by omega))) ?_
       refine rg_step 7 rfl (by kernel_rfl) (want_0) (oks_drop hS 1 rfl) ?_; intro K hK
       refine ow_call Try.func20 rfl rfl (evs_cons (tmS rfl rfl) <| evs_cons (ev_cN 4) <| evs_cons (ev_cN 2) <| evs_nil) (get_c n _ c l _ _ _ (viewV hS.ok 2 rfl) hl hc hn4 hb (by omega) (by omega)) ?_
       rintro e w ⟨rfl, hk⟩
       refine ⟨_, rfl, ?_⟩
       replace hS := hS.kept hk
       clear hk
       refine hK _ _ ?_; clear hK K
       first
        | refine rg_take 8 rfl rfl (by kernel_rfl) (by kernel_rfl) (by kernel_rfl) (want_0) (fun w hok => x_convN Try.underlying37 Try.underlying36 (tmI rfl rfl) (fit_u16 (by omega))) ?_
        | refine rg_take 8 rfl rfl (by kernel_rfl) (by kernel_rfl) (by kernel_rfl) (want_0) (fun w hok => x_convU Try.underlying37 Try.underlying36 (tmI rfl rfl) rfl) ?_
        | refine rg_take 8 rfl rfl (by kernel_rfl) (by kernel_rfl) (by kernel_rfl) (want_0) (fun w hok => x_conv Try.underlying37 Try.underlying36 (tmI rfl rfl)) ?_
       refine rg_step 27 rfl (by kernel_rfl) (want_0) (oks_drop hS 1 rfl) ?_; intro K hK
       refine ow_call Try.func20 rfl rfl (evs_cons (tmS rfl rfl) <| evs_cons (ev_cN 10) <| evs_cons (ev_cN 2) <| evs_nil) (get_c n _ c l _ _ _ (viewV hS.ok 2 rfl) hl hc hn4 hb (by omega) (by omega)) ?_
       rintro e w ⟨rfl, hk⟩
       refine ⟨_, rfl, ?_⟩
       replace hS := hS.kept hk
       clear hk
       refine hK _ _ ?_; clear hK K
       first
        | refine rg_take 28 rfl rfl (by kernel_rfl) (by kernel_rfl) (by kernel_rfl) (want_0) (fun w hok => x_convN Try.underlying37 Try.underlying36 (tmI rfl rfl) (fit_u16 (by omega))) ?_
        | refine rg_take 28 rfl rfl (by kernel_rfl) (by kernel_rfl) (by kernel_rfl) (want_0) (fun w hok => x_convU Try.underlying37 Try.underlying36 (tmI rfl rfl) rfl) ?_
        | refine rg_take 28 rfl rfl (by kernel_rfl) (by kernel_rfl) (by kernel_rfl) (want_0) (fun w hok => x_conv Try.underlying37 Try.underlying36 (tmI rfl rfl)) ?_
       refine rg_take 29 rfl rfl (by kernel_rfl) (by kernel_rfl) (by kernel_rfl) (want_0) (fun w hok => x_build (bc_take (tmI rfl rfl) <| bc_take (tmI rfl rfl) <| bc_take (tmI rfl rfl) <| bc_take (tmB rfl rfl) <| bc_take (tmB rfl rfl) <| bc_take (tmI rfl rfl) <| bc_take (tmI rfl rfl) <| bc_take (tmI rfl rfl) <| bc_take (tmI rfl rfl) <| bc_skipL [.bool false, .int .u64 0, .int .u64 0] <| bc_skipL [.bool false, .int .u64 0, .int .u64 0] <| bc_skip (.slice none 0 0) <| bc_nil) (by kernel_rfl)) ?_
       refine rg_step 31 rfl (by kernel_rfl) (want_0) (oks_drop hS 1 rfl) ?_; intro K hK
       refine ow_storeA hS 0 rfl ts_41 (tmP rfl rfl) (tmA rfl rfl) rfl rfl rfl ?_
       clear hS; intro w hS
       try replace hS := St.nm (M' := [.blk _ _ [_, _, _, _, _, _, _, _, _, _, _, _, _, _, _, _], .blk _ _ [_, _, _, _, _, _, _, _, _, _, _, _, _, _, _, _], .vw _ _]) hS rfl
       refine hK _ _ ?_; clear hK K
       refine rg_done (oks_drop hS 1 rfl) (by kernel_rfl) ?_
       refine then_n (hK10 _ _ ?_); clear hK10 K10
       refine wp_seq_k ?_; intro K50 hK50
       refine wlit ?_
       refine wl_v (x_move (tmS rfl rfl)) ?_
       refine wl_e rfl ?_; intro K hK
       refine ow_call Try.func20 rfl rfl (evs_cons (tmS rfl rfl) <| evs_cons (ev_cN 12) <| evs_cons (ev_cN 4) <| evs_nil) (get_c n _ c l _ _ _ (viewV hS.ok 2 rfl) hl hc hn4 hb (by omega) (by omega)) ?_
       rintro e w ⟨rfl, hk⟩
       refine ⟨_, rfl, ?_⟩
       replace hS := hS.kept hk
       clear hk
       refine hK _ _ ?_; clear hK K
       refine wl_v (x_build (bc_skip (.bool false) <| bc_skip (.int .u64 0) <| bc_take (tmI rfl rfl) <| bc_nil) (by kernel_rfl)) ?_
       refine wl_v (x_fa 9 Try.underlying41 rfl rfl ts_39 (tmP rfl rfl)) ?_
       refine wl_e rfl ?_; intro K hK
       refine ow_storeA hS 0 rfl ts_39 (tmP rfl rfl) (tmA rfl rfl) rfl rfl rfl ?_
       clear hS; intro w hS
       try replace hS := St.nm (M' := [.blk _ _ [_, _, _, _, _, _, _, _, _, _, _, _, _, _, _, _], .blk _ _ [_, _, _, _, _, _, _, _, _, _, _, _, _, _, _, _], .vw _ _]) hS rfl
       refine hK _ _ ?_; clear hK K
       refine wl_nil ?_
       refine then_n (hK50 _ _ ?_); clear hK50 K50
       refine wp_seq_k ?_; intro K51 hK51
       refine wlit ?_
       refine wl_v (x_move (tmS rfl rfl)) ?_
       refine wl_e rfl ?_; intro K hK
       refine ow_call Try.func20 rfl rfl (evs_cons (tmS rfl rfl) <| evs_cons (ev_cN 16) <| evs_cons (ev_cN 4) <| evs_nil) (get_c n _ c l _ _ _ (viewV hS.ok 2 rfl) hl hc hn4 hb (by omega) (by omega)) ?_
       rintro e w ⟨rfl, hk⟩
       refine ⟨_, rfl, ?_⟩
       replace hS := hS.kept hk
       clear hk
       refine hK _ _ ?_; clear hK K
       refine wl_v (x_build (bc_skip (.bool false) <| bc_skip (.int .u64 0) <| bc_take (tmI rfl rfl) <| bc_nil) (by kernel_rfl)) ?_
       refine wl_v (x_fa 12 Try.underlying41 rfl rfl ts_39 (tmP rfl rfl)) ?_
       refine wl_e rfl ?_; intro K hK
       refine ow_storeA hS 0 rfl ts_39 (tmP rfl rfl) (tmA rfl rfl) rfl rfl rfl ?_
       clear hS; intro w hS
       try replace hS := St.nm (M' := [.blk _ _ [_, _, _, _, _, _, _, _, _, _, _, _, _, _, _, _], .blk _ _ [_, _, _, _, _, _, _, _, _, _, _, _, _, _, _, _], .vw _ _]) hS rfl
       refine hK _ _ ?_; clear hK K
       refine wl_nil ?_
       refine then_n (hK51 _ _ ?_); clear hK51 K51
       refine wp_seq_k ?_; intro K52 hK52
       refine wp_seq_k ?_; intro K53 hK53
       refine wlit ?_
       refine wl_v (x_move (tmI rfl rfl)) ?_
       refine wl_v (x_gtr (tmI rfl rfl) (ev_cN 32767)) ?_
       refine wl_v (x_move (tmB rfl rfl)) ?_
       refine gs_wl (tm (t := 70) rfl) (fun hg10_2 => ?_) (fun hg10_2 => ?_)
       · have hg10_2' := hg10_2; (try simp only [nrm] at hg10_2'); try (exfalso; first | with_reducible exact absurd hg10_2 Bool.false_ne_true | with_reducible exact absurd hg10_2.symm Bool.false_ne_true | omega | (simp at hg10_2; done))
         all_goals
          refine wl_s rfl (want_n rfl rfl rfl rfl (by rw [hg10_2]; rfl)) ?_
          refine wl_s rfl (want_n rfl rfl rfl rfl (by rw [hg10_2]; rfl)) ?_
          refine wl_s rfl (want_n rfl rfl rfl rfl (by rw [hg10_2]; rfl)) ?_
          refine wl_s rfl (want_n rfl rfl rfl rfl (by rw [hg10_2]; rfl)) ?_
          refine wl_v (x_pickT (tmB rfl rfl) hg10_2 ev_c) ?_
          refine wl_nil ?_
          refine then_n (hK53 _ _ ?_); clear hK53 K53
          refine cnd_t (tmB rfl rfl) rfl ?_
          refine wp_seq_k ?_; intro K54 hK54
          refine wlit ?_
          refine wl_v (x_build (bc_skip (.int .u8 0) <| bc_skip (.int .i64 0) <| bc_skip (.int .u16 0) <| bc_skip (.bool false) <| bc_skip (.bool false) <| bc_skip (.int .i64 0) <| bc_skip (.int .u8 0) <| bc_skip (.int .u8 0) <| bc_skip (.int .u16 0) <| bc_skipL [.bool false, .int .u64 0, .int .u64 0] <| bc_skipL [.bool false, .int .u64 0, .int .u64 0] <| bc_skip (.slice none 0 0) <| bc_nil) (by kernel_rfl)) ?_
          refine wl_e rfl ?_; intro K hK
          refine ow_storeA hS 1 rfl ts_41 (tmP rfl rfl) (tmA rfl rfl) rfl rfl rfl ?_
          clear hS; intro w hS
          try replace hS := St.nm (M' := [.blk _ _ [_, _, _, _, _, _, _, _, _, _, _, _, _, _, _, _], .blk _ _ [_, _, _, _, _, _, _, _, _, _, _, _, _, _, _, _], .vw _ _]) hS rfl
          refine hK _ _ ?_; clear hK K
          refine wl_v (x_assign ev_c) ?_
          refine wl_v (x_assign (ev_cN 21)) ?_
          refine wl_nil ?_
          refine then_n (hK54 _ _ ?_); clear hK54 K54
          refine wp_ret ?_
          refine then_r ?_
          refine ret3 rfl (.cell rfl rfl (load_rowB (cs := [_, _, _, _, _, _, _, _, _, _, _, _, _, _, _, _]) hS.ok 1 rfl Try.underlying41 rfl ts_41 rfl)) (.tmp rfl (show _ = Value.slice _ _ _ from rfl)) (.tmp rfl (show _ = Value.int _ _ from rfl)) ?_
          refine ⟨g16_4, cg16_4, g17_7, cg17_7, ?_, row_cap (hS.rowOk (no_label_row) rfl) (by decide), hS.newv (no_label_rowo) rfl, hS.newv (no_label_row) rfl, hS.kp⟩
          rw [e1, e8, e9, Nat.zero_add]
          rfl
       have hg10_2' := hg10_2; (try simp only [nrm] at hg10_2'); try (exfalso; first | with_reducible exact absurd hg10_2 Bool.false_ne_true | with_reducible exact absurd hg10_2.symm Bool.false_ne_true | omega | (simp at hg10_2; done))
       all_goals
        refine wl_gv (want_y rfl rfl rfl rfl (by rw [hg10_2]; rfl)) (x_fa 1 Try.underlying41 rfl rfl ts_3 (tmP rfl rfl)) ?_
        first
         | refine wl_gv (want_y rfl rfl rfl rfl (by rw [hg10_2]; rfl)) (x_load Try.underlying3 rfl (tmP rfl rfl) (cellB hS.ok 0 rfl rfl)) ?_
         | refine wl_gv (want_y rfl rfl rfl rfl (by rw [hg10_2]; rfl)) (x_load Try.underlying3 rfl (tmP rfl rfl) (cellB hS.ok 0 rfl (getm (by omega)))) ?_
        refine wl_gv (want_y rfl rfl rfl rfl (by rw [hg10_2]; rfl)) (x_move (tmI rfl rfl)) ?_
        refine wl_gv (want_y rfl rfl rfl rfl (by rw [hg10_2]; rfl)) (x_lss (tmI rfl rfl) (tmI rfl rfl)) ?_
        refine wl_v (x_pickF (tmB rfl rfl) hg10_2 (tmB rfl rfl)) ?_
        refine wl_nil ?_
        refine then_n (hK53 _ _ ?_); clear hK53 K53
        refine cnd (tm rfl) (fun hc2 => ?_) (fun hc2 => ?_)
        · exfalso
          simp only [nrm] at hc2
          omega
        try (exfalso; first | with_reducible exact absurd hc2 Bool.false_ne_true | with_reducible exact absurd hc2.symm Bool.false_ne_true | (simp only [nrm] at hc2; omega) | (simp at hc2; done))
        all_goals
         try simp only [nrm] at hc2
         refine wp_skip ?_
         refine then_n (hK52 _ _ ?_); clear hK52 K52
         refine wp_seq_k ?_; intro K56 hK56
         refine wp_seq_k ?_; intro K57 hK57
         refine wlit ?_
         refine wl_v (x_move (tmS rfl rfl)) ?_
         refine wl_v (x_len Try.underlying22 (tmS rfl rfl)) ?_
         refine wl_v (x_fa 1 Try.underlying41 rfl rfl ts_3 (tmP rfl rfl)) ?_
         first
          | refine wl_v (x_load Try.underlying3 rfl (tmP rfl rfl) (cellB hS.ok 0 rfl rfl)) ?_
          | refine wl_v (x_load Try.underlying3 rfl (tmP rfl rfl) (cellB hS.ok 0 rfl (getm (by omega)))) ?_
         refine wl_v (x_lss (tmI rfl rfl) (tmI rfl rfl)) ?_
         refine wl_nil ?_
         refine then_n (hK57 _ _ ?_); clear hK57 K57
         refine cnd (tm rfl) (fun hc3 => ?_) (fun hc3 => ?_)
         · exfalso
           simp only [nrm] at hc3
           omega
         try (exfalso; first | with_reducible exact absurd hc3 Bool.false_ne_true | with_reducible exact absurd hc3.symm Bool.false_ne_true | (simp only [nrm] at hc3; omega) | (simp at hc3; done))
         all_goals
          try simp only [nrm] at hc3
          refine wp_skip ?_
          refine then_n (hK56 _ _ ?_); clear hK56 K56
          refine wp_seq_k ?_; intro K58 hK58
          refine wp_seq_k ?_; intro K59 hK59
          refine wlit ?_
          refine wl_v (x_move (tmS rfl rfl)) ?_
          refine wl_v (x_move (tmI rfl rfl)) ?_
          refine wl_v (x_sliceH Try.underlying22 ts_5 (tmS rfl rfl) (tmI rfl rfl) (by omega)) ?_
          replace hS := hS.cutb 2 0 sz rfl (by omega : l.length ≤ c)
          refine wl_e rfl ?_; intro K hK
          refine ow_call Try.func21 rfl rfl (evs_cons (tmS rfl rfl) <| evs_nil) (rsum_of_c sz _ _ (l.take sz) _ (viewV hS.ok 0 rfl) htl (hb.take sz) (by omega)) ?_
          rintro e w ⟨rfl, hk⟩
          refine ⟨_, rfl, ?_⟩
          replace hS := hS.kept hk
          clear hk
          refine hK _ _ ?_; clear hK K
          refine wl_v (x_neq (tmI rfl rfl) (ev_cN 0)) ?_
          refine wl_nil ?_
          refine then_n (hK59 _ _ ?_); clear hK59 K59
          refine cnd (tm rfl) (fun hc4 => ?_) (fun hc4 => ?_)
          · exfalso
            simp only [nrm] at hc4
            omega
          try (exfalso; first | with_reducible exact absurd hc4 Bool.false_ne_true | with_reducible exact absurd hc4.symm Bool.false_ne_true | (simp only [nrm] at hc4; omega) | (simp at hc4; done))
          all_goals
           try simp only [nrm] at hc4
           refine wp_skip ?_
           refine then_n (hK58 _ _ ?_); clear hK58 K58
           refine wp_seq_k ?_; intro K60 hK60
           refine wlit ?_
           refine wl_e rfl ?_; intro K hK
           refine ow_build0 hS Try.underlying22 tz_5 rfl rfl ?_
           clear hS; intro g16_0 w hg16_0 hS
           refine hK _ _ ?_; clear hK K
           refine wl_v (x_move (tmS rfl rfl)) ?_
           refine wl_v (x_move (tmI rfl rfl)) ?_
           refine wl_v (x_sliceLH Try.underlying22 ts_5 (tmS rfl rfl) (ev_cN 20) (tmI rfl rfl) (by omega)) ?_
           replace hS := hS.cutb 4 20 (sz - 20) rfl (by omega : l.length ≤ c)
           refine wl_e rfl ?_; intro K hK
           first
            | (refine ow_append hS 1 0 rfl rfl Try.underlying22 tz_5 rfl (tmS rfl rfl) (tmS rfl rfl) rfl ⟨by decide, by decide, rfl⟩ (by simp only [maxLen]; omega) (by omega) ?_; clear hS; intro g16_4 cg16_4 w hS)
            | (refine ow_append hS 1 2 rfl rfl Try.underlying22 tz_5 rfl (tmS rfl rfl) (tmS rfl rfl) rfl ⟨by decide, by decide, rfl⟩ (by simp only [maxLen]; omega) (by omega) ?_; clear hS; intro g16_4 cg16_4 w hS)
            | (refine ow_append hS 1 3 rfl rfl Try.underlying22 tz_5 rfl (tmS rfl rfl) (tmS rfl rfl) rfl ⟨by decide, by decide, rfl⟩ (by simp only [maxLen]; omega) (by omega) ?_; clear hS; intro g16_4 cg16_4 w hS)
            | (refine ow_append hS 1 4 rfl rfl Try.underlying22 tz_5 rfl (tmS rfl rfl) (tmS rfl rfl) rfl ⟨by decide, by decide, rfl⟩ (by simp only [maxLen]; omega) (by omega) ?_; clear hS; intro g16_4 cg16_4 w hS)
            | (refine ow_append hS 1 5 rfl rfl Try.underlying22 tz_5 rfl (tmS rfl rfl) (tmS rfl rfl) rfl ⟨by decide, by decide, rfl⟩ (by simp only [maxLen]; omega) (by omega) ?_; clear hS; intro g16_4 cg16_4 w hS)
            | (refine ow_appendV hS 1 rfl (viewV hS.ok 0 rfl) Try.underlying22 tz_5 rfl (tmS rfl rfl) (tmS rfl rfl) (by first | exact u8v_one _ | (intro u hu; simp at hu; first | (rcases hu with rfl | rfl <;> rfl) | (obtain ⟨_, _, rfl⟩ := hu; rfl))) ⟨by decide, by first | rfl | (simp; done) | (simp; omega)⟩ (by simp only [maxLen]; omega) (by omega) ?_; clear hS; intro g16_4 cg16_4 w hAg16_4 hCg16_4 hS)
            | (refine ow_appendV hS 1 rfl (viewR hS.ok 1 rfl) Try.underlying22 tz_5 rfl (tmS rfl rfl) (tmS rfl rfl) (by first | exact u8v_one _ | (intro u hu; simp at hu; first | (rcases hu with rfl | rfl <;> rfl) | (obtain ⟨_, _, rfl⟩ := hu; rfl))) ⟨by decide, by first | rfl | (simp; done) | (simp; omega)⟩ (by simp only [maxLen]; omega) (by omega) ?_; clear hS; intro g16_4 cg16_4 w hAg16_4 hCg16_4 hS)
            | (refine ow_appendV hS 1 rfl (viewV hS.ok 2 rfl) Try.underlying22 tz_5 rfl (tmS rfl rfl) (tmS rfl rfl) (by first | exact u8v_one _ | (intro u hu; simp at hu; first | (rcases hu with rfl | rfl <;> rfl) | (obtain ⟨_, _, rfl⟩ := hu; rfl))) ⟨by decide, by first | rfl | (simp; done) | (simp; omega)⟩ (by simp only [maxLen]; omega) (by omega) ?_; clear hS; intro g16_4 cg16_4 w hAg16_4 hCg16_4 hS)
            | (refine ow_appendV hS 1 rfl (viewV hS.ok 5 rfl) Try.underlying22 tz_5 rfl (tmS rfl rfl) (tmS rfl rfl) (by first | exact u8v_one _ | (intro u hu; simp at hu; first | (rcases hu with rfl | rfl <;> rfl) | (obtain ⟨_, _, rfl⟩ := hu; rfl))) ⟨by decide, by first | rfl | (simp; done) | (simp; omega)⟩ (by simp only [maxLen]; omega) (by omega) ?_; clear hS; intro g16_4 cg16_4 w hAg16_4 hCg16_4 hS)
            | (refine ow_appendV hS 1 rfl View.nil_ Try.underlying22 tz_5 rfl (tmS rfl rfl) (tmS rfl rfl) (by first | exact u8v_one _ | (intro u hu; simp at hu; first | (rcases hu with rfl | rfl <;> rfl) | (obtain ⟨_, _, rfl⟩ := hu; rfl))) ⟨by decide, by first | rfl | (simp; done) | (simp; omega)⟩ (by simp only [maxLen]; omega) (by omega) ?_; clear hS; intro g16_4 cg16_4 w hAg16_4 hCg16_4 hS)
           refine hK _ _ ?_; clear hK K
           refine wl_v (x_fa 15 Try.underlying41 rfl rfl ts_22 (tmP rfl rfl)) ?_
           refine wl_e rfl ?_; intro K hK
           first
            | refine ow_store hS 3 rfl ts_22 (tmP rfl rfl) (tmS rfl rfl) rfl rfl ?_
            | refine ow_storeX hS 3 rfl ts_22 (tmP rfl rfl) (tmS rfl rfl) rfl (by simp; omega) ?_
           clear hS; intro w hS
           try replace hS := St.nm (M' := [.vw _ _, .row _ _ _ _ _, .vw _ _, .blk _ _ [_, _, _, _, _, _, _, _, _, _, _, _, _, _, _, _], .blk _ _ [_, _, _, _, _, _, _, _, _, _, _, _, _, _, _, _], .vw _ _]) hS rfl
           refine hK _ _ ?_; clear hK K
           refine wl_nil ?_
           simp only [List.nil_append, Nat.zero_add] at hS
           refine then_n (hK60 _ _ ?_); clear hK60 K60
           refine wp_seq_k ?_; intro K61 hK61
           replace hS := hS.cutb 5 sz (len - sz) rfl (by omega : l.length ≤ c)
           replace hS := hS.pick [5, 4, 0, 2, 6] rfl rfl
           try replace hS := St.nm (M' := [.blk _ _ [_, _, _, _, _, _, _, _, _, _, _, _, _, _, _, _], .blk _ _ [_, _, _, _, _, _, _, _, _, _, _, _, _, _, _, _], .vw _ _, .row _ _ _ _ _, .vw _ _]) hS rfl
           refine rg_startk 1 hS mixed_ ?_
           clear hS; intro w hS
           refine rg_take 0 rfl rfl (by kernel_rfl) (by kernel_rfl) (by kernel_rfl) (want_0) (fun w hok => x_loadA (cs := [_, _, _, _, _, _, _, _, _, _, _, _, _, _, _, _]) Try.underlying41 rfl ts_41 (tmP rfl rfl) (rangeB hok 0 rfl rfl)) ?_
           refine rg_take 2 rfl rfl (by kernel_rfl) (by kernel_rfl) (by kernel_rfl) (want_0) (fun w hok => x_move (tmS rfl rfl)) ?_
           refine rg_take 3 rfl rfl (by kernel_rfl) (by kernel_rfl) (by kernel_rfl) (want_0) (fun w hok => x_move (tmI rfl rfl)) ?_
           refine rg_take 4 rfl rfl (by kernel_rfl) (by kernel_rfl) (by kernel_rfl) (want_0) (fun w hok => x_fa 1 Try.underlying41 rfl rfl ts_3 (tmP rfl rfl)) ?_
           first
            | refine rg_take 5 rfl rfl (by kernel_rfl) (by kernel_rfl) (by kernel_rfl) (want_0) (fun w hok => x_load Try.underlying3 rfl (tmP rfl rfl) (cellB hok 0 rfl rfl)) ?_
            | refine rg_take 5 rfl rfl (by kernel_rfl) (by kernel_rfl) (by kernel_rfl) (want_0) (fun w hok => x_load Try.underlying3 rfl (tmP rfl rfl) (cellB hok 0 rfl (getm (by omega)))) ?_
           refine rg_take 6 rfl rfl (by kernel_rfl) (by kernel_rfl) (by kernel_rfl) (want_0) (fun w hok => x_sliceLH Try.underlying22 ts_5 (tmS rfl rfl) (tmI rfl rfl) (tmI rfl rfl) (by omega)) ?_
           refine rg_step 1 rfl (by kernel_rfl) (want_0) (oks_drop hS 1 rfl) ?_; intro K hK
           refine ow_build0 hS Try.underlying22 tz_5 rfl rfl ?_
           clear hS; intro g17_1 w hg17_1 hS
           refine hK _ _ ?_; clear hK K
           refine rg_step 7 rfl (by kernel_rfl) (want_0) (oks_drop hS 2 rfl) ?_; intro K hK
           first
            | (refine ow_append hS 0 1 rfl rfl Try.underlying22 tz_5 rfl (tmS rfl rfl) (tmS rfl rfl) rfl ⟨by decide, by decide, rfl⟩ (by simp only [maxLen]; omega) (by omega) ?_; clear hS; intro g17_7 cg17_7 w hS)
            | (refine ow_append hS 0 2 rfl rfl Try.underlying22 tz_5 rfl (tmS rfl rfl) (tmS rfl rfl) rfl ⟨by decide, by decide, rfl⟩ (by simp only [maxLen]; omega) (by omega) ?_; clear hS; intro g17_7 cg17_7 w hS)
            | (refine ow_append hS 0 3 rfl rfl Try.underlying22 tz_5 rfl (tmS rfl rfl) (tmS rfl rfl) rfl ⟨by decide, by decide, rfl⟩ (by simp only [maxLen]; omega) (by omega) ?_; clear hS; intro g17_7 cg17_7 w hS)
            | (refine ow_append hS 0 4 rfl rfl Try.underlying22 tz_5 rfl (tmS rfl rfl) (tmS rfl rfl) rfl ⟨by decide, by decide, rfl⟩ (by simp only [maxLen]; omega) (by omega) ?_; clear hS; intro g17_7 cg17_7 w hS)
            | (refine ow_append hS 0 5 rfl rfl Try.underlying22 tz_5 rfl (tmS rfl rfl) (tmS rfl rfl) rfl ⟨by decide, by decide, rfl⟩ (by simp only [maxLen]; omega) (by omega) ?_; clear hS; intro g17_7 cg17_7 w hS)
            | (refine ow_append hS 4 0 rfl rfl Try.underlying22 tz_5 rfl (tmS rfl rfl) (tmS rfl rfl) rfl ⟨by decide, by decide, rfl⟩ (by simp only [maxLen]; omega) (by omega) ?_; clear hS; intro g17_7 cg17_7 w hS)
            | (refine ow_append hS 4 1 rfl rfl Try.underlying22 tz_5 rfl (tmS rfl rfl) (tmS rfl rfl) rfl ⟨by decide, by decide, rfl⟩ (by simp only [maxLen]; omega) (by omega) ?_; clear hS; intro g17_7 cg17_7 w hS)
            | (refine ow_append hS 4 2 rfl rfl Try.underlying22 tz_5 rfl (tmS rfl rfl) (tmS rfl rfl) rfl ⟨by decide, by decide, rfl⟩ (by simp only [maxLen]; omega) (by omega) ?_; clear hS; intro g17_7 cg17_7 w hS)
            | (refine ow_append hS 4 3 rfl rfl Try.underlying22 tz_5 rfl (tmS rfl rfl) (tmS rfl rfl) rfl ⟨by decide, by decide, rfl⟩ (by simp only [maxLen]; omega) (by omega) ?_; clear hS; intro g17_7 cg17_7 w hS)
            | (refine ow_append hS 4 5 rfl rfl Try.underlying22 tz_5 rfl (tmS rfl rfl) (tmS rfl rfl) rfl ⟨by decide, by decide, rfl⟩ (by simp only [maxLen]; omega) (by omega) ?_; clear hS; intro g17_7 cg17_7 w hS)
            | (refine ow_appendV hS 0 rfl (viewR hS.ok 0 rfl) Try.underlying22 tz_5 rfl (tmS rfl rfl) (tmS rfl rfl) (by first | exact u8v_one _ | (intro u hu; simp at hu; first | (rcases hu with rfl | rfl <;> rfl) | (obtain ⟨_, _, rfl⟩ := hu; rfl))) ⟨by decide, by first | rfl | (simp; done) | (simp; omega)⟩ (by simp only [maxLen]; omega) (by omega) ?_; clear hS; intro g17_7 cg17_7 w hAg17_7 hCg17_7 hS)
            | (refine ow_appendV hS 0 rfl (viewV hS.ok 3 rfl) Try.underlying22 tz_5 rfl (tmS rfl rfl) (tmS rfl rfl) (by first | exact u8v_one _ | (intro u hu; simp at hu; first | (rcases hu with rfl | rfl <;> rfl) | (obtain ⟨_, _, rfl⟩ := hu; rfl))) ⟨by decide, by first | rfl | (simp; done) | (simp; omega)⟩ (by simp only [maxLen]; omega) (by omega) ?_; clear hS; intro g17_7 cg17_7 w hAg17_7 hCg17_7 hS)
            | (refine ow_appendV hS 0 rfl (viewR hS.ok 4 rfl) Try.underlying22 tz_5 rfl (tmS rfl rfl) (tmS rfl rfl) (by first | exact u8v_one _ | (intro u hu; simp at hu; first | (rcases hu with rfl | rfl <;> rfl) | (obtain ⟨_, _, rfl⟩ := hu; rfl))) ⟨by decide, by first | rfl | (simp; done) | (simp; omega)⟩ (by simp only [maxLen]; omega) (by omega) ?_; clear hS; intro g17_7 cg17_7 w hAg17_7 hCg17_7 hS)
            | (refine ow_appendV hS 0 rfl (viewV hS.ok 5 rfl) Try.underlying22 tz_5 rfl (tmS rfl rfl) (tmS rfl rfl) (by first | exact u8v_one _ | (intro u hu; simp at hu; first | (rcases hu with rfl | rfl <;> rfl) | (obtain ⟨_, _, rfl⟩ := hu; rfl))) ⟨by decide, by first | rfl | (simp; done) | (simp; omega)⟩ (by simp only [maxLen]; omega) (by omega) ?_; clear hS; intro g17_7 cg17_7 w hAg17_7 hCg17_7 hS)
            | (refine ow_appendV hS 0 rfl View.nil_ Try.underlying22 tz_5 rfl (tmS rfl rfl) (tmS rfl rfl) (by first | exact u8v_one _ | (intro u hu; simp at hu; first | (rcases hu with rfl | rfl <;> rfl) | (obtain ⟨_, _, rfl⟩ := hu; rfl))) ⟨by decide, by first | rfl | (simp; done) | (simp; omega)⟩ (by simp only [maxLen]; omega) (by omega) ?_; clear hS; intro g17_7 cg17_7 w hAg17_7 hCg17_7 hS)
            | (refine ow_appendV hS 4 rfl (viewR hS.ok 0 rfl) Try.underlying22 tz_5 rfl (tmS rfl rfl) (tmS rfl rfl) (by first | exact u8v_one _ | (intro u hu; simp at hu; first | (rcases hu with rfl | rfl <;> rfl) | (obtain ⟨_, _, rfl⟩ := hu; rfl))) ⟨by decide, by first | rfl | (simp; done) | (simp; omega)⟩ (by simp only [maxLen]; omega) (by omega) ?_; clear hS; intro g17_7 cg17_7 w hAg17_7 hCg17_7 hS)
            | (refine ow_appendV hS 4 rfl (viewV hS.ok 3 rfl) Try.underlying22 tz_5 rfl (tmS rfl rfl) (tmS rfl rfl) (by first | exact u8v_one _ | (intro u hu; simp at hu; first | (rcases hu with rfl | rfl <;> rfl) | (obtain ⟨_, _, rfl⟩ := hu; rfl))) ⟨by decide, by first | rfl | (simp; done) | (simp; omega)⟩ (by simp only [maxLen]; omega) (by omega) ?_; clear hS; intro g17_7 cg17_7 w hAg17_7 hCg17_7 hS)
            | (refine ow_appendV hS 4 rfl (viewR hS.ok 4 rfl) Try.underlying22 tz_5 rfl (tmS rfl rfl) (tmS rfl rfl) (by first | exact u8v_one _ | (intro u hu; simp at hu; first | (rcases hu with rfl | rfl <;> rfl) | (obtain ⟨_, _, rfl⟩ := hu; rfl))) ⟨by decide, by first | rfl | (simp; done) | (simp; omega)⟩ (by simp only [maxLen]; omega) (by omega) ?_; clear hS; intro g17_7 cg17_7 w hAg17_7 hCg17_7 hS)
            | (refine ow_appendV hS 4 rfl (viewV hS.ok 5 rfl) Try.underlying22 tz_5 rfl (tmS rfl rfl) (tmS rfl rfl) (by first | exact u8v_one _ | (intro u hu; simp at hu; first | (rcases hu with rfl | rfl <;> rfl) | (obtain ⟨_, _, rfl⟩ := hu; rfl))) ⟨by decide, by first | rfl | (simp; done) | (simp; omega)⟩ (by simp only [maxLen]; omega) (by omega) ?_; clear hS; intro g17_7 cg17_7 w hAg17_7 hCg17_7 hS)
            | (refine ow_appendV hS 4 rfl View.nil_ Try.underlying22 tz_5 rfl (tmS rfl rfl) (tmS rfl rfl) (by first | exact u8v_one _ | (intro u hu; simp at hu; first | (rcases hu with rfl | rfl <;> rfl) | (obtain ⟨_, _, rfl⟩ := hu; rfl))) ⟨by decide, by first | rfl | (simp; done) | (simp; omega)⟩ (by simp only [maxLen]; omega) (by omega) ?_; clear hS; intro g17_7 cg17_7 w hAg17_7 hCg17_7 hS)
           refine hK _ _ ?_; clear hK K
           refine rg_step 8 rfl (by kernel_rfl) (want_0) (oks_drop hS 2 rfl) ?_; intro K hK
           refine ow_storeA hS 1 rfl ts_41 (tmP rfl rfl) (tmA rfl rfl) rfl rfl rfl ?_
           clear hS; intro w hS
           try replace hS := St.nm (M' := [.row _ _ _ _ _, .blk _ _ [_, _, _, _, _, _, _, _, _, _, _, _, _, _, _, _], .blk _ _ [_, _, _, _, _, _, _, _, _, _, _, _, _, _, _, _], .vw _ _, .row _ _ _ _ _, .vw _ _]) hS rfl
           refine hK _ _ ?_; clear hK K
           refine rg_take 9 rfl rfl (by kernel_rfl) (by kernel_rfl) (by kernel_rfl) (want_0) (fun w hok => x_assign (tmS rfl rfl)) ?_
           refine rg_take 10 rfl rfl (by kernel_rfl) (by kernel_rfl) (by kernel_rfl) (want_0) (fun w hok => x_assign (ev_cN 0)) ?_
           refine rg_done (oks_drop hS 2 rfl) (by kernel_rfl) ?_
           simp only [List.nil_append, Nat.zero_add] at hS
           refine then_n (hK61 _ _ ?_); clear hK61 K61
           refine wp_ret ?_
           refine ret3 rfl (.cell rfl rfl (load_rowB (cs := [_, _, _, _, _, _, _, _, _, _, _, _, _, _, _, _]) hS.ok 1 rfl Try.underlying41 rfl ts_41 rfl)) (.tmp rfl (show _ = Value.slice _ _ _ from rfl)) (.tmp rfl (show _ = Value.int _ _ from rfl)) ?_
           refine ⟨g16_4, cg16_4, g17_7, cg17_7, ?_, row_cap (hS.rowOk 0 rfl) (by decide), hS.newv 4 rfl, hS.newv 0 rfl, hS.kp⟩
           rw [e1, e8, e9, Nat.zero_add]
           rfl
theorem right4_form {a : Ad} (h : right4P a) : ∃ low, a = ⟨false, 0, low⟩ ∧ low < 4294967296 := by
  obtain ⟨six, high, low⟩ := a
  obtain ⟨h1, h2⟩ := h
  have h2' : six = false := h2
  subst h2'
  rcases h1 with h | h
  · cases h
  · have h3 : high = 0 := h.1
    have h4 : low ≤ 4294967295 := h.2
    subst h3
    exact ⟨low, rfl, by omega⟩
def pkE (off : Nat) (s d : Ad) (o x : List Nat) : Nat := if hdRight ((20 + o.length + x.length : Nat) : Int) (off : Int) s d o.length then 0 else 1
def pkB (tos id : Nat) (stay more : Bool) (off ttl pr : Nat) (s d : Ad) (o x : List Nat) : List Nat :=
  if hdRight ((20 + o.length + x.length : Nat) : Int) (off : Int) s d o.length then hd4B tos (20 + o.length + x.length) id (flN off stay more) ttl pr (hd4C tos (20 + o.length + x.length) id (flN off stay more) ttl pr s.low d.low o) s.low d.low o ++ x else []
theorem pkB_len (tos id : Nat) (stay more : Bool) (off ttl pr : Nat) (s d : Ad) (o x : List Nat) : (pkB tos id stay more off ttl pr s d o x).length ≤ 20 + o.length + x.length := by
  unfold pkB
  split
  · rw [List.length_append, hd4B_len]; omega
  · simp
theorem pkB_bytes (tos id : Nat) (stay more : Bool) (off ttl pr : Nat) (s d : Ad) {o x : List Nat} (hob : Bytes o) (hxb : Bytes x) : Bytes (pkB tos id stay more off ttl pr s d o x) := by
  unfold pkB
  split
  · exact (hd4B_bytes _ _ _ _ _ _ _ _ _ hob).append hxb
  · exact Bytes.nil
theorem pk_ex (tos : Nat) (len : Int) (id : Nat) (stay more : Bool) (off ttl proto sum : Nat) (s d : Ad) (o x : List Nat) (q1 : tos < 256) (q3 : id < 65536) (q7 : ttl < 256) (q8 : proto < 256) (hob : Bytes o) (hm : o.length ≤ 100) (hx3 : x.length ≤ 3000) :
    Packs 13 (fun O c => hdV tos len id stay more (off : Int) ttl proto sum s d O o.length c) o x (pkB tos id stay more off ttl proto s d o x) (pkE off s d o x) ∧ Packs 12 (fun O c => hdV tos len id stay more (off : Int) ttl proto sum s d O o.length c) o x (pkB tos id stay more off ttl proto s d o x) (pkE off s d o x) := by
  unfold pkB pkE
  by_cases hr : hdRight ((20 + o.length + x.length : Nat) : Int) (off : Int) s d o.length
  · rw [if_pos hr, if_pos hr]
    have hr' := hr
    obtain ⟨r1, r2, r3, r4, r5, r6, r7, r8⟩ := hr'
    obtain ⟨sl, rfl, hsl⟩ := right4_form r7
    obtain ⟨dl, rfl, hdl⟩ := right4_form r8
    have hppl : (hd4B tos (20 + o.length + x.length) id (flN off stay more) ttl proto (hd4C tos (20 + o.length + x.length) id (flN off stay more) ttl proto sl dl o) sl dl o ++ x).length = 20 + o.length + x.length := by rw [List.length_append, hd4B_len]
    refine ⟨fun w O c L cl h1 h2 => ?_, fun w O c L cl h1 h2 => ?_⟩
    · exact Calls.mono (ip4_packet_c tos len id stay more off ttl proto sum sl dl O c o L cl x w h1 hob h2 q1 q3 q7 q8 hr) fun e w' ⟨A, n, c', h1, h2, h3, h4⟩ => ⟨A, n, c', h1.trans hppl.symm, h2, h3, h4⟩
    · exact Calls.mono (rip4_packet_c tos len id stay more off ttl proto sum sl dl O c o L cl x w h1 hob h2 q1 q3 q7 q8 hr) fun e w' ⟨A, n, c', h1, h2, h3, h4⟩ => ⟨A, n, c', h1.trans hppl.symm, h2, h3, h4⟩
  · rw [if_neg hr, if_neg hr]
    refine ⟨fun w O c L cl h1 h2 => ?_, fun w O c L cl h1 h2 => ?_⟩
    · exact Calls.mono (ip4_packet_bad tos len id stay more off ttl proto sum s d O o.length c L x.length cl w (by omega) (by omega) 1 (.inr ⟨by omega, hr, rfl⟩)) fun e w' h => ⟨none, 0, 0, rfl, h.1, ⟨World.ownsRow_nil w' 0 _ 1, rfl, fun g hg => by cases hg⟩, h.2⟩
    · exact Calls.mono (rip4_packet_bad tos len id stay more off ttl proto sum s d O o.length c L x.length cl w (by omega) (by omega) 1 (.inr ⟨by omega, hr, rfl⟩)) fun e w' h => ⟨none, 0, 0, rfl, h.1, ⟨World.ownsRow_nil w' 0 _ 1, rfl, fun g hg => by cases hg⟩, h.2⟩
theorem newV_nil (w w' : World) : NewV w w' none ([].map u8v) := ⟨View.nil_, fun g hg => by cases hg⟩
def cutBx (tos id : Nat) (stay more : Bool) (off ttl pr : Nat) (s d : Ad) (o x : List Nat) (sp p : Nat) : List Nat := pkB tos id stay (more || decide (p + (min (p + 8 * sp) x.length - p) < x.length)) (off + p / 8) ttl pr s d o ((x.drop p).take (min (p + 8 * sp) x.length - p))
def cutEx (off : Nat) (s d : Ad) (o x : List Nat) (sp p : Nat) : Nat := pkE (off + p / 8) s d o ((x.drop p).take (min (p + 8 * sp) x.length - p))
theorem cutP_ex (tos : Nat) (len : Int) (id : Nat) (stay more : Bool) (off ttl pr sum : Nat) (s d : Ad) (o x : List Nat) (sp : Nat) (q1 : tos < 256) (q3 : id < 65536) (q7 : ttl < 256) (q8 : pr < 256) (hob : Bytes o) (hm : o.length ≤ 100) (hx3 : x.length ≤ 3000) :
    CutP 13 tos len id stay more off ttl pr sum s d o x sp (cutBx tos id stay more off ttl pr s d o x sp) (cutEx off s d o x sp) ∧ CutP 12 tos len id stay more off ttl pr sum s d o x sp (cutBx tos id stay more off ttl pr s d o x sp) (cutEx off s d o x sp) := by
  have key := fun (p m : Nat) (b : Bool) => pk_ex tos len id stay b (off + p / 8) ttl pr sum s d o ((x.drop p).take m) q1 q3 q7 q8 hob hm (by rw [List.length_take, List.length_drop]; omega)
  refine ⟨fun p m b z hp hm hb hz => ?_, fun p m b z hp hm hb hz => ?_⟩
  · subst hm hb hz; exact (key _ _ _).1
  · subst hm hb hz; exact (key _ _ _).2
def PartF (fn : Nat) (l : List Nat) (H : Option Addr → Nat → List Value) (o x : List Nat) (er : Nat) : Prop := ∀ (w : World) (A : Option Addr) (c : Nat), View w w.heap.size A (l.map u8v) → l.length ≤ c →
  Calls Try.prog fn #[.slice A l.length c] w fun e w' => ∃ (O : Option Addr) (co : Nat) (L : Option Addr) (k c' : Nat), k = x.length ∧ k ≤ c' ∧ e = .returned (.tuple #[.agg (H O co).toArray, .slice L k c', .int .i64 (er : Int)]) ∧ NewV w w' O (o.map u8v) ∧ NewV w w' L (x.map u8v) ∧ Kp [] w w'
theorem jf_ex (l : List Nat) (hb : Bytes l) (hn : l.length ≤ 3000) : ∃ (tos : Nat) (len : Int) (id : Nat) (stay more : Bool) (off ttl pr sum : Nat) (s d : Ad) (o x : List Nat) (er : Nat), tos < 256 ∧ id < 65536 ∧ ttl < 256 ∧ pr < 256 ∧ off < 8192 ∧ Bytes o ∧ o.length ≤ 100 ∧ Bytes x ∧ x.length ≤ 3000 ∧ er < 100 ∧ (er = 0 → ∃ n : Nat, len = (n : Int) ∧ n ≤ l.length) ∧
    PartF 14 l (fun O c => hdV tos len id stay more (off : Int) ttl pr sum s d O o.length c) o x er ∧ PartF 11 l (fun O c => hdV tos len id stay more (off : Int) ttl pr sum s d O o.length c) o x er := by
  rcases ip4_all l l.length with ⟨sz, len, hf, hle, hs⟩ | ⟨er, hbad⟩
  · have hsl := hf.szlen
    have h20 := hf.n20
    have hs20 := hf.sz20
    have hsz := hf.size
    have hlx : ((l.drop sz).take (len - sz)).length = len - sz := by rw [List.length_take, List.length_drop]; omega
    have hlo : ((l.drop 20).take (sz - 20)).length = sz - 20 := by rw [List.length_take, List.length_drop]; omega
    have b1 : getN l 1 1 < 256 := getN_lt hb 1 1
    have b4 : getN l 4 2 < 65536 := getN_lt hb 4 2
    have b8 : getN l 8 1 < 256 := getN_lt hb 8 1
    have b9 : getN l 9 1 < 256 := getN_lt hb 9 1
    refine ⟨getN l 1 1, len, getN l 4 2, decide (getN l 6 2 / 2 ^ 14 % 2 = 1), decide (getN l 6 2 / 2 ^ 13 % 2 = 1), getN l 6 2 % 8192, getN l 8 1, getN l 9 1, getN l 10 2, ⟨false, 0, getN l 12 4⟩, ⟨false, 0, getN l 16 4⟩, (l.drop 20).take (sz - 20), (l.drop sz).take (len - sz), 0, b1, b4, b8, b9, by omega, (hb.drop _).take _, by rw [hlo]; omega, (hb.drop _).take _, by rw [hlx]; omega, by omega, fun _ => ⟨len, rfl, hle⟩, fun w A c hv hc => ?_, fun w A c hv hc => ?_⟩
    · exact Calls.mono (ip4_parse_c l.length A c l w hv rfl hc hb (by omega) sz len hf hle hs) fun e w' ⟨O, L, h1, h2, h3, h4⟩ => ⟨O, sz - 20, L, len - sz, len - sz, hlx.symm, Nat.le_refl _, by rw [hlo]; exact h1, h2, h3, h4⟩
    · exact Calls.mono (rip4_parse_x l.length A c l w hv rfl hc hb (by omega) sz len hf hle hs) fun e w' ⟨O, co, L, cl, h1, h5, h2, h3, h4⟩ => ⟨O, co, L, len - sz, cl, hlx.symm, h5, by rw [hlo]; exact h1, h2, h3, h4⟩
  · have her : er < 100 ∧ er ≠ 0 := by cases hbad <;> omega
    refine ⟨0, 0, 0, false, false, 0, 0, 0, 0, ad0, ad0, [], [], er, by omega, by omega, by omega, by omega, by omega, Bytes.nil, by simp, Bytes.nil, by simp, her.1, fun h => absurd h her.2, fun w A c hv hc => ?_, fun w A c hv hc => ?_⟩
    · exact Calls.mono (ip4_parse_bad l.length A c l w hv rfl hc hb (by omega) er hbad) fun e w' ⟨h1, h3⟩ => ⟨none, 0, none, 0, 0, rfl, Nat.le_refl _, h1, newV_nil w w', newV_nil w w', h3⟩
    · exact Calls.mono (rip4_parse_bad l.length A c l w hv rfl hc hb (by omega) er hbad) fun e w' ⟨h1, h3⟩ => ⟨none, 0, none, 0, 0, rfl, Nat.le_refl _, h1, newV_nil w w', newV_nil w w', h3⟩
def Vws (w : World) (rows : List Row3) : Prop := ∀ r ∈ rows, View w w.heap.size r.1 (r.2.1.map u8v)
theorem Vws.kept {w w' : World} {rows : List Row3} (h : Vws w rows) (hk : Kp [] w w') : Vws w' rows := fun r hr => by
  have hok : (Ent.vw r.1 (r.2.1.map u8v)).ok w := h r hr
  exact Ent.ok_keep hok hk.size fun g hg => hk.block g (Ent.ok_lt hok hg) (by simp)
/-- What Split answers. -/
def SplitR (l : List Nat) (most : Int) (tos : Nat) (len : Int) (id : Nat) (stay more : Bool) (off ttl pr : Nat) (s d : Ad) (o x : List Nat) (er : Nat) (rows : List Row3) (e : Nat) : Prop :=
  (er ≠ 0 ∧ rows = [] ∧ e = er) ∨ (er = 0 ∧ ((len ≤ most ∧ e = 0 ∧ rows.map (·.2.1) = [l.take len.toNat]) ∨ (most < len ∧
    ((stay = true ∧ rows = [] ∧ e = 30) ∨ (stay = false ∧ ((most < ((20 + o.length + 8 : Nat) : Int) ∧ rows = [] ∧ e = 1) ∨
      (((20 + o.length + 8 : Nat) : Int) ≤ most ∧ CutR (cutBx tos id stay more off ttl pr s d o x ((most.toNat - (20 + o.length)) / 8)) (cutEx off s d o x ((most.toNat - (20 + o.length)) / 8)) x.length (8 * ((most.toNat - (20 + o.length)) / 8)) rows e)))))))
end Go.Proofs.Ytpibinkekfkafaa
