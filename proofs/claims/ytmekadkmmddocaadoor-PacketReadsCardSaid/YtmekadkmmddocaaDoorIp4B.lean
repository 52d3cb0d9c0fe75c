/- ip4: Parse with errors, by contract. Conditions: none but bounds. -/
import Derived.Test.YtmekadkmmddocaaDoorIp4
namespace Go.Proofs.YtmekadkmmddocaaDoor
open Go.RowKit
set_option maxRecDepth 100000 in
set_option maxHeartbeats 8000000 in
theorem ip4_parse_bad (n : Nat) (A : Option Addr) (c : Nat) (l : List Nat) (w0 : World) (hv : View w0 w0.heap.size A (l.map u8v)) (hl : l.length = n) (hc : n ≤ c) (hb : Bytes l) (hn4 : n ≤ 1000000) (er : Nat) (h : Ip4Bad l n er) :
    Calls Tryd.prog 34 #[.slice A n c] w0 fun e w' => e = .returned (.tuple #[.agg (hdV 0 0 0 false false 0 0 0 0 ad0 ad0 none 0 0).toArray, .slice none 0 0, .int .i64 (er : Int)]) ∧ Kp [] w0 w' := by
  have hS := (St.sv w0).vcons rfl hv
  by_cases h20 : n < 20
  · obtain rfl : er = 20 := by
      cases h with
      | short _ => rfl
      | form h1 _ => omega
      | cut hf _ => have := hf.n20; omega
      | sum hf _ _ => have := hf.n20; omega
    refine ent (n := 111) Tryd.func34 rfl rfl ?_
    refine wp_seq_k ?_; intro K1 hK1
    refine wlit ?_
    refine wl_e rfl ?_; intro K hK
    refine ow_alloc hS tz_88 rfl ?_
    clear hS; intro g0_0 w hg0_0 hS
    refine hK _ _ ?_; clear hK K
    refine wl_v (x_assign ev_c) ?_
    refine wl_v (x_assign (ev_cN 0)) ?_
    refine wl_nil ?_
    refine then_n (hK1 _ _ ?_); clear hK1 K1
    refine wp_seq_k ?_; intro K2 hK2
    refine wp_seq_k ?_; intro K3 hK3
    refine wlit ?_
    refine wl_v (x_move (tmS rfl rfl)) ?_
    refine wl_v (x_len Tryd.underlying22 (tmS rfl rfl)) ?_
    refine wl_v (x_lss (tmI rfl rfl) (ev_cN 20)) ?_
    refine wl_nil ?_
    refine then_n (hK3 _ _ ?_); clear hK3 K3
    refine cnds (tm rfl) (fun hc0 => ?_) (fun hc0 => ?_)
    · exfalso
      simp only [nrm] at hc0
      omega
    all_goals
     try simp only [nrm] at hc0
     refine wp_seq_k ?_; intro K4 hK4
     refine wlit ?_
     refine wl_v (x_build (bc_skip (.int .u8 0) <| bc_skip (.int .i64 0) <| bc_skip (.int .u16 0) <| bc_skip (.bool false) <| bc_skip (.bool false) <| bc_skip (.int .i64 0) <| bc_skip (.int .u8 0) <| bc_skip (.int .u8 0) <| bc_skip (.int .u16 0) <| bc_skipL [.bool false, .int .u64 0, .int .u64 0] <| bc_skipL [.bool false, .int .u64 0, .int .u64 0] <| bc_skip (.slice none 0 0) <| bc_nil) (by kernel_rfl)) ?_
     refine wl_e rfl ?_; intro K hK
     refine ow_storeA hS 0 rfl ts_88 (tmP rfl rfl) (tmA rfl rfl) rfl rfl rfl ?_
     clear hS; intro w hS
     try replace hS := St.nm (M' := [.blk _ _ [_, _, _, _, _, _, _, _, _, _, _, _, _, _, _, _], .vw _ _]) hS rfl
     refine hK _ _ ?_; clear hK K
     refine wl_v (x_assign ev_c) ?_
     refine wl_v (x_assign (ev_cN 20)) ?_
     refine wl_nil ?_
     refine then_n (hK4 _ _ ?_); clear hK4 K4
     refine wp_ret ?_
     refine then_r ?_
     refine ret3 rfl (.cell rfl rfl (load_rowB (cs := [_, _, _, _, _, _, _, _, _, _, _, _, _, _, _, _]) hS.ok 0 rfl Tryd.underlying88 rfl ts_88 rfl)) (.tmp rfl (show _ = Value.slice _ _ _ from rfl)) (.tmp rfl (show _ = Value.int _ _ from rfl)) ?_
     exact ⟨rfl, hS.kp⟩
  have hq : getN l 0 1 = nth l 0 := getN_one (by omega)
  have hqb := nth_lt hb 0
  have h15 : getN l 0 1 &&& 15 = getN l 0 1 % 16 := Nat.and_two_pow_sub_one_eq_mod _ 4
  obtain ⟨sz, hsz⟩ : ∃ sz, nth l 0 % 16 * 4 = sz := ⟨_, rfl⟩
  obtain ⟨len, hle⟩ : ∃ len, getN l 2 2 = len := ⟨_, rfl⟩
  have hz : (getN l 0 1 &&& 15) * 4 = sz := by rw [h15, hq]; exact hsz
  have hfl := getN_lt hb 6 2
  have hfl' : getN l (0 + 1 + 1 + 2 + 2) 2 < 256 ^ 2 := hfl
  have hle2 := getN_lt hb 2 2
  have h32 : getN l 6 2 &&& 32768 = getN l 6 2 / 2 ^ 15 % 2 * 2 ^ 15 := and_bit _ 15
  have h32' : getN l (0 + 1 + 1 + 2 + 2) 2 &&& 32768 = getN l 6 2 / 2 ^ 15 % 2 * 2 ^ 15 := and_bit _ 15
  have hle' : getN l (0 + 1 + 1) 2 = len := hle
  have htl : sz ≤ n → (l.take sz).length = sz := fun h => by rw [List.length_take]; omega
  refine ent (n := 111) Tryd.func34 rfl rfl ?_
  refine wp_seq_k ?_; intro K1 hK1
  refine wlit ?_
  refine wl_e rfl ?_; intro K hK
  refine ow_alloc hS tz_88 rfl ?_
  clear hS; intro g0_0 w hg0_0 hS
  refine hK _ _ ?_; clear hK K
  refine wl_v (x_assign ev_c) ?_
  refine wl_v (x_assign (ev_cN 0)) ?_
  refine wl_nil ?_
  refine then_n (hK1 _ _ ?_); clear hK1 K1
  refine wp_seq_k ?_; intro K2 hK2
  refine wp_seq_k ?_; intro K3 hK3
  refine wlit ?_
  refine wl_v (x_move (tmS rfl rfl)) ?_
  refine wl_v (x_len Tryd.underlying22 (tmS rfl rfl)) ?_
  refine wl_v (x_lss (tmI rfl rfl) (ev_cN 20)) ?_
  refine wl_nil ?_
  refine then_n (hK3 _ _ ?_); clear hK3 K3
  refine cnd (tm rfl) (fun hc0 => ?_) (fun hc0 => ?_)
  · exfalso
    simp only [nrm] at hc0
    omega
  all_goals
   try simp only [nrm] at hc0
   refine wp_skip ?_
   refine then_n (hK2 _ _ ?_); clear hK2 K2
   refine wp_seq_k ?_; intro K4 hK4
   refine wlit ?_
   refine wl_v (x_move (tmS rfl rfl)) ?_
   refine wl_e rfl ?_; intro K hK
   refine ow_call Tryd.func52 rfl rfl (evs_cons (tmS rfl rfl) <| evs_nil) (read_c n A c l _ (viewV hS.ok 1 rfl) hl hn4) ?_
   rintro e w ⟨gr, A0, rfl, hS2⟩
   refine ⟨_, rfl, ?_⟩
   replace hS := hS.adds hS2 rfl -- +gr,rowb
   clear hS2
   have hA : Off A0 0 n A0 := off_zero
   have hcp : n - 0 ≤ n := by omega
   refine hK _ _ ?_; clear hK K
   refine wl_v (x_assign (tmP rfl rfl)) ?_
   refine wl_nil ?_
   refine then_n (hK4 _ _ ?_); clear hK4 K4
   refine wp_seq_k ?_; intro K5 hK5
   refine wlit ?_
   refine wl_v (x_move (tmP rfl rfl)) ?_
   refine wl_e rfl ?_; intro K hK
   refine ow_call Tryd.func55 rfl rfl (evs_cons (tmP rfl rfl) <| evs_nil) (byte_c gr A0 _ _ n _ l false _ _ (hS.enter [0] [1] rfl rfl) hA (by omega) hcp hl hb) ?_
   rintro e w ⟨A1, c1, rfl, hS2, hA, hcp⟩
   refine ⟨_, rfl, ?_⟩
   replace hS := hS.turn 0 rfl rfl hS2 rfl
   clear hS2
   try replace hS := St.nm (M' := [_, .row _ _ _ _ _, .blk _ _ [_, _, _, _, _, _, _, _, _, _, _, _, _, _, _, _], .vw _ _]) hS rfl
   refine hK _ _ ?_; clear hK K
   refine wl_v (x_assign (tmI rfl rfl)) ?_
   refine wl_nil ?_
   refine then_n (hK5 _ _ ?_); clear hK5 K5
   refine wp_seq_k ?_; intro K6 hK6
   refine wlit ?_
   refine wl_v (x_move (tmI rfl rfl)) ?_
   refine wl_v (x_andN (tmI rfl rfl) (ev_cN 15) (fit_u8 (by omega)) (fit_u8 (by omega))) ?_
   refine wl_v (x_convN Tryd.underlying5 Tryd.underlying3 (tmI rfl rfl) (fit_i64 (by omega))) ?_
   refine wl_v (x_mulN (tmI rfl rfl) (ev_cN 4) (fit_i64 (by omega))) ?_
   refine wl_v (x_assign (tmI rfl (congrArg (fun q : Nat => Value.int .i64 (q : Int)) hz))) ?_
   refine wl_nil ?_
   refine then_n (hK6 _ _ ?_); clear hK6 K6
   refine wp_seq_k ?_; intro K7 hK7
   refine wlit ?_
   refine wl_v (x_move (tmP rfl rfl)) ?_
   refine wl_e rfl ?_; intro K hK
   refine ow_call Tryd.func55 rfl rfl (evs_cons (tmP rfl rfl) <| evs_nil) (byte_c gr A0 _ _ n _ l false _ _ (hS.enter [0] [1] rfl rfl) hA (by omega) hcp hl hb) ?_
   rintro e w ⟨A1, c1, rfl, hS2, hA, hcp⟩
   refine ⟨_, rfl, ?_⟩
   replace hS := hS.turn 0 rfl rfl hS2 rfl
   clear hS2
   try replace hS := St.nm (M' := [_, .row _ _ _ _ _, .blk _ _ [_, _, _, _, _, _, _, _, _, _, _, _, _, _, _, _], .vw _ _]) hS rfl
   refine hK _ _ ?_; clear hK K
   refine wl_v (x_move (tmP rfl rfl)) ?_
   refine wl_e rfl ?_; intro K hK
   refine ow_call Tryd.func54 rfl rfl (evs_cons (tmP rfl rfl) <| evs_nil) (word_c gr A0 _ _ n _ l false _ _ (hS.enter [0] [1] rfl rfl) hA (by omega) hcp hl hb) ?_
   rintro e w ⟨A1, c1, rfl, hS2, hA, hcp⟩
   refine ⟨_, rfl, ?_⟩
   replace hS := hS.turn 0 rfl rfl hS2 rfl
   clear hS2
   try replace hS := St.nm (M' := [_, .row _ _ _ _ _, .blk _ _ [_, _, _, _, _, _, _, _, _, _, _, _, _, _, _, _], .vw _ _]) hS rfl
   refine hK _ _ ?_; clear hK K
   refine wl_v (x_convN Tryd.underlying27 Tryd.underlying3 (tmI rfl (congrArg (fun q : Nat => Value.int .u16 (q : Int)) hle')) (fit_i64 (by omega))) ?_
   refine wl_v (x_move (tmP rfl rfl)) ?_
   refine wl_e rfl ?_; intro K hK
   refine ow_call Tryd.func54 rfl rfl (evs_cons (tmP rfl rfl) <| evs_nil) (word_c gr A0 _ _ n _ l false _ _ (hS.enter [0] [1] rfl rfl) hA (by omega) hcp hl hb) ?_
   rintro e w ⟨A1, c1, rfl, hS2, hA, hcp⟩
   refine ⟨_, rfl, ?_⟩
   replace hS := hS.turn 0 rfl rfl hS2 rfl
   clear hS2
   try replace hS := St.nm (M' := [_, .row _ _ _ _ _, .blk _ _ [_, _, _, _, _, _, _, _, _, _, _, _, _, _, _, _], .vw _ _]) hS rfl
   refine hK _ _ ?_; clear hK K
   refine wl_v (x_build (bc_take (tmI rfl rfl) <| bc_take (tmI rfl rfl) <| bc_take (tmI rfl rfl) <| bc_skip (.bool false) <| bc_skip (.bool false) <| bc_skip (.int .i64 0) <| bc_skip (.int .u8 0) <| bc_skip (.int .u8 0) <| bc_skip (.int .u16 0) <| bc_skipL [.bool false, .int .u64 0, .int .u64 0] <| bc_skipL [.bool false, .int .u64 0, .int .u64 0] <| bc_skip (.slice none 0 0) <| bc_nil) (by kernel_rfl)) ?_
   refine wl_e rfl ?_; intro K hK
   refine ow_alloc hS tz_88 rfl ?_
   clear hS; intro g6_8 w hg6_8 hS
   refine hK _ _ ?_; clear hK K
   refine wl_e rfl ?_; intro K hK
   refine ow_storeA hS 0 rfl ts_88 (tmP rfl rfl) (tmA rfl rfl) rfl rfl rfl ?_
   clear hS; intro w hS
   try replace hS := St.nm (M' := [.blk _ _ [_, _, _, _, _, _, _, _, _, _, _, _, _, _, _, _], _, .row _ _ _ _ _, .blk _ _ [_, _, _, _, _, _, _, _, _, _, _, _, _, _, _, _], .vw _ _]) hS rfl
   refine hK _ _ ?_; clear hK K
   refine wl_nil ?_
   refine then_n (hK7 _ _ ?_); clear hK7 K7
   refine wp_seq_k ?_; intro K8 hK8
   refine wlit ?_
   refine wl_v (x_move (tmP rfl rfl)) ?_
   refine wl_e rfl ?_; intro K hK
   refine ow_call Tryd.func54 rfl rfl (evs_cons (tmP rfl rfl) <| evs_nil) (word_c gr A0 _ _ n _ l false _ _ (hS.enter [1] [2] rfl rfl) hA (by omega) hcp hl hb) ?_
   rintro e w ⟨A1, c1, rfl, hS2, hA, hcp⟩
   refine ⟨_, rfl, ?_⟩
   replace hS := hS.turn 1 rfl rfl hS2 rfl
   clear hS2
   try replace hS := St.nm (M' := [.blk _ _ [_, _, _, _, _, _, _, _, _, _, _, _, _, _, _, _], _, .row _ _ _ _ _, .blk _ _ [_, _, _, _, _, _, _, _, _, _, _, _, _, _, _, _], .vw _ _]) hS rfl
   refine hK _ _ ?_; clear hK K
   refine wl_v (x_assign (tmI rfl rfl)) ?_
   refine wl_nil ?_
   refine then_n (hK8 _ _ ?_); clear hK8 K8
   refine wp_seq_k ?_; intro K9 hK9
   refine wp_seq_k ?_; intro K10 hK10
   refine wlit ?_
   refine wl_v (x_move (tmI rfl rfl)) ?_
   refine wl_v (x_shrN (tmI rfl rfl) (ev_cN 4) (fit_u8 (by omega))) ?_
   refine wl_v (x_neq (tmI rfl rfl) (ev_cN 4)) ?_
   refine wl_v (x_move (tmB rfl rfl)) ?_
   refine gs_wl (tm (t := 35) rfl) (fun hg8_3 => ?_) (fun hg8_3 => ?_)
   · have hg8_3' := hg8_3; (try simp only [nrm] at hg8_3')
     all_goals
      refine wl_s rfl (want_n rfl rfl rfl rfl (by rw [hg8_3]; rfl)) ?_
      refine wl_s rfl (want_n rfl rfl rfl rfl (by rw [hg8_3]; rfl)) ?_
      refine wl_v (x_pickT (tmB rfl rfl) hg8_3 ev_c) ?_
      refine wl_v (x_move (tmB rfl rfl)) ?_
      refine wl_s rfl (want_n rfl rfl rfl rfl rfl) ?_
      refine wl_s rfl (want_n rfl rfl rfl rfl rfl) ?_
      refine wl_s rfl (want_n rfl rfl rfl rfl rfl) ?_
      refine wl_v (x_pickT (tmB rfl rfl) rfl ev_c) ?_
      refine wl_v (x_move (tmB rfl rfl)) ?_
      refine wl_s rfl (want_n rfl rfl rfl rfl rfl) ?_
      refine wl_s rfl (want_n rfl rfl rfl rfl rfl) ?_
      refine wl_s rfl (want_n rfl rfl rfl rfl rfl) ?_
      refine wl_s rfl (want_n rfl rfl rfl rfl rfl) ?_
      refine wl_v (x_pickT (tmB rfl rfl) rfl ev_c) ?_
      refine wl_nil ?_
      refine then_n (hK10 _ _ ?_); clear hK10 K10
      refine cnd_t (tmB rfl rfl) rfl ?_
      refine wp_seq_k ?_; intro K11 hK11
      refine wlit ?_
      refine wl_v (x_build (bc_skip (.int .u8 0) <| bc_skip (.int .i64 0) <| bc_skip (.int .u16 0) <| bc_skip (.bool false) <| bc_skip (.bool false) <| bc_skip (.int .i64 0) <| bc_skip (.int .u8 0) <| bc_skip (.int .u8 0) <| bc_skip (.int .u16 0) <| bc_skipL [.bool false, .int .u64 0, .int .u64 0] <| bc_skipL [.bool false, .int .u64 0, .int .u64 0] <| bc_skip (.slice none 0 0) <| bc_nil) (by kernel_rfl)) ?_
      refine wl_e rfl ?_; intro K hK
      refine ow_storeA hS 3 rfl ts_88 (tmP rfl rfl) (tmA rfl rfl) rfl rfl rfl ?_
      clear hS; intro w hS
      try replace hS := St.nm (M' := [.blk _ _ [_, _, _, _, _, _, _, _, _, _, _, _, _, _, _, _], _, .row _ _ _ _ _, .blk _ _ [_, _, _, _, _, _, _, _, _, _, _, _, _, _, _, _], .vw _ _]) hS rfl
      refine hK _ _ ?_; clear hK K
      refine wl_v (x_assign ev_c) ?_
      refine wl_v (x_assign (ev_cN 21)) ?_
      refine wl_nil ?_
      refine then_n (hK11 _ _ ?_); clear hK11 K11
      refine wp_ret ?_
      refine then_r ?_
      refine ret3 rfl (.cell rfl rfl (load_rowB (cs := [_, _, _, _, _, _, _, _, _, _, _, _, _, _, _, _]) hS.ok 3 rfl Tryd.underlying88 rfl ts_88 rfl)) (.tmp rfl (show _ = Value.slice _ _ _ from rfl)) (.tmp rfl (show _ = Value.int _ _ from rfl)) ?_
      cases h with
      | short _ => omega
      | form h1 h2 => first | exact ⟨rfl, hS.kp⟩ | omega
      | cut hf h2 =>
        obtain ⟨a1, a2, a3, a4, a5, a6, a7⟩ := hf
        first | exact ⟨rfl, hS.kp⟩ | (exfalso; omega)
      | sum hf h2 h3 =>
        obtain ⟨a1, a2, a3, a4, a5, a6, a7⟩ := hf
        first | exact ⟨rfl, hS.kp⟩ | (exfalso; omega)
   have hg8_3' := hg8_3; (try simp only [nrm] at hg8_3')
   all_goals
    refine wl_gv (want_y rfl rfl rfl rfl (by rw [hg8_3]; rfl)) (x_move (tmI rfl rfl)) ?_
    refine wl_gv (want_y rfl rfl rfl rfl (by rw [hg8_3]; rfl)) (x_lss (tmI rfl rfl) (ev_cN 20)) ?_
    refine wl_v (x_pickF (tmB rfl rfl) hg8_3 (tmB rfl rfl)) ?_
    refine wl_v (x_move (tmB rfl rfl)) ?_
    refine gs_wl (tm (t := 39) rfl) (fun hg8_7 => ?_) (fun hg8_7 => ?_)
    · have hg8_7' := hg8_7; (try simp only [nrm] at hg8_7')
      all_goals
       refine wl_s rfl (want_n rfl rfl rfl rfl (by rw [hg8_7]; rfl)) ?_
       refine wl_s rfl (want_n rfl rfl rfl rfl (by rw [hg8_7]; rfl)) ?_
       refine wl_s rfl (want_n rfl rfl rfl rfl (by rw [hg8_7]; rfl)) ?_
       refine wl_v (x_pickT (tmB rfl rfl) hg8_7 ev_c) ?_
       refine wl_v (x_move (tmB rfl rfl)) ?_
       refine wl_s rfl (want_n rfl rfl rfl rfl rfl) ?_
       refine wl_s rfl (want_n rfl rfl rfl rfl rfl) ?_
       refine wl_s rfl (want_n rfl rfl rfl rfl rfl) ?_
       refine wl_s rfl (want_n rfl rfl rfl rfl rfl) ?_
       refine wl_v (x_pickT (tmB rfl rfl) rfl ev_c) ?_
       refine wl_nil ?_
       refine then_n (hK10 _ _ ?_); clear hK10 K10
       refine cnd_t (tmB rfl rfl) rfl ?_
       refine wp_seq_k ?_; intro K13 hK13
       refine wlit ?_
       refine wl_v (x_build (bc_skip (.int .u8 0) <| bc_skip (.int .i64 0) <| bc_skip (.int .u16 0) <| bc_skip (.bool false) <| bc_skip (.bool false) <| bc_skip (.int .i64 0) <| bc_skip (.int .u8 0) <| bc_skip (.int .u8 0) <| bc_skip (.int .u16 0) <| bc_skipL [.bool false, .int .u64 0, .int .u64 0] <| bc_skipL [.bool false, .int .u64 0, .int .u64 0] <| bc_skip (.slice none 0 0) <| bc_nil) (by kernel_rfl)) ?_
       refine wl_e rfl ?_; intro K hK
       refine ow_storeA hS 3 rfl ts_88 (tmP rfl rfl) (tmA rfl rfl) rfl rfl rfl ?_
       clear hS; intro w hS
       try replace hS := St.nm (M' := [.blk _ _ [_, _, _, _, _, _, _, _, _, _, _, _, _, _, _, _], _, .row _ _ _ _ _, .blk _ _ [_, _, _, _, _, _, _, _, _, _, _, _, _, _, _, _], .vw _ _]) hS rfl
       refine hK _ _ ?_; clear hK K
       refine wl_v (x_assign ev_c) ?_
       refine wl_v (x_assign (ev_cN 21)) ?_
       refine wl_nil ?_
       refine then_n (hK13 _ _ ?_); clear hK13 K13
       refine wp_ret ?_
       refine then_r ?_
       refine ret3 rfl (.cell rfl rfl (load_rowB (cs := [_, _, _, _, _, _, _, _, _, _, _, _, _, _, _, _]) hS.ok 3 rfl Tryd.underlying88 rfl ts_88 rfl)) (.tmp rfl (show _ = Value.slice _ _ _ from rfl)) (.tmp rfl (show _ = Value.int _ _ from rfl)) ?_
       cases h with
       | short _ => omega
       | form h1 h2 => first | exact ⟨rfl, hS.kp⟩ | omega
       | cut hf h2 =>
         obtain ⟨a1, a2, a3, a4, a5, a6, a7⟩ := hf
         first | exact ⟨rfl, hS.kp⟩ | (exfalso; omega)
       | sum hf h2 h3 =>
         obtain ⟨a1, a2, a3, a4, a5, a6, a7⟩ := hf
         first | exact ⟨rfl, hS.kp⟩ | (exfalso; omega)
    have hg8_7' := hg8_7; (try simp only [nrm] at hg8_7')
    all_goals
     refine wl_gv (want_y rfl rfl rfl rfl (by rw [hg8_7]; rfl)) (x_move (tmI rfl rfl)) ?_
     refine wl_gv (want_y rfl rfl rfl rfl (by rw [hg8_7]; rfl)) (x_andN (tmI rfl rfl) (ev_cN 32768) (fit_u16 (by omega)) (fit_u16 (by omega))) ?_
     refine wl_gv (want_y rfl rfl rfl rfl (by rw [hg8_7]; rfl)) (x_neq (tmI rfl rfl) (ev_cN 0)) ?_
     refine wl_v (x_pickF (tmB rfl rfl) hg8_7 (tmB rfl rfl)) ?_
     refine wl_v (x_move (tmB rfl rfl)) ?_
     refine gs_wl (tm (t := 44) rfl) (fun hg8_12 => ?_) (fun hg8_12 => ?_)
     · have hg8_12' := hg8_12; (try simp only [nrm] at hg8_12')
       all_goals
        refine wl_s rfl (want_n rfl rfl rfl rfl (by rw [hg8_12]; rfl)) ?_
        refine wl_s rfl (want_n rfl rfl rfl rfl (by rw [hg8_12]; rfl)) ?_
        refine wl_s rfl (want_n rfl rfl rfl rfl (by rw [hg8_12]; rfl)) ?_
        refine wl_s rfl (want_n rfl rfl rfl rfl (by rw [hg8_12]; rfl)) ?_
        refine wl_v (x_pickT (tmB rfl rfl) hg8_12 ev_c) ?_
        refine wl_nil ?_
        refine then_n (hK10 _ _ ?_); clear hK10 K10
        refine cnd_t (tmB rfl rfl) rfl ?_
        refine wp_seq_k ?_; intro K15 hK15
        refine wlit ?_
        refine wl_v (x_build (bc_skip (.int .u8 0) <| bc_skip (.int .i64 0) <| bc_skip (.int .u16 0) <| bc_skip (.bool false) <| bc_skip (.bool false) <| bc_skip (.int .i64 0) <| bc_skip (.int .u8 0) <| bc_skip (.int .u8 0) <| bc_skip (.int .u16 0) <| bc_skipL [.bool false, .int .u64 0, .int .u64 0] <| bc_skipL [.bool false, .int .u64 0, .int .u64 0] <| bc_skip (.slice none 0 0) <| bc_nil) (by kernel_rfl)) ?_
        refine wl_e rfl ?_; intro K hK
        refine ow_storeA hS 3 rfl ts_88 (tmP rfl rfl) (tmA rfl rfl) rfl rfl rfl ?_
        clear hS; intro w hS
        try replace hS := St.nm (M' := [.blk _ _ [_, _, _, _, _, _, _, _, _, _, _, _, _, _, _, _], _, .row _ _ _ _ _, .blk _ _ [_, _, _, _, _, _, _, _, _, _, _, _, _, _, _, _], .vw _ _]) hS rfl
        refine hK _ _ ?_; clear hK K
        refine wl_v (x_assign ev_c) ?_
        refine wl_v (x_assign (ev_cN 21)) ?_
        refine wl_nil ?_
        refine then_n (hK15 _ _ ?_); clear hK15 K15
        refine wp_ret ?_
        refine then_r ?_
        refine ret3 rfl (.cell rfl rfl (load_rowB (cs := [_, _, _, _, _, _, _, _, _, _, _, _, _, _, _, _]) hS.ok 3 rfl Tryd.underlying88 rfl ts_88 rfl)) (.tmp rfl (show _ = Value.slice _ _ _ from rfl)) (.tmp rfl (show _ = Value.int _ _ from rfl)) ?_
        cases h with
        | short _ => omega
        | form h1 h2 => first | exact ⟨rfl, hS.kp⟩ | omega
        | cut hf h2 =>
          obtain ⟨a1, a2, a3, a4, a5, a6, a7⟩ := hf
          first | exact ⟨rfl, hS.kp⟩ | (exfalso; omega)
        | sum hf h2 h3 =>
          obtain ⟨a1, a2, a3, a4, a5, a6, a7⟩ := hf
          first | exact ⟨rfl, hS.kp⟩ | (exfalso; omega)
     have hg8_12' := hg8_12; (try simp only [nrm] at hg8_12')
     all_goals
      refine wl_gv (want_y rfl rfl rfl rfl (by rw [hg8_12]; rfl)) (x_fa 1 Tryd.underlying88 rfl rfl ts_3 (tmP rfl rfl)) ?_
      refine wl_gv (want_y rfl rfl rfl rfl (by rw [hg8_12]; rfl)) (x_load Tryd.underlying3 rfl (tmP rfl rfl) (cellB hS.ok 0 rfl rfl)) ?_
      refine wl_gv (want_y rfl rfl rfl rfl (by rw [hg8_12]; rfl)) (x_move (tmI rfl rfl)) ?_
      refine wl_gv (want_y rfl rfl rfl rfl (by rw [hg8_12]; rfl)) (x_lss (tmI rfl rfl) (tmI rfl rfl)) ?_
      refine wl_v (x_pickF (tmB rfl rfl) hg8_12 (tmB rfl rfl)) ?_
      refine wl_nil ?_
      refine then_n (hK10 _ _ ?_); clear hK10 K10
      refine cnd (tm rfl) (fun hc1 => ?_) (fun hc1 => ?_)
      · skip
        all_goals
         try simp only [nrm] at hc1
         refine wp_seq_k ?_; intro K17 hK17
         refine wlit ?_
         refine wl_v (x_build (bc_skip (.int .u8 0) <| bc_skip (.int .i64 0) <| bc_skip (.int .u16 0) <| bc_skip (.bool false) <| bc_skip (.bool false) <| bc_skip (.int .i64 0) <| bc_skip (.int .u8 0) <| bc_skip (.int .u8 0) <| bc_skip (.int .u16 0) <| bc_skipL [.bool false, .int .u64 0, .int .u64 0] <| bc_skipL [.bool false, .int .u64 0, .int .u64 0] <| bc_skip (.slice none 0 0) <| bc_nil) (by kernel_rfl)) ?_
         refine wl_e rfl ?_; intro K hK
         refine ow_storeA hS 3 rfl ts_88 (tmP rfl rfl) (tmA rfl rfl) rfl rfl rfl ?_
         clear hS; intro w hS
         try replace hS := St.nm (M' := [.blk _ _ [_, _, _, _, _, _, _, _, _, _, _, _, _, _, _, _], _, .row _ _ _ _ _, .blk _ _ [_, _, _, _, _, _, _, _, _, _, _, _, _, _, _, _], .vw _ _]) hS rfl
         refine hK _ _ ?_; clear hK K
         refine wl_v (x_assign ev_c) ?_
         refine wl_v (x_assign (ev_cN 21)) ?_
         refine wl_nil ?_
         refine then_n (hK17 _ _ ?_); clear hK17 K17
         refine wp_ret ?_
         refine then_r ?_
         refine ret3 rfl (.cell rfl rfl (load_rowB (cs := [_, _, _, _, _, _, _, _, _, _, _, _, _, _, _, _]) hS.ok 3 rfl Tryd.underlying88 rfl ts_88 rfl)) (.tmp rfl (show _ = Value.slice _ _ _ from rfl)) (.tmp rfl (show _ = Value.int _ _ from rfl)) ?_
         cases h with
         | short _ => omega
         | form h1 h2 => first | exact ⟨rfl, hS.kp⟩ | omega
         | cut hf h2 =>
           obtain ⟨a1, a2, a3, a4, a5, a6, a7⟩ := hf
           first | exact ⟨rfl, hS.kp⟩ | (exfalso; omega)
         | sum hf h2 h3 =>
           obtain ⟨a1, a2, a3, a4, a5, a6, a7⟩ := hf
           first | exact ⟨rfl, hS.kp⟩ | (exfalso; omega)
      all_goals
       try simp only [nrm] at hc1
       refine wp_skip ?_
       refine then_n (hK9 _ _ ?_); clear hK9 K9
       refine wp_seq_k ?_; intro K19 hK19
       refine wp_seq_k ?_; intro K20 hK20
       refine wlit ?_
       refine wl_v (x_move (tmS rfl rfl)) ?_
       refine wl_v (x_len Tryd.underlying22 (tmS rfl rfl)) ?_
       refine wl_v (x_fa 1 Tryd.underlying88 rfl rfl ts_3 (tmP rfl rfl)) ?_
       refine wl_v (x_load Tryd.underlying3 rfl (tmP rfl rfl) (cellB hS.ok 0 rfl rfl)) ?_
       refine wl_v (x_lss (tmI rfl rfl) (tmI rfl rfl)) ?_
       refine wl_nil ?_
       refine then_n (hK20 _ _ ?_); clear hK20 K20
       refine cnd (tm rfl) (fun hc2 => ?_) (fun hc2 => ?_)
       · skip
         all_goals
          try simp only [nrm] at hc2
          refine wp_seq_k ?_; intro K21 hK21
          refine wlit ?_
          refine wl_v (x_build (bc_skip (.int .u8 0) <| bc_skip (.int .i64 0) <| bc_skip (.int .u16 0) <| bc_skip (.bool false) <| bc_skip (.bool false) <| bc_skip (.int .i64 0) <| bc_skip (.int .u8 0) <| bc_skip (.int .u8 0) <| bc_skip (.int .u16 0) <| bc_skipL [.bool false, .int .u64 0, .int .u64 0] <| bc_skipL [.bool false, .int .u64 0, .int .u64 0] <| bc_skip (.slice none 0 0) <| bc_nil) (by kernel_rfl)) ?_
          refine wl_e rfl ?_; intro K hK
          refine ow_storeA hS 3 rfl ts_88 (tmP rfl rfl) (tmA rfl rfl) rfl rfl rfl ?_
          clear hS; intro w hS
          try replace hS := St.nm (M' := [.blk _ _ [_, _, _, _, _, _, _, _, _, _, _, _, _, _, _, _], _, .row _ _ _ _ _, .blk _ _ [_, _, _, _, _, _, _, _, _, _, _, _, _, _, _, _], .vw _ _]) hS rfl
          refine hK _ _ ?_; clear hK K
          refine wl_v (x_assign ev_c) ?_
          refine wl_v (x_assign (ev_cN 20)) ?_
          refine wl_nil ?_
          refine then_n (hK21 _ _ ?_); clear hK21 K21
          refine wp_ret ?_
          refine then_r ?_
          refine ret3 rfl (.cell rfl rfl (load_rowB (cs := [_, _, _, _, _, _, _, _, _, _, _, _, _, _, _, _]) hS.ok 3 rfl Tryd.underlying88 rfl ts_88 rfl)) (.tmp rfl (show _ = Value.slice _ _ _ from rfl)) (.tmp rfl (show _ = Value.int _ _ from rfl)) ?_
          cases h with
          | short _ => omega
          | form h1 h2 => first | exact ⟨rfl, hS.kp⟩ | omega
          | cut hf h2 =>
            obtain ⟨a1, a2, a3, a4, a5, a6, a7⟩ := hf
            first | exact ⟨rfl, hS.kp⟩ | (exfalso; omega)
          | sum hf h2 h3 =>
            obtain ⟨a1, a2, a3, a4, a5, a6, a7⟩ := hf
            first | exact ⟨rfl, hS.kp⟩ | (exfalso; omega)
       all_goals
        try simp only [nrm] at hc2
        refine wp_skip ?_
        refine then_n (hK19 _ _ ?_); clear hK19 K19
        refine wp_seq_k ?_; intro K23 hK23
        refine wp_seq_k ?_; intro K24 hK24
        refine wlit ?_
        refine wl_v (x_move (tmS rfl rfl)) ?_
        refine wl_v (x_move (tmI rfl rfl)) ?_
        refine wl_v (x_sliceH Tryd.underlying22 ts_5 (tmS rfl rfl) (tmI rfl rfl) (by omega)) ?_
        replace hS := hS.cutb 4 0 sz rfl (by omega : l.length ≤ c)
        refine wl_e rfl ?_; intro K hK
        refine ow_build hS Tryd.underlying110 tz_22 (bc_take (tmS rfl rfl) <| bc_nil) rfl rfl (by kernel_rfl) ?_
        clear hS; intro g12_3 w hg12_3 hS
        refine hK _ _ ?_; clear hK K
        refine wl_e rfl ?_; intro K hK
        refine ow_call Tryd.func62 rfl rfl (evs_cons (tmS rfl rfl) <| evs_nil) (sum_right_c _ sz _ (l.take sz) _ _ (viewB hS.ok 0 rfl) (viewV hS.ok 1 rfl) (htl (by omega)) (hb.take sz) (by omega) _) ?_
        rintro e w ⟨rfl, hk⟩
        refine ⟨_, rfl, ?_⟩
        replace hS := hS.kept hk
        clear hk
        refine hK _ _ ?_; clear hK K
        refine wl_v (x_not (tmB rfl rfl)) ?_
        refine wl_nil ?_
        refine then_n (hK24 _ _ ?_); clear hK24 K24
        refine cnds (tm rfl) (fun hc3 => ?_) (fun hc3 => ?_)
        · exfalso
          simp at hc3
          cases h with
          | short _ => omega
          | form h1 h2 => omega
          | cut hf h2 => obtain ⟨a1, a2, a3, a4, a5, a6, a7⟩ := hf; omega
          | sum hf h2 h3 =>
            obtain ⟨a1, a2, a3, a4, a5, a6, a7⟩ := hf
            obtain rfl : sz = _ := hsz.symm.trans a3
            exact h3 hc3
        all_goals
         try simp only [nrm] at hc3
         have hx3 : ¬ SumOk l sz := by unfold SumOk; simpa using hc3
         refine wp_seq_k ?_; intro K25 hK25
         refine wlit ?_
         refine wl_v (x_build (bc_skip (.int .u8 0) <| bc_skip (.int .i64 0) <| bc_skip (.int .u16 0) <| bc_skip (.bool false) <| bc_skip (.bool false) <| bc_skip (.int .i64 0) <| bc_skip (.int .u8 0) <| bc_skip (.int .u8 0) <| bc_skip (.int .u16 0) <| bc_skipL [.bool false, .int .u64 0, .int .u64 0] <| bc_skipL [.bool false, .int .u64 0, .int .u64 0] <| bc_skip (.slice none 0 0) <| bc_nil) (by kernel_rfl)) ?_
         refine wl_e rfl ?_; intro K hK
         refine ow_storeA hS 5 rfl ts_88 (tmP rfl rfl) (tmA rfl rfl) rfl rfl rfl ?_
         clear hS; intro w hS
         try replace hS := St.nm (M' := [_, .vw _ _, .blk _ _ [_, _, _, _, _, _, _, _, _, _, _, _, _, _, _, _], _, .row _ _ _ _ _, .blk _ _ [_, _, _, _, _, _, _, _, _, _, _, _, _, _, _, _], .vw _ _]) hS rfl
         refine hK _ _ ?_; clear hK K
         refine wl_v (x_assign ev_c) ?_
         refine wl_v (x_assign (ev_cN 22)) ?_
         refine wl_nil ?_
         refine then_n (hK25 _ _ ?_); clear hK25 K25
         refine wp_ret ?_
         refine then_r ?_
         refine ret3 rfl (.cell rfl rfl (load_rowB (cs := [_, _, _, _, _, _, _, _, _, _, _, _, _, _, _, _]) hS.ok 5 rfl Tryd.underlying88 rfl ts_88 rfl)) (.tmp rfl (show _ = Value.slice _ _ _ from rfl)) (.tmp rfl (show _ = Value.int _ _ from rfl)) ?_
         cases h with
         | short _ => omega
         | form h1 h2 => first | exact ⟨rfl, hS.kp⟩ | omega
         | cut hf h2 =>
           obtain ⟨a1, a2, a3, a4, a5, a6, a7⟩ := hf
           first | exact ⟨rfl, hS.kp⟩ | (exfalso; omega)
         | sum hf h2 h3 =>
           obtain ⟨a1, a2, a3, a4, a5, a6, a7⟩ := hf
           first | exact ⟨rfl, hS.kp⟩ | (exfalso; omega)

set_option maxRecDepth 100000 in
set_option maxHeartbeats 8000000 in
theorem rip4_parse_bad (n : Nat) (A : Option Addr) (c : Nat) (l : List Nat) (w0 : World) (hv : View w0 w0.heap.size A (l.map u8v)) (hl : l.length = n) (hc : n ≤ c) (hb : Bytes l) (hn4 : n ≤ 1000000) (er : Nat) (h : Ip4Bad l n er) :
    Calls Tryd.prog 41 #[.slice A n c] w0 fun e w' => e = .returned (.tuple #[.agg (hdV 0 0 0 false false 0 0 0 0 ad0 ad0 none 0 0).toArray, .slice none 0 0, .int .i64 (er : Int)]) ∧ Kp [] w0 w' := by
  have hS := (St.sv w0).vcons rfl hv
  by_cases h20 : n < 20
  · obtain rfl : er = 20 := by
      cases h with
      | short _ => rfl
      | form h1 _ => omega
      | cut hf _ => have := hf.n20; omega
      | sum hf _ _ => have := hf.n20; omega
    refine ent (n := 103) Tryd.func41 rfl rfl ?_
    refine wp_seq_k ?_; intro K1 hK1
    refine wlit ?_
    refine wl_e rfl ?_; intro K hK
    refine ow_alloc hS tz_99 rfl ?_
    clear hS; intro g0_0 w hg0_0 hS
    refine hK _ _ ?_; clear hK K
    refine wl_v (x_assign ev_c) ?_
    refine wl_v (x_assign (ev_cN 0)) ?_
    refine wl_nil ?_
    refine then_n (hK1 _ _ ?_); clear hK1 K1
    refine wp_seq_k ?_; intro K2 hK2
    refine wp_seq_k ?_; intro K3 hK3
    refine wlit ?_
    refine wl_v (x_move (tmS rfl rfl)) ?_
    refine wl_v (x_len Tryd.underlying22 (tmS rfl rfl)) ?_
    refine wl_v (x_lss (tmI rfl rfl) (ev_cN 20)) ?_
    refine wl_nil ?_
    refine then_n (hK3 _ _ ?_); clear hK3 K3
    refine cnds (tm rfl) (fun hc0 => ?_) (fun hc0 => ?_)
    · exfalso
      simp only [nrm] at hc0
      omega
    all_goals
     try simp only [nrm] at hc0
     refine wp_seq_k ?_; intro K4 hK4
     refine wlit ?_
     refine wl_v (x_build (bc_skip (.int .u8 0) <| bc_skip (.int .i64 0) <| bc_skip (.int .u16 0) <| bc_skip (.bool false) <| bc_skip (.bool false) <| bc_skip (.int .i64 0) <| bc_skip (.int .u8 0) <| bc_skip (.int .u8 0) <| bc_skip (.int .u16 0) <| bc_skipL [.bool false, .int .u64 0, .int .u64 0] <| bc_skipL [.bool false, .int .u64 0, .int .u64 0] <| bc_skip (.slice none 0 0) <| bc_nil) (by kernel_rfl)) ?_
     refine wl_e rfl ?_; intro K hK
     refine ow_storeA hS 0 rfl ts_99 (tmP rfl rfl) (tmA rfl rfl) rfl rfl rfl ?_
     clear hS; intro w hS
     try replace hS := St.nm (M' := [.blk _ _ [_, _, _, _, _, _, _, _, _, _, _, _, _, _, _, _], .vw _ _]) hS rfl
     refine hK _ _ ?_; clear hK K
     refine wl_v (x_assign ev_c) ?_
     refine wl_v (x_assign (ev_cN 20)) ?_
     refine wl_nil ?_
     refine then_n (hK4 _ _ ?_); clear hK4 K4
     refine wp_ret ?_
     refine then_r ?_
     refine ret3 rfl (.cell rfl rfl (load_rowB (cs := [_, _, _, _, _, _, _, _, _, _, _, _, _, _, _, _]) hS.ok 0 rfl Tryd.underlying99 rfl ts_99 rfl)) (.tmp rfl (show _ = Value.slice _ _ _ from rfl)) (.tmp rfl (show _ = Value.int _ _ from rfl)) ?_
     exact ⟨rfl, hS.kp⟩
  have hq : l.getD 0 0 = nth l 0 := rfl
  have hqb := nth_lt hb 0
  obtain ⟨sz, hsz⟩ : ∃ sz, nth l 0 % 16 * 4 = sz := ⟨_, rfl⟩
  obtain ⟨len, hle⟩ : ∃ len, getN l 2 2 = len := ⟨_, rfl⟩
  have hz : l.getD 0 0 % 16 * 4 = sz := hsz
  have hfl := getN_lt hb 6 2
  have hle2 := getN_lt hb 2 2
  have h4_ := getN_lt hb 4 2
  have h10_ := getN_lt hb 10 2
  have h12_ := getN_lt hb 12 4
  have h16_ := getN_lt hb 16 4
  have htl : sz ≤ n → (l.take sz).length = sz := fun h => by rw [List.length_take]; omega
  obtain ⟨b4, o4, rfl⟩ := view_some hv (by rw [List.length_map]; omega)
  refine ent (n := 103) Tryd.func41 rfl rfl ?_
  refine wp_seq_k ?_; intro K1 hK1
  refine wlit ?_
  refine wl_e rfl ?_; intro K hK
  refine ow_alloc hS tz_99 rfl ?_
  clear hS; intro g0_0 w hg0_0 hS
  refine hK _ _ ?_; clear hK K
  refine wl_v (x_assign ev_c) ?_
  refine wl_v (x_assign (ev_cN 0)) ?_
  refine wl_nil ?_
  refine then_n (hK1 _ _ ?_); clear hK1 K1
  refine wp_seq_k ?_; intro K2 hK2
  refine wp_seq_k ?_; intro K3 hK3
  refine wlit ?_
  refine wl_v (x_move (tmS rfl rfl)) ?_
  refine wl_v (x_len Tryd.underlying22 (tmS rfl rfl)) ?_
  refine wl_v (x_lss (tmI rfl rfl) (ev_cN 20)) ?_
  refine wl_nil ?_
  refine then_n (hK3 _ _ ?_); clear hK3 K3
  refine cnd (tm rfl) (fun hc0 => ?_) (fun hc0 => ?_)
  · exfalso
    simp only [nrm] at hc0
    omega
  all_goals
   try simp only [nrm] at hc0
   refine wp_skip ?_
   refine then_n (hK2 _ _ ?_); clear hK2 K2
   refine wp_seq_k ?_; intro K4 hK4
   refine wlit ?_
   refine wl_v (x_move (tmS rfl rfl)) ?_
   refine wl_v (x_ixs1 Tryd.underlying22 ts_5 (tmS rfl rfl) (ev_cN 0) (by omega)) ?_
   refine wl_v (x_load Tryd.underlying5 rfl (tmP rfl rfl) (cellV hS.ok 1 rfl (getm (by omega)))) ?_
   refine wl_v (x_remN (tmI rfl rfl) (ev_cN 16) (by omega)) ?_
   refine wl_v (x_convN Tryd.underlying5 Tryd.underlying3 (tmI rfl rfl) (fit_i64 (by omega))) ?_
   refine wl_v (x_mulN (tmI rfl rfl) (ev_cN 4) (fit_i64 (by omega))) ?_
   refine wl_v (x_assign (tmI rfl (congrArg (fun q : Nat => Value.int .i64 (q : Int)) hz))) ?_
   refine wl_nil ?_
   refine then_n (hK4 _ _ ?_); clear hK4 K4
   refine wp_seq_k ?_; intro K5 hK5
   refine wp_seq_k ?_; intro K6 hK6
   refine wlit ?_
   refine wl_v (x_move (tmS rfl rfl)) ?_
   refine wl_v (x_ixs1 Tryd.underlying22 ts_5 (tmS rfl rfl) (ev_cN 0) (by omega)) ?_
   refine wl_v (x_load Tryd.underlying5 rfl (tmP rfl rfl) (cellV hS.ok 1 rfl (getm (by omega)))) ?_
   refine wl_v (x_quoN (tmI rfl rfl) (ev_cN 16) (by omega) (fit_u8 (by omega))) ?_
   refine wl_v (x_neq (tmI rfl rfl) (ev_cN 4)) ?_
   refine wl_v (x_move (tmB rfl rfl)) ?_
   refine gs_wl (tm (t := 23) rfl) (fun hg4_5 => ?_) (fun hg4_5 => ?_)
   · have hg4_5' := hg4_5; (try simp only [nrm] at hg4_5')
     all_goals
      refine wl_s rfl (want_n rfl rfl rfl rfl (by rw [hg4_5]; rfl)) ?_
      refine wl_s rfl (want_n rfl rfl rfl rfl (by rw [hg4_5]; rfl)) ?_
      refine wl_v (x_pickT (tmB rfl rfl) hg4_5 ev_c) ?_
      refine wl_nil ?_
      refine then_n (hK6 _ _ ?_); clear hK6 K6
      refine cnd_t (tmB rfl rfl) rfl ?_
      refine wp_seq_k ?_; intro K7 hK7
      refine wlit ?_
      refine wl_v (x_build (bc_skip (.int .u8 0) <| bc_skip (.int .i64 0) <| bc_skip (.int .u16 0) <| bc_skip (.bool false) <| bc_skip (.bool false) <| bc_skip (.int .i64 0) <| bc_skip (.int .u8 0) <| bc_skip (.int .u8 0) <| bc_skip (.int .u16 0) <| bc_skipL [.bool false, .int .u64 0, .int .u64 0] <| bc_skipL [.bool false, .int .u64 0, .int .u64 0] <| bc_skip (.slice none 0 0) <| bc_nil) (by kernel_rfl)) ?_
      refine wl_e rfl ?_; intro K hK
      refine ow_storeA hS 0 rfl ts_99 (tmP rfl rfl) (tmA rfl rfl) rfl rfl rfl ?_
      clear hS; intro w hS
      try replace hS := St.nm (M' := [.blk _ _ [_, _, _, _, _, _, _, _, _, _, _, _, _, _, _, _], .vw _ _]) hS rfl
      refine hK _ _ ?_; clear hK K
      refine wl_v (x_assign ev_c) ?_
      refine wl_v (x_assign (ev_cN 21)) ?_
      refine wl_nil ?_
      refine then_n (hK7 _ _ ?_); clear hK7 K7
      refine wp_ret ?_
      refine then_r ?_
      refine ret3 rfl (.cell rfl rfl (load_rowB (cs := [_, _, _, _, _, _, _, _, _, _, _, _, _, _, _, _]) hS.ok 0 rfl Tryd.underlying99 rfl ts_99 rfl)) (.tmp rfl (show _ = Value.slice _ _ _ from rfl)) (.tmp rfl (show _ = Value.int _ _ from rfl)) ?_
      cases h with
      | short _ => omega
      | form h1 h2 => first | exact ⟨rfl, hS.kp⟩ | omega
      | cut hf h2 =>
        obtain ⟨a1, a2, a3, a4, a5, a6, a7⟩ := hf
        first | exact ⟨rfl, hS.kp⟩ | (exfalso; omega)
      | sum hf h2 h3 =>
        obtain ⟨a1, a2, a3, a4, a5, a6, a7⟩ := hf
        first | exact ⟨rfl, hS.kp⟩ | (exfalso; omega)
   have hg4_5' := hg4_5; (try simp only [nrm] at hg4_5')
   all_goals
    refine wl_gv (want_y rfl rfl rfl rfl (by rw [hg4_5]; rfl)) (x_move (tmI rfl rfl)) ?_
    refine wl_gv (want_y rfl rfl rfl rfl (by rw [hg4_5]; rfl)) (x_lss (tmI rfl rfl) (ev_cN 20)) ?_
    refine wl_v (x_pickF (tmB rfl rfl) hg4_5 (tmB rfl rfl)) ?_
    refine wl_nil ?_
    refine then_n (hK6 _ _ ?_); clear hK6 K6
    refine cnd (tm rfl) (fun hc1 => ?_) (fun hc1 => ?_)
    · skip
      all_goals
       try simp only [nrm] at hc1
       refine wp_seq_k ?_; intro K9 hK9
       refine wlit ?_
       refine wl_v (x_build (bc_skip (.int .u8 0) <| bc_skip (.int .i64 0) <| bc_skip (.int .u16 0) <| bc_skip (.bool false) <| bc_skip (.bool false) <| bc_skip (.int .i64 0) <| bc_skip (.int .u8 0) <| bc_skip (.int .u8 0) <| bc_skip (.int .u16 0) <| bc_skipL [.bool false, .int .u64 0, .int .u64 0] <| bc_skipL [.bool false, .int .u64 0, .int .u64 0] <| bc_skip (.slice none 0 0) <| bc_nil) (by kernel_rfl)) ?_
       refine wl_e rfl ?_; intro K hK
       refine ow_storeA hS 0 rfl ts_99 (tmP rfl rfl) (tmA rfl rfl) rfl rfl rfl ?_
       clear hS; intro w hS
       try replace hS := St.nm (M' := [.blk _ _ [_, _, _, _, _, _, _, _, _, _, _, _, _, _, _, _], .vw _ _]) hS rfl
       refine hK _ _ ?_; clear hK K
       refine wl_v (x_assign ev_c) ?_
       refine wl_v (x_assign (ev_cN 21)) ?_
       refine wl_nil ?_
       refine then_n (hK9 _ _ ?_); clear hK9 K9
       refine wp_ret ?_
       refine then_r ?_
       refine ret3 rfl (.cell rfl rfl (load_rowB (cs := [_, _, _, _, _, _, _, _, _, _, _, _, _, _, _, _]) hS.ok 0 rfl Tryd.underlying99 rfl ts_99 rfl)) (.tmp rfl (show _ = Value.slice _ _ _ from rfl)) (.tmp rfl (show _ = Value.int _ _ from rfl)) ?_
       cases h with
       | short _ => omega
       | form h1 h2 => first | exact ⟨rfl, hS.kp⟩ | omega
       | cut hf h2 =>
         obtain ⟨a1, a2, a3, a4, a5, a6, a7⟩ := hf
         first | exact ⟨rfl, hS.kp⟩ | (exfalso; omega)
       | sum hf h2 h3 =>
         obtain ⟨a1, a2, a3, a4, a5, a6, a7⟩ := hf
         first | exact ⟨rfl, hS.kp⟩ | (exfalso; omega)
    all_goals
     try simp only [nrm] at hc1
     refine wp_skip ?_
     refine then_n (hK5 _ _ ?_); clear hK5 K5
     refine wp_seq_k ?_; intro K11 hK11
     refine wlit ?_
     refine wl_v (x_move (tmS rfl rfl)) ?_
     refine wl_e rfl ?_; intro K hK
     refine ow_call Tryd.func45 rfl rfl (evs_cons (tmS rfl rfl) <| evs_cons (ev_cN 6) <| evs_cons (ev_cN 2) <| evs_nil) (get_c n _ c l _ _ _ (viewV hS.ok 1 rfl) hl hc hn4 hb (by omega) (by omega)) ?_
     rintro e w ⟨rfl, hk⟩
     refine ⟨_, rfl, ?_⟩
     replace hS := hS.kept hk
     clear hk
     refine hK _ _ ?_; clear hK K
     refine wl_v (x_assign (tmI rfl rfl)) ?_
     refine wl_nil ?_
     refine then_n (hK11 _ _ ?_); clear hK11 K11
     refine wp_seq_k ?_; intro K12 hK12
     refine rg_startk 0 hS mixed_ ?_
     clear hS; intro w hS
     refine rg_take 0 rfl rfl (by kernel_rfl) (by kernel_rfl) (by kernel_rfl) (want_0) (fun w hok => x_move (tmS rfl rfl)) ?_
     refine rg_take 1 rfl rfl (by kernel_rfl) (by kernel_rfl) (by kernel_rfl) (want_0) (fun w hok => x_ixs1 Tryd.underlying22 ts_5 (tmS rfl rfl) (ev_cN 1) (by omega)) ?_
     refine rg_take 2 rfl rfl (by kernel_rfl) (by kernel_rfl) (by kernel_rfl) (want_0) (fun w hok => x_load Tryd.underlying5 rfl (tmP rfl rfl) (cellV hok 1 rfl (getm (by omega)))) ?_
     refine rg_take 3 rfl rfl (by kernel_rfl) (by kernel_rfl) (by kernel_rfl) (want_0) (fun w hok => x_move (tmS rfl rfl)) ?_
     refine rg_take 6 rfl rfl (by kernel_rfl) (by kernel_rfl) (by kernel_rfl) (want_0) (fun w hok => x_move (tmS rfl rfl)) ?_
     refine rg_take 9 rfl rfl (by kernel_rfl) (by kernel_rfl) (by kernel_rfl) (want_0) (fun w hok => x_move (tmI rfl rfl)) ?_
     refine rg_take 10 rfl rfl (by kernel_rfl) (by kernel_rfl) (by kernel_rfl) (want_0) (fun w hok => x_quoN (tmI rfl rfl) (ev_cN 16384) (by omega) (fit_u64 (by omega))) ?_
     refine rg_take 11 rfl rfl (by kernel_rfl) (by kernel_rfl) (by kernel_rfl) (want_0) (fun w hok => x_remN (tmI rfl rfl) (ev_cN 2) (by omega)) ?_
     refine rg_take 12 rfl rfl (by kernel_rfl) (by kernel_rfl) (by kernel_rfl) (want_0) (fun w hok => x_eql (tmI rfl rfl) (ev_cN 1)) ?_
     refine rg_take 13 rfl rfl (by kernel_rfl) (by kernel_rfl) (by kernel_rfl) (want_0) (fun w hok => x_move (tmI rfl rfl)) ?_
     refine rg_take 14 rfl rfl (by kernel_rfl) (by kernel_rfl) (by kernel_rfl) (want_0) (fun w hok => x_quoN (tmI rfl rfl) (ev_cN 8192) (by omega) (fit_u64 (by omega))) ?_
     refine rg_take 15 rfl rfl (by kernel_rfl) (by kernel_rfl) (by kernel_rfl) (want_0) (fun w hok => x_remN (tmI rfl rfl) (ev_cN 2) (by omega)) ?_
     refine rg_take 16 rfl rfl (by kernel_rfl) (by kernel_rfl) (by kernel_rfl) (want_0) (fun w hok => x_eql (tmI rfl rfl) (ev_cN 1)) ?_
     refine rg_take 17 rfl rfl (by kernel_rfl) (by kernel_rfl) (by kernel_rfl) (want_0) (fun w hok => x_move (tmI rfl rfl)) ?_
     refine rg_take 18 rfl rfl (by kernel_rfl) (by kernel_rfl) (by kernel_rfl) (want_0) (fun w hok => x_remN (tmI rfl rfl) (ev_cN 8192) (by omega)) ?_
     refine rg_take 19 rfl rfl (by kernel_rfl) (by kernel_rfl) (by kernel_rfl) (want_0) (fun w hok => x_convN Tryd.underlying24 Tryd.underlying3 (tmI rfl rfl) (fit_i64 (by omega))) ?_
     refine rg_take 20 rfl rfl (by kernel_rfl) (by kernel_rfl) (by kernel_rfl) (want_0) (fun w hok => x_move (tmS rfl rfl)) ?_
     refine rg_take 21 rfl rfl (by kernel_rfl) (by kernel_rfl) (by kernel_rfl) (want_0) (fun w hok => x_ixs1 Tryd.underlying22 ts_5 (tmS rfl rfl) (ev_cN 8) (by omega)) ?_
     refine rg_take 22 rfl rfl (by kernel_rfl) (by kernel_rfl) (by kernel_rfl) (want_0) (fun w hok => x_load Tryd.underlying5 rfl (tmP rfl rfl) (cellV hok 1 rfl (getm (by omega)))) ?_
     refine rg_take 23 rfl rfl (by kernel_rfl) (by kernel_rfl) (by kernel_rfl) (want_0) (fun w hok => x_move (tmS rfl rfl)) ?_
     refine rg_take 24 rfl rfl (by kernel_rfl) (by kernel_rfl) (by kernel_rfl) (want_0) (fun w hok => x_ixs1 Tryd.underlying22 ts_5 (tmS rfl rfl) (ev_cN 9) (by omega)) ?_
     refine rg_take 25 rfl rfl (by kernel_rfl) (by kernel_rfl) (by kernel_rfl) (want_0) (fun w hok => x_load Tryd.underlying5 rfl (tmP rfl rfl) (cellV hok 1 rfl (getm (by omega)))) ?_
     refine rg_take 26 rfl rfl (by kernel_rfl) (by kernel_rfl) (by kernel_rfl) (want_0) (fun w hok => x_move (tmS rfl rfl)) ?_
     refine rg_step2 4 30 rfl rfl (by kernel_rfl) (want_0) (want_0) (oks_drop hS 0 rfl) ?_ ?_
     · intro K hK
       refine ow_call Tryd.func45 rfl rfl (evs_cons (tmS rfl rfl) <| evs_cons (ev_cN 2) <| evs_cons (ev_cN 2) <| evs_nil) (get_c n _ c l _ _ _ (viewV hS.ok 1 rfl) hl hc hn4 hb (by omega) (by omega)) ?_
       rintro e w ⟨rfl, hk⟩
       refine ⟨_, rfl, ?_⟩
       replace hS := hS.kept hk
       clear hk
       refine hK _ _ ?_; clear hK K
       refine rg_take 5 rfl rfl (by kernel_rfl) (by kernel_rfl) (by kernel_rfl) (want_0) (fun w hok => x_convN Tryd.underlying24 Tryd.underlying3 (tmI rfl (congrArg (fun q : Nat => Value.int .u64 (q : Int)) hle)) (fit_i64 (by omega))) ?_
       refine rg_step2 7 30 rfl rfl (by kernel_rfl) (want_0) (want_0) (oks_drop hS 0 rfl) ?_ ?_
       · intro K hK
         refine ow_call Tryd.func45 rfl rfl (evs_cons (tmS rfl rfl) <| evs_cons (ev_cN 4) <| evs_cons (ev_cN 2) <| evs_nil) (get_c n _ c l _ _ _ (viewV hS.ok 1 rfl) hl hc hn4 hb (by omega) (by omega)) ?_
         rintro e w ⟨rfl, hk⟩
         refine ⟨_, rfl, ?_⟩
         replace hS := hS.kept hk
         clear hk
         refine hK _ _ ?_; clear hK K
         refine rg_take 8 rfl rfl (by kernel_rfl) (by kernel_rfl) (by kernel_rfl) (want_0) (fun w hok => x_convN Tryd.underlying24 Tryd.underlying27 (tmI rfl rfl) (fit_u16 (by omega))) ?_
         refine rg_step2 27 30 rfl rfl (by kernel_rfl) (want_0) (want_0) (oks_drop hS 0 rfl) ?_ ?_
         · intro K hK
           refine ow_call Tryd.func45 rfl rfl (evs_cons (tmS rfl rfl) <| evs_cons (ev_cN 10) <| evs_cons (ev_cN 2) <| evs_nil) (get_c n _ c l _ _ _ (viewV hS.ok 1 rfl) hl hc hn4 hb (by omega) (by omega)) ?_
           rintro e w ⟨rfl, hk⟩
           refine ⟨_, rfl, ?_⟩
           replace hS := hS.kept hk
           clear hk
           refine hK _ _ ?_; clear hK K
           refine rg_take 28 rfl rfl (by kernel_rfl) (by kernel_rfl) (by kernel_rfl) (want_0) (fun w hok => x_convN Tryd.underlying24 Tryd.underlying27 (tmI rfl rfl) (fit_u16 (by omega))) ?_
           refine rg_take 29 rfl rfl (by kernel_rfl) (by kernel_rfl) (by kernel_rfl) (want_0) (fun w hok => x_build (bc_take (tmI rfl rfl) <| bc_take (tmI rfl rfl) <| bc_take (tmI rfl rfl) <| bc_take (tmB rfl rfl) <| bc_take (tmB rfl rfl) <| bc_take (tmI rfl rfl) <| bc_take (tmI rfl rfl) <| bc_take (tmI rfl rfl) <| bc_take (tmI rfl rfl) <| bc_skipL [.bool false, .int .u64 0, .int .u64 0] <| bc_skipL [.bool false, .int .u64 0, .int .u64 0] <| bc_skip (.slice none 0 0) <| bc_nil) (by kernel_rfl)) ?_
           refine rg_step 30 rfl (by kernel_rfl) (want_0) (oks_drop hS 0 rfl) ?_; intro K hK
           refine ow_alloc hS tz_99 rfl ?_
           clear hS; intro g7_30 w hg7_30 hS
           refine hK _ _ ?_; clear hK K
           refine rg_step 31 rfl (by kernel_rfl) (want_0) (oks_drop hS 1 rfl) ?_; intro K hK
           refine ow_storeA hS 0 rfl ts_99 (tmP rfl rfl) (tmA rfl rfl) rfl rfl rfl ?_
           clear hS; intro w hS
           try replace hS := St.nm (M' := [.blk _ _ [_, _, _, _, _, _, _, _, _, _, _, _, _, _, _, _], .blk _ _ [_, _, _, _, _, _, _, _, _, _, _, _, _, _, _, _], .vw _ _]) hS rfl
           refine hK _ _ ?_; clear hK K
           refine rg_done (oks_drop hS 1 rfl) (by kernel_rfl) ?_
           refine then_n (hK12 _ _ ?_); clear hK12 K12
           refine wp_seq_k ?_; intro K13 hK13
           refine wlit ?_
           refine wl_v (x_move (tmS rfl rfl)) ?_
           refine wl_e rfl ?_; intro K hK
           refine ow_call Tryd.func45 rfl rfl (evs_cons (tmS rfl rfl) <| evs_cons (ev_cN 12) <| evs_cons (ev_cN 4) <| evs_nil) (get_c n _ c l _ _ _ (viewV hS.ok 2 rfl) hl hc hn4 hb (by omega) (by omega)) ?_
           rintro e w ⟨rfl, hk⟩
           refine ⟨_, rfl, ?_⟩
           replace hS := hS.kept hk
           clear hk
           refine hK _ _ ?_; clear hK K
           refine wl_v (x_build (bc_skip (.bool false) <| bc_skip (.int .u64 0) <| bc_take (tmI rfl rfl) <| bc_nil) (by kernel_rfl)) ?_
           refine wl_v (x_fa 9 Tryd.underlying99 rfl rfl ts_26 (tmP rfl rfl)) ?_
           refine wl_e rfl ?_; intro K hK
           refine ow_storeA hS 0 rfl ts_26 (tmP rfl rfl) (tmA rfl rfl) rfl rfl rfl ?_
           clear hS; intro w hS
           try replace hS := St.nm (M' := [.blk _ _ [_, _, _, _, _, _, _, _, _, _, _, _, _, _, _, _], .blk _ _ [_, _, _, _, _, _, _, _, _, _, _, _, _, _, _, _], .vw _ _]) hS rfl
           refine hK _ _ ?_; clear hK K
           refine wl_nil ?_
           refine then_n (hK13 _ _ ?_); clear hK13 K13
           refine wp_seq_k ?_; intro K14 hK14
           refine wlit ?_
           refine wl_v (x_move (tmS rfl rfl)) ?_
           refine wl_e rfl ?_; intro K hK
           refine ow_call Tryd.func45 rfl rfl (evs_cons (tmS rfl rfl) <| evs_cons (ev_cN 16) <| evs_cons (ev_cN 4) <| evs_nil) (get_c n _ c l _ _ _ (viewV hS.ok 2 rfl) hl hc hn4 hb (by omega) (by omega)) ?_
           rintro e w ⟨rfl, hk⟩
           refine ⟨_, rfl, ?_⟩
           replace hS := hS.kept hk
           clear hk
           refine hK _ _ ?_; clear hK K
           refine wl_v (x_build (bc_skip (.bool false) <| bc_skip (.int .u64 0) <| bc_take (tmI rfl rfl) <| bc_nil) (by kernel_rfl)) ?_
           refine wl_v (x_fa 12 Tryd.underlying99 rfl rfl ts_26 (tmP rfl rfl)) ?_
           refine wl_e rfl ?_; intro K hK
           refine ow_storeA hS 0 rfl ts_26 (tmP rfl rfl) (tmA rfl rfl) rfl rfl rfl ?_
           clear hS; intro w hS
           try replace hS := St.nm (M' := [.blk _ _ [_, _, _, _, _, _, _, _, _, _, _, _, _, _, _, _], .blk _ _ [_, _, _, _, _, _, _, _, _, _, _, _, _, _, _, _], .vw _ _]) hS rfl
           refine hK _ _ ?_; clear hK K
           refine wl_nil ?_
           refine then_n (hK14 _ _ ?_); clear hK14 K14
           refine wp_seq_k ?_; intro K15 hK15
           refine wp_seq_k ?_; intro K16 hK16
           refine wlit ?_
           refine wl_v (x_move (tmI rfl rfl)) ?_
           refine wl_v (x_gtr (tmI rfl rfl) (ev_cN 32767)) ?_
           refine wl_v (x_move (tmB rfl rfl)) ?_
           refine gs_wl (tm (t := 70) rfl) (fun hg10_2 => ?_) (fun hg10_2 => ?_)
           · have hg10_2' := hg10_2; (try simp only [nrm] at hg10_2')
             all_goals
              refine wl_s rfl (want_n rfl rfl rfl rfl (by rw [hg10_2]; rfl)) ?_
              refine wl_s rfl (want_n rfl rfl rfl rfl (by rw [hg10_2]; rfl)) ?_
              refine wl_s rfl (want_n rfl rfl rfl rfl (by rw [hg10_2]; rfl)) ?_
              refine wl_s rfl (want_n rfl rfl rfl rfl (by rw [hg10_2]; rfl)) ?_
              refine wl_v (x_pickT (tmB rfl rfl) hg10_2 ev_c) ?_
              refine wl_nil ?_
              refine then_n (hK16 _ _ ?_); clear hK16 K16
              refine cnd_t (tmB rfl rfl) rfl ?_
              refine wp_seq_k ?_; intro K17 hK17
              refine wlit ?_
              refine wl_v (x_build (bc_skip (.int .u8 0) <| bc_skip (.int .i64 0) <| bc_skip (.int .u16 0) <| bc_skip (.bool false) <| bc_skip (.bool false) <| bc_skip (.int .i64 0) <| bc_skip (.int .u8 0) <| bc_skip (.int .u8 0) <| bc_skip (.int .u16 0) <| bc_skipL [.bool false, .int .u64 0, .int .u64 0] <| bc_skipL [.bool false, .int .u64 0, .int .u64 0] <| bc_skip (.slice none 0 0) <| bc_nil) (by kernel_rfl)) ?_
              refine wl_e rfl ?_; intro K hK
              refine ow_storeA hS 1 rfl ts_99 (tmP rfl rfl) (tmA rfl rfl) rfl rfl rfl ?_
              clear hS; intro w hS
              try replace hS := St.nm (M' := [.blk _ _ [_, _, _, _, _, _, _, _, _, _, _, _, _, _, _, _], .blk _ _ [_, _, _, _, _, _, _, _, _, _, _, _, _, _, _, _], .vw _ _]) hS rfl
              refine hK _ _ ?_; clear hK K
              refine wl_v (x_assign ev_c) ?_
              refine wl_v (x_assign (ev_cN 21)) ?_
              refine wl_nil ?_
              refine then_n (hK17 _ _ ?_); clear hK17 K17
              refine wp_ret ?_
              refine then_r ?_
              refine ret3 rfl (.cell rfl rfl (load_rowB (cs := [_, _, _, _, _, _, _, _, _, _, _, _, _, _, _, _]) hS.ok 1 rfl Tryd.underlying99 rfl ts_99 rfl)) (.tmp rfl (show _ = Value.slice _ _ _ from rfl)) (.tmp rfl (show _ = Value.int _ _ from rfl)) ?_
              cases h with
              | short _ => omega
              | form h1 h2 => first | exact ⟨rfl, hS.kp⟩ | omega
              | cut hf h2 =>
                obtain ⟨a1, a2, a3, a4, a5, a6, a7⟩ := hf
                first | exact ⟨rfl, hS.kp⟩ | (exfalso; omega)
              | sum hf h2 h3 =>
                obtain ⟨a1, a2, a3, a4, a5, a6, a7⟩ := hf
                first | exact ⟨rfl, hS.kp⟩ | (exfalso; omega)
           have hg10_2' := hg10_2; (try simp only [nrm] at hg10_2')
           all_goals
            refine wl_gv (want_y rfl rfl rfl rfl (by rw [hg10_2]; rfl)) (x_fa 1 Tryd.underlying99 rfl rfl ts_3 (tmP rfl rfl)) ?_
            refine wl_gv (want_y rfl rfl rfl rfl (by rw [hg10_2]; rfl)) (x_load Tryd.underlying3 rfl (tmP rfl rfl) (cellB hS.ok 0 rfl rfl)) ?_
            refine wl_gv (want_y rfl rfl rfl rfl (by rw [hg10_2]; rfl)) (x_move (tmI rfl rfl)) ?_
            refine wl_gv (want_y rfl rfl rfl rfl (by rw [hg10_2]; rfl)) (x_lss (tmI rfl rfl) (tmI rfl rfl)) ?_
            refine wl_v (x_pickF (tmB rfl rfl) hg10_2 (tmB rfl rfl)) ?_
            refine wl_nil ?_
            refine then_n (hK16 _ _ ?_); clear hK16 K16
            refine cnd (tm rfl) (fun hc2 => ?_) (fun hc2 => ?_)
            · skip
              all_goals
               try simp only [nrm] at hc2
               refine wp_seq_k ?_; intro K19 hK19
               refine wlit ?_
               refine wl_v (x_build (bc_skip (.int .u8 0) <| bc_skip (.int .i64 0) <| bc_skip (.int .u16 0) <| bc_skip (.bool false) <| bc_skip (.bool false) <| bc_skip (.int .i64 0) <| bc_skip (.int .u8 0) <| bc_skip (.int .u8 0) <| bc_skip (.int .u16 0) <| bc_skipL [.bool false, .int .u64 0, .int .u64 0] <| bc_skipL [.bool false, .int .u64 0, .int .u64 0] <| bc_skip (.slice none 0 0) <| bc_nil) (by kernel_rfl)) ?_
               refine wl_e rfl ?_; intro K hK
               refine ow_storeA hS 1 rfl ts_99 (tmP rfl rfl) (tmA rfl rfl) rfl rfl rfl ?_
               clear hS; intro w hS
               try replace hS := St.nm (M' := [.blk _ _ [_, _, _, _, _, _, _, _, _, _, _, _, _, _, _, _], .blk _ _ [_, _, _, _, _, _, _, _, _, _, _, _, _, _, _, _], .vw _ _]) hS rfl
               refine hK _ _ ?_; clear hK K
               refine wl_v (x_assign ev_c) ?_
               refine wl_v (x_assign (ev_cN 21)) ?_
               refine wl_nil ?_
               refine then_n (hK19 _ _ ?_); clear hK19 K19
               refine wp_ret ?_
               refine then_r ?_
               refine ret3 rfl (.cell rfl rfl (load_rowB (cs := [_, _, _, _, _, _, _, _, _, _, _, _, _, _, _, _]) hS.ok 1 rfl Tryd.underlying99 rfl ts_99 rfl)) (.tmp rfl (show _ = Value.slice _ _ _ from rfl)) (.tmp rfl (show _ = Value.int _ _ from rfl)) ?_
               cases h with
               | short _ => omega
               | form h1 h2 => first | exact ⟨rfl, hS.kp⟩ | omega
               | cut hf h2 =>
                 obtain ⟨a1, a2, a3, a4, a5, a6, a7⟩ := hf
                 first | exact ⟨rfl, hS.kp⟩ | (exfalso; omega)
               | sum hf h2 h3 =>
                 obtain ⟨a1, a2, a3, a4, a5, a6, a7⟩ := hf
                 first | exact ⟨rfl, hS.kp⟩ | (exfalso; omega)
            all_goals
             try simp only [nrm] at hc2
             refine wp_skip ?_
             refine then_n (hK15 _ _ ?_); clear hK15 K15
             refine wp_seq_k ?_; intro K21 hK21
             refine wp_seq_k ?_; intro K22 hK22
             refine wlit ?_
             refine wl_v (x_move (tmS rfl rfl)) ?_
             refine wl_v (x_len Tryd.underlying22 (tmS rfl rfl)) ?_
             refine wl_v (x_fa 1 Tryd.underlying99 rfl rfl ts_3 (tmP rfl rfl)) ?_
             refine wl_v (x_load Tryd.underlying3 rfl (tmP rfl rfl) (cellB hS.ok 0 rfl rfl)) ?_
             refine wl_v (x_lss (tmI rfl rfl) (tmI rfl rfl)) ?_
             refine wl_nil ?_
             refine then_n (hK22 _ _ ?_); clear hK22 K22
             refine cnd (tm rfl) (fun hc3 => ?_) (fun hc3 => ?_)
             · skip
               all_goals
                try simp only [nrm] at hc3
                refine wp_seq_k ?_; intro K23 hK23
                refine wlit ?_
                refine wl_v (x_build (bc_skip (.int .u8 0) <| bc_skip (.int .i64 0) <| bc_skip (.int .u16 0) <| bc_skip (.bool false) <| bc_skip (.bool false) <| bc_skip (.int .i64 0) <| bc_skip (.int .u8 0) <| bc_skip (.int .u8 0) <| bc_skip (.int .u16 0) <| bc_skipL [.bool false, .int .u64 0, .int .u64 0] <| bc_skipL [.bool false, .int .u64 0, .int .u64 0] <| bc_skip (.slice none 0 0) <| bc_nil) (by kernel_rfl)) ?_
                refine wl_e rfl ?_; intro K hK
                refine ow_storeA hS 1 rfl ts_99 (tmP rfl rfl) (tmA rfl rfl) rfl rfl rfl ?_
                clear hS; intro w hS
                try replace hS := St.nm (M' := [.blk _ _ [_, _, _, _, _, _, _, _, _, _, _, _, _, _, _, _], .blk _ _ [_, _, _, _, _, _, _, _, _, _, _, _, _, _, _, _], .vw _ _]) hS rfl
                refine hK _ _ ?_; clear hK K
                refine wl_v (x_assign ev_c) ?_
                refine wl_v (x_assign (ev_cN 20)) ?_
                refine wl_nil ?_
                refine then_n (hK23 _ _ ?_); clear hK23 K23
                refine wp_ret ?_
                refine then_r ?_
                refine ret3 rfl (.cell rfl rfl (load_rowB (cs := [_, _, _, _, _, _, _, _, _, _, _, _, _, _, _, _]) hS.ok 1 rfl Tryd.underlying99 rfl ts_99 rfl)) (.tmp rfl (show _ = Value.slice _ _ _ from rfl)) (.tmp rfl (show _ = Value.int _ _ from rfl)) ?_
                cases h with
                | short _ => omega
                | form h1 h2 => first | exact ⟨rfl, hS.kp⟩ | omega
                | cut hf h2 =>
                  obtain ⟨a1, a2, a3, a4, a5, a6, a7⟩ := hf
                  first | exact ⟨rfl, hS.kp⟩ | (exfalso; omega)
                | sum hf h2 h3 =>
                  obtain ⟨a1, a2, a3, a4, a5, a6, a7⟩ := hf
                  first | exact ⟨rfl, hS.kp⟩ | (exfalso; omega)
             all_goals
              try simp only [nrm] at hc3
              refine wp_skip ?_
              refine then_n (hK21 _ _ ?_); clear hK21 K21
              refine wp_seq_k ?_; intro K25 hK25
              refine wp_seq_k ?_; intro K26 hK26
              refine wlit ?_
              refine wl_v (x_move (tmS rfl rfl)) ?_
              refine wl_v (x_move (tmI rfl rfl)) ?_
              refine wl_v (x_sliceH Tryd.underlying22 ts_5 (tmS rfl rfl) (tmI rfl rfl) (by omega)) ?_
              replace hS := hS.cutb 2 0 sz rfl (by omega : l.length ≤ c)
              refine wl_e rfl ?_; intro K hK
              refine ow_call Tryd.func46 rfl rfl (evs_cons (tmS rfl rfl) <| evs_nil) (rsum_of_c sz _ _ (l.take sz) _ (viewV hS.ok 0 rfl) (htl (by omega)) (hb.take sz) (by omega)) ?_
              rintro e w ⟨rfl, hk⟩
              refine ⟨_, rfl, ?_⟩
              replace hS := hS.kept hk
              clear hk
              have hfb := foldN_bd (psum (l.take sz) sz)
              refine hK _ _ ?_; clear hK K
              refine wl_v (x_neq (tmI rfl rfl) (ev_cN 0)) ?_
              refine wl_nil ?_
              refine then_n (hK26 _ _ ?_); clear hK26 K26
              refine cnds (tm rfl) (fun hc4 => ?_) (fun hc4 => ?_)
              · exfalso
                simp only [nrm] at hc4
                have hc5 : SumOk l sz := by unfold SumOk; omega
                cases h with
                | short _ => omega
                | form h1 h2 => omega
                | cut hf h2 => obtain ⟨a1, a2, a3, a4, a5, a6, a7⟩ := hf; omega
                | sum hf h2 h3 =>
                  obtain ⟨a1, a2, a3, a4, a5, a6, a7⟩ := hf
                  obtain rfl : sz = _ := hsz.symm.trans a3
                  exact h3 hc5
              all_goals
               try simp only [nrm] at hc4
               refine wp_seq_k ?_; intro K27 hK27
               refine wlit ?_
               refine wl_v (x_build (bc_skip (.int .u8 0) <| bc_skip (.int .i64 0) <| bc_skip (.int .u16 0) <| bc_skip (.bool false) <| bc_skip (.bool false) <| bc_skip (.int .i64 0) <| bc_skip (.int .u8 0) <| bc_skip (.int .u8 0) <| bc_skip (.int .u16 0) <| bc_skipL [.bool false, .int .u64 0, .int .u64 0] <| bc_skipL [.bool false, .int .u64 0, .int .u64 0] <| bc_skip (.slice none 0 0) <| bc_nil) (by kernel_rfl)) ?_
               refine wl_e rfl ?_; intro K hK
               refine ow_storeA hS 2 rfl ts_99 (tmP rfl rfl) (tmA rfl rfl) rfl rfl rfl ?_
               clear hS; intro w hS
               try replace hS := St.nm (M' := [.vw _ _, .blk _ _ [_, _, _, _, _, _, _, _, _, _, _, _, _, _, _, _], .blk _ _ [_, _, _, _, _, _, _, _, _, _, _, _, _, _, _, _], .vw _ _]) hS rfl
               refine hK _ _ ?_; clear hK K
               refine wl_v (x_assign ev_c) ?_
               refine wl_v (x_assign (ev_cN 22)) ?_
               refine wl_nil ?_
               refine then_n (hK27 _ _ ?_); clear hK27 K27
               refine wp_ret ?_
               refine then_r ?_
               refine ret3 rfl (.cell rfl rfl (load_rowB (cs := [_, _, _, _, _, _, _, _, _, _, _, _, _, _, _, _]) hS.ok 2 rfl Tryd.underlying99 rfl ts_99 rfl)) (.tmp rfl (show _ = Value.slice _ _ _ from rfl)) (.tmp rfl (show _ = Value.int _ _ from rfl)) ?_
               cases h with
               | short _ => omega
               | form h1 h2 => first | exact ⟨rfl, hS.kp⟩ | omega
               | cut hf h2 =>
                 obtain ⟨a1, a2, a3, a4, a5, a6, a7⟩ := hf
                 first | exact ⟨rfl, hS.kp⟩ | (exfalso; omega)
               | sum hf h2 h3 =>
                 obtain ⟨a1, a2, a3, a4, a5, a6, a7⟩ := hf
                 first | exact ⟨rfl, hS.kp⟩ | (exfalso; omega)
         · intro K hK
           refine ow_alloc hS tz_99 rfl ?_
           clear hS; intro g7_30 w hg7_30 hS
           refine hK _ _ ?_; clear hK K
           refine rg_step 27 rfl (by kernel_rfl) (want_0) (oks_drop hS 1 rfl) ?_; intro K hK
           refine ow_call Tryd.func45 rfl rfl (evs_cons (tmS rfl rfl) <| evs_cons (ev_cN 10) <| evs_cons (ev_cN 2) <| evs_nil) (get_c n _ c l _ _ _ (viewV hS.ok 2 rfl) hl hc hn4 hb (by omega) (by omega)) ?_
           rintro e w ⟨rfl, hk⟩
           refine ⟨_, rfl, ?_⟩
           replace hS := hS.kept hk
           clear hk
           refine hK _ _ ?_; clear hK K
           refine rg_take 28 rfl rfl (by kernel_rfl) (by kernel_rfl) (by kernel_rfl) (want_0) (fun w hok => x_convN Tryd.underlying24 Tryd.underlying27 (tmI rfl rfl) (fit_u16 (by omega))) ?_
           refine rg_take 29 rfl rfl (by kernel_rfl) (by kernel_rfl) (by kernel_rfl) (want_0) (fun w hok => x_build (bc_take (tmI rfl rfl) <| bc_take (tmI rfl rfl) <| bc_take (tmI rfl rfl) <| bc_take (tmB rfl rfl) <| bc_take (tmB rfl rfl) <| bc_take (tmI rfl rfl) <| bc_take (tmI rfl rfl) <| bc_take (tmI rfl rfl) <| bc_take (tmI rfl rfl) <| bc_skipL [.bool false, .int .u64 0, .int .u64 0] <| bc_skipL [.bool false, .int .u64 0, .int .u64 0] <| bc_skip (.slice none 0 0) <| bc_nil) (by kernel_rfl)) ?_
           refine rg_step 31 rfl (by kernel_rfl) (want_0) (oks_drop hS 1 rfl) ?_; intro K hK
           refine ow_storeA hS 0 rfl ts_99 (tmP rfl rfl) (tmA rfl rfl) rfl rfl rfl ?_
           clear hS; intro w hS
           try replace hS := St.nm (M' := [.blk _ _ [_, _, _, _, _, _, _, _, _, _, _, _, _, _, _, _], .blk _ _ [_, _, _, _, _, _, _, _, _, _, _, _, _, _, _, _], .vw _ _]) hS rfl
           refine hK _ _ ?_; clear hK K
           refine rg_done (oks_drop hS 1 rfl) (by kernel_rfl) ?_
           refine then_n (hK12 _ _ ?_); clear hK12 K12
           refine wp_seq_k ?_; intro K29 hK29
           refine wlit ?_
           refine wl_v (x_move (tmS rfl rfl)) ?_
           refine wl_e rfl ?_; intro K hK
           refine ow_call Tryd.func45 rfl rfl (evs_cons (tmS rfl rfl) <| evs_cons (ev_cN 12) <| evs_cons (ev_cN 4) <| evs_nil) (get_c n _ c l _ _ _ (viewV hS.ok 2 rfl) hl hc hn4 hb (by omega) (by omega)) ?_
           rintro e w ⟨rfl, hk⟩
           refine ⟨_, rfl, ?_⟩
           replace hS := hS.kept hk
           clear hk
           refine hK _ _ ?_; clear hK K
           refine wl_v (x_build (bc_skip (.bool false) <| bc_skip (.int .u64 0) <| bc_take (tmI rfl rfl) <| bc_nil) (by kernel_rfl)) ?_
           refine wl_v (x_fa 9 Tryd.underlying99 rfl rfl ts_26 (tmP rfl rfl)) ?_
           refine wl_e rfl ?_; intro K hK
           refine ow_storeA hS 0 rfl ts_26 (tmP rfl rfl) (tmA rfl rfl) rfl rfl rfl ?_
           clear hS; intro w hS
           try replace hS := St.nm (M' := [.blk _ _ [_, _, _, _, _, _, _, _, _, _, _, _, _, _, _, _], .blk _ _ [_, _, _, _, _, _, _, _, _, _, _, _, _, _, _, _], .vw _ _]) hS rfl
           refine hK _ _ ?_; clear hK K
           refine wl_nil ?_
           refine then_n (hK29 _ _ ?_); clear hK29 K29
           refine wp_seq_k ?_; intro K30 hK30
           refine wlit ?_
           refine wl_v (x_move (tmS rfl rfl)) ?_
           refine wl_e rfl ?_; intro K hK
           refine ow_call Tryd.func45 rfl rfl (evs_cons (tmS rfl rfl) <| evs_cons (ev_cN 16) <| evs_cons (ev_cN 4) <| evs_nil) (get_c n _ c l _ _ _ (viewV hS.ok 2 rfl) hl hc hn4 hb (by omega) (by omega)) ?_
           rintro e w ⟨rfl, hk⟩
           refine ⟨_, rfl, ?_⟩
           replace hS := hS.kept hk
           clear hk
           refine hK _ _ ?_; clear hK K
           refine wl_v (x_build (bc_skip (.bool false) <| bc_skip (.int .u64 0) <| bc_take (tmI rfl rfl) <| bc_nil) (by kernel_rfl)) ?_
           refine wl_v (x_fa 12 Tryd.underlying99 rfl rfl ts_26 (tmP rfl rfl)) ?_
           refine wl_e rfl ?_; intro K hK
           refine ow_storeA hS 0 rfl ts_26 (tmP rfl rfl) (tmA rfl rfl) rfl rfl rfl ?_
           clear hS; intro w hS
           try replace hS := St.nm (M' := [.blk _ _ [_, _, _, _, _, _, _, _, _, _, _, _, _, _, _, _], .blk _ _ [_, _, _, _, _, _, _, _, _, _, _, _, _, _, _, _], .vw _ _]) hS rfl
           refine hK _ _ ?_; clear hK K
           refine wl_nil ?_
           refine then_n (hK30 _ _ ?_); clear hK30 K30
           refine wp_seq_k ?_; intro K31 hK31
           refine wp_seq_k ?_; intro K32 hK32
           refine wlit ?_
           refine wl_v (x_move (tmI rfl rfl)) ?_
           refine wl_v (x_gtr (tmI rfl rfl) (ev_cN 32767)) ?_
           refine wl_v (x_move (tmB rfl rfl)) ?_
           refine gs_wl (tm (t := 70) rfl) (fun hg10_2 => ?_) (fun hg10_2 => ?_)
           · have hg10_2' := hg10_2; (try simp only [nrm] at hg10_2')
             all_goals
              refine wl_s rfl (want_n rfl rfl rfl rfl (by rw [hg10_2]; rfl)) ?_
              refine wl_s rfl (want_n rfl rfl rfl rfl (by rw [hg10_2]; rfl)) ?_
              refine wl_s rfl (want_n rfl rfl rfl rfl (by rw [hg10_2]; rfl)) ?_
              refine wl_s rfl (want_n rfl rfl rfl rfl (by rw [hg10_2]; rfl)) ?_
              refine wl_v (x_pickT (tmB rfl rfl) hg10_2 ev_c) ?_
              refine wl_nil ?_
              refine then_n (hK32 _ _ ?_); clear hK32 K32
              refine cnd_t (tmB rfl rfl) rfl ?_
              refine wp_seq_k ?_; intro K33 hK33
              refine wlit ?_
              refine wl_v (x_build (bc_skip (.int .u8 0) <| bc_skip (.int .i64 0) <| bc_skip (.int .u16 0) <| bc_skip (.bool false) <| bc_skip (.bool false) <| bc_skip (.int .i64 0) <| bc_skip (.int .u8 0) <| bc_skip (.int .u8 0) <| bc_skip (.int .u16 0) <| bc_skipL [.bool false, .int .u64 0, .int .u64 0] <| bc_skipL [.bool false, .int .u64 0, .int .u64 0] <| bc_skip (.slice none 0 0) <| bc_nil) (by kernel_rfl)) ?_
              refine wl_e rfl ?_; intro K hK
              refine ow_storeA hS 1 rfl ts_99 (tmP rfl rfl) (tmA rfl rfl) rfl rfl rfl ?_
              clear hS; intro w hS
              try replace hS := St.nm (M' := [.blk _ _ [_, _, _, _, _, _, _, _, _, _, _, _, _, _, _, _], .blk _ _ [_, _, _, _, _, _, _, _, _, _, _, _, _, _, _, _], .vw _ _]) hS rfl
              refine hK _ _ ?_; clear hK K
              refine wl_v (x_assign ev_c) ?_
              refine wl_v (x_assign (ev_cN 21)) ?_
              refine wl_nil ?_
              refine then_n (hK33 _ _ ?_); clear hK33 K33
              refine wp_ret ?_
              refine then_r ?_
              refine ret3 rfl (.cell rfl rfl (load_rowB (cs := [_, _, _, _, _, _, _, _, _, _, _, _, _, _, _, _]) hS.ok 1 rfl Tryd.underlying99 rfl ts_99 rfl)) (.tmp rfl (show _ = Value.slice _ _ _ from rfl)) (.tmp rfl (show _ = Value.int _ _ from rfl)) ?_
              cases h with
              | short _ => omega
              | form h1 h2 => first | exact ⟨rfl, hS.kp⟩ | omega
              | cut hf h2 =>
                obtain ⟨a1, a2, a3, a4, a5, a6, a7⟩ := hf
                first | exact ⟨rfl, hS.kp⟩ | (exfalso; omega)
              | sum hf h2 h3 =>
                obtain ⟨a1, a2, a3, a4, a5, a6, a7⟩ := hf
                first | exact ⟨rfl, hS.kp⟩ | (exfalso; omega)
           have hg10_2' := hg10_2; (try simp only [nrm] at hg10_2')
           all_goals
            refine wl_gv (want_y rfl rfl rfl rfl (by rw [hg10_2]; rfl)) (x_fa 1 Tryd.underlying99 rfl rfl ts_3 (tmP rfl rfl)) ?_
            refine wl_gv (want_y rfl rfl rfl rfl (by rw [hg10_2]; rfl)) (x_load Tryd.underlying3 rfl (tmP rfl rfl) (cellB hS.ok 0 rfl rfl)) ?_
            refine wl_gv (want_y rfl rfl rfl rfl (by rw [hg10_2]; rfl)) (x_move (tmI rfl rfl)) ?_
            refine wl_gv (want_y rfl rfl rfl rfl (by rw [hg10_2]; rfl)) (x_lss (tmI rfl rfl) (tmI rfl rfl)) ?_
            refine wl_v (x_pickF (tmB rfl rfl) hg10_2 (tmB rfl rfl)) ?_
            refine wl_nil ?_
            refine then_n (hK32 _ _ ?_); clear hK32 K32
            refine cnd (tm rfl) (fun hc2 => ?_) (fun hc2 => ?_)
            · skip
              all_goals
               try simp only [nrm] at hc2
               refine wp_seq_k ?_; intro K35 hK35
               refine wlit ?_
               refine wl_v (x_build (bc_skip (.int .u8 0) <| bc_skip (.int .i64 0) <| bc_skip (.int .u16 0) <| bc_skip (.bool false) <| bc_skip (.bool false) <| bc_skip (.int .i64 0) <| bc_skip (.int .u8 0) <| bc_skip (.int .u8 0) <| bc_skip (.int .u16 0) <| bc_skipL [.bool false, .int .u64 0, .int .u64 0] <| bc_skipL [.bool false, .int .u64 0, .int .u64 0] <| bc_skip (.slice none 0 0) <| bc_nil) (by kernel_rfl)) ?_
               refine wl_e rfl ?_; intro K hK
               refine ow_storeA hS 1 rfl ts_99 (tmP rfl rfl) (tmA rfl rfl) rfl rfl rfl ?_
               clear hS; intro w hS
               try replace hS := St.nm (M' := [.blk _ _ [_, _, _, _, _, _, _, _, _, _, _, _, _, _, _, _], .blk _ _ [_, _, _, _, _, _, _, _, _, _, _, _, _, _, _, _], .vw _ _]) hS rfl
               refine hK _ _ ?_; clear hK K
               refine wl_v (x_assign ev_c) ?_
               refine wl_v (x_assign (ev_cN 21)) ?_
               refine wl_nil ?_
               refine then_n (hK35 _ _ ?_); clear hK35 K35
               refine wp_ret ?_
               refine then_r ?_
               refine ret3 rfl (.cell rfl rfl (load_rowB (cs := [_, _, _, _, _, _, _, _, _, _, _, _, _, _, _, _]) hS.ok 1 rfl Tryd.underlying99 rfl ts_99 rfl)) (.tmp rfl (show _ = Value.slice _ _ _ from rfl)) (.tmp rfl (show _ = Value.int _ _ from rfl)) ?_
               cases h with
               | short _ => omega
               | form h1 h2 => first | exact ⟨rfl, hS.kp⟩ | omega
               | cut hf h2 =>
                 obtain ⟨a1, a2, a3, a4, a5, a6, a7⟩ := hf
                 first | exact ⟨rfl, hS.kp⟩ | (exfalso; omega)
               | sum hf h2 h3 =>
                 obtain ⟨a1, a2, a3, a4, a5, a6, a7⟩ := hf
                 first | exact ⟨rfl, hS.kp⟩ | (exfalso; omega)
            all_goals
             try simp only [nrm] at hc2
             refine wp_skip ?_
             refine then_n (hK31 _ _ ?_); clear hK31 K31
             refine wp_seq_k ?_; intro K37 hK37
             refine wp_seq_k ?_; intro K38 hK38
             refine wlit ?_
             refine wl_v (x_move (tmS rfl rfl)) ?_
             refine wl_v (x_len Tryd.underlying22 (tmS rfl rfl)) ?_
             refine wl_v (x_fa 1 Tryd.underlying99 rfl rfl ts_3 (tmP rfl rfl)) ?_
             refine wl_v (x_load Tryd.underlying3 rfl (tmP rfl rfl) (cellB hS.ok 0 rfl rfl)) ?_
             refine wl_v (x_lss (tmI rfl rfl) (tmI rfl rfl)) ?_
             refine wl_nil ?_
             refine then_n (hK38 _ _ ?_); clear hK38 K38
             refine cnd (tm rfl) (fun hc3 => ?_) (fun hc3 => ?_)
             · skip
               all_goals
                try simp only [nrm] at hc3
                refine wp_seq_k ?_; intro K39 hK39
                refine wlit ?_
                refine wl_v (x_build (bc_skip (.int .u8 0) <| bc_skip (.int .i64 0) <| bc_skip (.int .u16 0) <| bc_skip (.bool false) <| bc_skip (.bool false) <| bc_skip (.int .i64 0) <| bc_skip (.int .u8 0) <| bc_skip (.int .u8 0) <| bc_skip (.int .u16 0) <| bc_skipL [.bool false, .int .u64 0, .int .u64 0] <| bc_skipL [.bool false, .int .u64 0, .int .u64 0] <| bc_skip (.slice none 0 0) <| bc_nil) (by kernel_rfl)) ?_
                refine wl_e rfl ?_; intro K hK
                refine ow_storeA hS 1 rfl ts_99 (tmP rfl rfl) (tmA rfl rfl) rfl rfl rfl ?_
                clear hS; intro w hS
                try replace hS := St.nm (M' := [.blk _ _ [_, _, _, _, _, _, _, _, _, _, _, _, _, _, _, _], .blk _ _ [_, _, _, _, _, _, _, _, _, _, _, _, _, _, _, _], .vw _ _]) hS rfl
                refine hK _ _ ?_; clear hK K
                refine wl_v (x_assign ev_c) ?_
                refine wl_v (x_assign (ev_cN 20)) ?_
                refine wl_nil ?_
                refine then_n (hK39 _ _ ?_); clear hK39 K39
                refine wp_ret ?_
                refine then_r ?_
                refine ret3 rfl (.cell rfl rfl (load_rowB (cs := [_, _, _, _, _, _, _, _, _, _, _, _, _, _, _, _]) hS.ok 1 rfl Tryd.underlying99 rfl ts_99 rfl)) (.tmp rfl (show _ = Value.slice _ _ _ from rfl)) (.tmp rfl (show _ = Value.int _ _ from rfl)) ?_
                cases h with
                | short _ => omega
                | form h1 h2 => first | exact ⟨rfl, hS.kp⟩ | omega
                | cut hf h2 =>
                  obtain ⟨a1, a2, a3, a4, a5, a6, a7⟩ := hf
                  first | exact ⟨rfl, hS.kp⟩ | (exfalso; omega)
                | sum hf h2 h3 =>
                  obtain ⟨a1, a2, a3, a4, a5, a6, a7⟩ := hf
                  first | exact ⟨rfl, hS.kp⟩ | (exfalso; omega)
             all_goals
              try simp only [nrm] at hc3
              refine wp_skip ?_
              refine then_n (hK37 _ _ ?_); clear hK37 K37
              refine wp_seq_k ?_; intro K41 hK41
              refine wp_seq_k ?_; intro K42 hK42
              refine wlit ?_
              refine wl_v (x_move (tmS rfl rfl)) ?_
              refine wl_v (x_move (tmI rfl rfl)) ?_
              refine wl_v (x_sliceH Tryd.underlying22 ts_5 (tmS rfl rfl) (tmI rfl rfl) (by omega)) ?_
              replace hS := hS.cutb 2 0 sz rfl (by omega : l.length ≤ c)
              refine wl_e rfl ?_; intro K hK
              refine ow_call Tryd.func46 rfl rfl (evs_cons (tmS rfl rfl) <| evs_nil) (rsum_of_c sz _ _ (l.take sz) _ (viewV hS.ok 0 rfl) (htl (by omega)) (hb.take sz) (by omega)) ?_
              rintro e w ⟨rfl, hk⟩
              refine ⟨_, rfl, ?_⟩
              replace hS := hS.kept hk
              clear hk
              have hfb := foldN_bd (psum (l.take sz) sz)
              refine hK _ _ ?_; clear hK K
              refine wl_v (x_neq (tmI rfl rfl) (ev_cN 0)) ?_
              refine wl_nil ?_
              refine then_n (hK42 _ _ ?_); clear hK42 K42
              refine cnds (tm rfl) (fun hc4 => ?_) (fun hc4 => ?_)
              · exfalso
                simp only [nrm] at hc4
                have hc5 : SumOk l sz := by unfold SumOk; omega
                cases h with
                | short _ => omega
                | form h1 h2 => omega
                | cut hf h2 => obtain ⟨a1, a2, a3, a4, a5, a6, a7⟩ := hf; omega
                | sum hf h2 h3 =>
                  obtain ⟨a1, a2, a3, a4, a5, a6, a7⟩ := hf
                  obtain rfl : sz = _ := hsz.symm.trans a3
                  exact h3 hc5
              all_goals
               try simp only [nrm] at hc4
               refine wp_seq_k ?_; intro K43 hK43
               refine wlit ?_
               refine wl_v (x_build (bc_skip (.int .u8 0) <| bc_skip (.int .i64 0) <| bc_skip (.int .u16 0) <| bc_skip (.bool false) <| bc_skip (.bool false) <| bc_skip (.int .i64 0) <| bc_skip (.int .u8 0) <| bc_skip (.int .u8 0) <| bc_skip (.int .u16 0) <| bc_skipL [.bool false, .int .u64 0, .int .u64 0] <| bc_skipL [.bool false, .int .u64 0, .int .u64 0] <| bc_skip (.slice none 0 0) <| bc_nil) (by kernel_rfl)) ?_
               refine wl_e rfl ?_; intro K hK
               refine ow_storeA hS 2 rfl ts_99 (tmP rfl rfl) (tmA rfl rfl) rfl rfl rfl ?_
               clear hS; intro w hS
               try replace hS := St.nm (M' := [.vw _ _, .blk _ _ [_, _, _, _, _, _, _, _, _, _, _, _, _, _, _, _], .blk _ _ [_, _, _, _, _, _, _, _, _, _, _, _, _, _, _, _], .vw _ _]) hS rfl
               refine hK _ _ ?_; clear hK K
               refine wl_v (x_assign ev_c) ?_
               refine wl_v (x_assign (ev_cN 22)) ?_
               refine wl_nil ?_
               refine then_n (hK43 _ _ ?_); clear hK43 K43
               refine wp_ret ?_
               refine then_r ?_
               refine ret3 rfl (.cell rfl rfl (load_rowB (cs := [_, _, _, _, _, _, _, _, _, _, _, _, _, _, _, _]) hS.ok 2 rfl Tryd.underlying99 rfl ts_99 rfl)) (.tmp rfl (show _ = Value.slice _ _ _ from rfl)) (.tmp rfl (show _ = Value.int _ _ from rfl)) ?_
               cases h with
               | short _ => omega
               | form h1 h2 => first | exact ⟨rfl, hS.kp⟩ | omega
               | cut hf h2 =>
                 obtain ⟨a1, a2, a3, a4, a5, a6, a7⟩ := hf
                 first | exact ⟨rfl, hS.kp⟩ | (exfalso; omega)
               | sum hf h2 h3 =>
                 obtain ⟨a1, a2, a3, a4, a5, a6, a7⟩ := hf
                 first | exact ⟨rfl, hS.kp⟩ | (exfalso; omega)
       · intro K hK
         refine ow_alloc hS tz_99 rfl ?_
         clear hS; intro g7_30 w hg7_30 hS
         refine hK _ _ ?_; clear hK K
         refine rg_step 7 rfl (by kernel_rfl) (want_0) (oks_drop hS 1 rfl) ?_; intro K hK
         refine ow_call Tryd.func45 rfl rfl (evs_cons (tmS rfl rfl) <| evs_cons (ev_cN 4) <| evs_cons (ev_cN 2) <| evs_nil) (get_c n _ c l _ _ _ (viewV hS.ok 2 rfl) hl hc hn4 hb (by omega) (by omega)) ?_
         rintro e w ⟨rfl, hk⟩
         refine ⟨_, rfl, ?_⟩
         replace hS := hS.kept hk
         clear hk
         refine hK _ _ ?_; clear hK K
         refine rg_take 8 rfl rfl (by kernel_rfl) (by kernel_rfl) (by kernel_rfl) (want_0) (fun w hok => x_convN Tryd.underlying24 Tryd.underlying27 (tmI rfl rfl) (fit_u16 (by omega))) ?_
         refine rg_step 27 rfl (by kernel_rfl) (want_0) (oks_drop hS 1 rfl) ?_; intro K hK
         refine ow_call Tryd.func45 rfl rfl (evs_cons (tmS rfl rfl) <| evs_cons (ev_cN 10) <| evs_cons (ev_cN 2) <| evs_nil) (get_c n _ c l _ _ _ (viewV hS.ok 2 rfl) hl hc hn4 hb (by omega) (by omega)) ?_
         rintro e w ⟨rfl, hk⟩
         refine ⟨_, rfl, ?_⟩
         replace hS := hS.kept hk
         clear hk
         refine hK _ _ ?_; clear hK K
         refine rg_take 28 rfl rfl (by kernel_rfl) (by kernel_rfl) (by kernel_rfl) (want_0) (fun w hok => x_convN Tryd.underlying24 Tryd.underlying27 (tmI rfl rfl) (fit_u16 (by omega))) ?_
         refine rg_take 29 rfl rfl (by kernel_rfl) (by kernel_rfl) (by kernel_rfl) (want_0) (fun w hok => x_build (bc_take (tmI rfl rfl) <| bc_take (tmI rfl rfl) <| bc_take (tmI rfl rfl) <| bc_take (tmB rfl rfl) <| bc_take (tmB rfl rfl) <| bc_take (tmI rfl rfl) <| bc_take (tmI rfl rfl) <| bc_take (tmI rfl rfl) <| bc_take (tmI rfl rfl) <| bc_skipL [.bool false, .int .u64 0, .int .u64 0] <| bc_skipL [.bool false, .int .u64 0, .int .u64 0] <| bc_skip (.slice none 0 0) <| bc_nil) (by kernel_rfl)) ?_
         refine rg_step 31 rfl (by kernel_rfl) (want_0) (oks_drop hS 1 rfl) ?_; intro K hK
         refine ow_storeA hS 0 rfl ts_99 (tmP rfl rfl) (tmA rfl rfl) rfl rfl rfl ?_
         clear hS; intro w hS
         try replace hS := St.nm (M' := [.blk _ _ [_, _, _, _, _, _, _, _, _, _, _, _, _, _, _, _], .blk _ _ [_, _, _, _, _, _, _, _, _, _, _, _, _, _, _, _], .vw _ _]) hS rfl
         refine hK _ _ ?_; clear hK K
         refine rg_done (oks_drop hS 1 rfl) (by kernel_rfl) ?_
         refine then_n (hK12 _ _ ?_); clear hK12 K12
         refine wp_seq_k ?_; intro K45 hK45
         refine wlit ?_
         refine wl_v (x_move (tmS rfl rfl)) ?_
         refine wl_e rfl ?_; intro K hK
         refine ow_call Tryd.func45 rfl rfl (evs_cons (tmS rfl rfl) <| evs_cons (ev_cN 12) <| evs_cons (ev_cN 4) <| evs_nil) (get_c n _ c l _ _ _ (viewV hS.ok 2 rfl) hl hc hn4 hb (by omega) (by omega)) ?_
         rintro e w ⟨rfl, hk⟩
         refine ⟨_, rfl, ?_⟩
         replace hS := hS.kept hk
         clear hk
         refine hK _ _ ?_; clear hK K
         refine wl_v (x_build (bc_skip (.bool false) <| bc_skip (.int .u64 0) <| bc_take (tmI rfl rfl) <| bc_nil) (by kernel_rfl)) ?_
         refine wl_v (x_fa 9 Tryd.underlying99 rfl rfl ts_26 (tmP rfl rfl)) ?_
         refine wl_e rfl ?_; intro K hK
         refine ow_storeA hS 0 rfl ts_26 (tmP rfl rfl) (tmA rfl rfl) rfl rfl rfl ?_
         clear hS; intro w hS
         try replace hS := St.nm (M' := [.blk _ _ [_, _, _, _, _, _, _, _, _, _, _, _, _, _, _, _], .blk _ _ [_, _, _, _, _, _, _, _, _, _, _, _, _, _, _, _], .vw _ _]) hS rfl
         refine hK _ _ ?_; clear hK K
         refine wl_nil ?_
         refine then_n (hK45 _ _ ?_); clear hK45 K45
         refine wp_seq_k ?_; intro K46 hK46
         refine wlit ?_
         refine wl_v (x_move (tmS rfl rfl)) ?_
         refine wl_e rfl ?_; intro K hK
         refine ow_call Tryd.func45 rfl rfl (evs_cons (tmS rfl rfl) <| evs_cons (ev_cN 16) <| evs_cons (ev_cN 4) <| evs_nil) (get_c n _ c l _ _ _ (viewV hS.ok 2 rfl) hl hc hn4 hb (by omega) (by omega)) ?_
         rintro e w ⟨rfl, hk⟩
         refine ⟨_, rfl, ?_⟩
         replace hS := hS.kept hk
         clear hk
         refine hK _ _ ?_; clear hK K
         refine wl_v (x_build (bc_skip (.bool false) <| bc_skip (.int .u64 0) <| bc_take (tmI rfl rfl) <| bc_nil) (by kernel_rfl)) ?_
         refine wl_v (x_fa 12 Tryd.underlying99 rfl rfl ts_26 (tmP rfl rfl)) ?_
         refine wl_e rfl ?_; intro K hK
         refine ow_storeA hS 0 rfl ts_26 (tmP rfl rfl) (tmA rfl rfl) rfl rfl rfl ?_
         clear hS; intro w hS
         try replace hS := St.nm (M' := [.blk _ _ [_, _, _, _, _, _, _, _, _, _, _, _, _, _, _, _], .blk _ _ [_, _, _, _, _, _, _, _, _, _, _, _, _, _, _, _], .vw _ _]) hS rfl
         refine hK _ _ ?_; clear hK K
         refine wl_nil ?_
         refine then_n (hK46 _ _ ?_); clear hK46 K46
         refine wp_seq_k ?_; intro K47 hK47
         refine wp_seq_k ?_; intro K48 hK48
         refine wlit ?_
         refine wl_v (x_move (tmI rfl rfl)) ?_
         refine wl_v (x_gtr (tmI rfl rfl) (ev_cN 32767)) ?_
         refine wl_v (x_move (tmB rfl rfl)) ?_
         refine gs_wl (tm (t := 70) rfl) (fun hg10_2 => ?_) (fun hg10_2 => ?_)
         · have hg10_2' := hg10_2; (try simp only [nrm] at hg10_2')
           all_goals
            refine wl_s rfl (want_n rfl rfl rfl rfl (by rw [hg10_2]; rfl)) ?_
            refine wl_s rfl (want_n rfl rfl rfl rfl (by rw [hg10_2]; rfl)) ?_
            refine wl_s rfl (want_n rfl rfl rfl rfl (by rw [hg10_2]; rfl)) ?_
            refine wl_s rfl (want_n rfl rfl rfl rfl (by rw [hg10_2]; rfl)) ?_
            refine wl_v (x_pickT (tmB rfl rfl) hg10_2 ev_c) ?_
            refine wl_nil ?_
            refine then_n (hK48 _ _ ?_); clear hK48 K48
            refine cnd_t (tmB rfl rfl) rfl ?_
            refine wp_seq_k ?_; intro K49 hK49
            refine wlit ?_
            refine wl_v (x_build (bc_skip (.int .u8 0) <| bc_skip (.int .i64 0) <| bc_skip (.int .u16 0) <| bc_skip (.bool false) <| bc_skip (.bool false) <| bc_skip (.int .i64 0) <| bc_skip (.int .u8 0) <| bc_skip (.int .u8 0) <| bc_skip (.int .u16 0) <| bc_skipL [.bool false, .int .u64 0, .int .u64 0] <| bc_skipL [.bool false, .int .u64 0, .int .u64 0] <| bc_skip (.slice none 0 0) <| bc_nil) (by kernel_rfl)) ?_
            refine wl_e rfl ?_; intro K hK
            refine ow_storeA hS 1 rfl ts_99 (tmP rfl rfl) (tmA rfl rfl) rfl rfl rfl ?_
            clear hS; intro w hS
            try replace hS := St.nm (M' := [.blk _ _ [_, _, _, _, _, _, _, _, _, _, _, _, _, _, _, _], .blk _ _ [_, _, _, _, _, _, _, _, _, _, _, _, _, _, _, _], .vw _ _]) hS rfl
            refine hK _ _ ?_; clear hK K
            refine wl_v (x_assign ev_c) ?_
            refine wl_v (x_assign (ev_cN 21)) ?_
            refine wl_nil ?_
            refine then_n (hK49 _ _ ?_); clear hK49 K49
            refine wp_ret ?_
            refine then_r ?_
            refine ret3 rfl (.cell rfl rfl (load_rowB (cs := [_, _, _, _, _, _, _, _, _, _, _, _, _, _, _, _]) hS.ok 1 rfl Tryd.underlying99 rfl ts_99 rfl)) (.tmp rfl (show _ = Value.slice _ _ _ from rfl)) (.tmp rfl (show _ = Value.int _ _ from rfl)) ?_
            cases h with
            | short _ => omega
            | form h1 h2 => first | exact ⟨rfl, hS.kp⟩ | omega
            | cut hf h2 =>
              obtain ⟨a1, a2, a3, a4, a5, a6, a7⟩ := hf
              first | exact ⟨rfl, hS.kp⟩ | (exfalso; omega)
            | sum hf h2 h3 =>
              obtain ⟨a1, a2, a3, a4, a5, a6, a7⟩ := hf
              first | exact ⟨rfl, hS.kp⟩ | (exfalso; omega)
         have hg10_2' := hg10_2; (try simp only [nrm] at hg10_2')
         all_goals
          refine wl_gv (want_y rfl rfl rfl rfl (by rw [hg10_2]; rfl)) (x_fa 1 Tryd.underlying99 rfl rfl ts_3 (tmP rfl rfl)) ?_
          refine wl_gv (want_y rfl rfl rfl rfl (by rw [hg10_2]; rfl)) (x_load Tryd.underlying3 rfl (tmP rfl rfl) (cellB hS.ok 0 rfl rfl)) ?_
          refine wl_gv (want_y rfl rfl rfl rfl (by rw [hg10_2]; rfl)) (x_move (tmI rfl rfl)) ?_
          refine wl_gv (want_y rfl rfl rfl rfl (by rw [hg10_2]; rfl)) (x_lss (tmI rfl rfl) (tmI rfl rfl)) ?_
          refine wl_v (x_pickF (tmB rfl rfl) hg10_2 (tmB rfl rfl)) ?_
          refine wl_nil ?_
          refine then_n (hK48 _ _ ?_); clear hK48 K48
          refine cnd (tm rfl) (fun hc2 => ?_) (fun hc2 => ?_)
          · skip
            all_goals
             try simp only [nrm] at hc2
             refine wp_seq_k ?_; intro K51 hK51
             refine wlit ?_
             refine wl_v (x_build (bc_skip (.int .u8 0) <| bc_skip (.int .i64 0) <| bc_skip (.int .u16 0) <| bc_skip (.bool false) <| bc_skip (.bool false) <| bc_skip (.int .i64 0) <| bc_skip (.int .u8 0) <| bc_skip (.int .u8 0) <| bc_skip (.int .u16 0) <| bc_skipL [.bool false, .int .u64 0, .int .u64 0] <| bc_skipL [.bool false, .int .u64 0, .int .u64 0] <| bc_skip (.slice none 0 0) <| bc_nil) (by kernel_rfl)) ?_
             refine wl_e rfl ?_; intro K hK
             refine ow_storeA hS 1 rfl ts_99 (tmP rfl rfl) (tmA rfl rfl) rfl rfl rfl ?_
             clear hS; intro w hS
             try replace hS := St.nm (M' := [.blk _ _ [_, _, _, _, _, _, _, _, _, _, _, _, _, _, _, _], .blk _ _ [_, _, _, _, _, _, _, _, _, _, _, _, _, _, _, _], .vw _ _]) hS rfl
             refine hK _ _ ?_; clear hK K
             refine wl_v (x_assign ev_c) ?_
             refine wl_v (x_assign (ev_cN 21)) ?_
             refine wl_nil ?_
             refine then_n (hK51 _ _ ?_); clear hK51 K51
             refine wp_ret ?_
             refine then_r ?_
             refine ret3 rfl (.cell rfl rfl (load_rowB (cs := [_, _, _, _, _, _, _, _, _, _, _, _, _, _, _, _]) hS.ok 1 rfl Tryd.underlying99 rfl ts_99 rfl)) (.tmp rfl (show _ = Value.slice _ _ _ from rfl)) (.tmp rfl (show _ = Value.int _ _ from rfl)) ?_
             cases h with
             | short _ => omega
             | form h1 h2 => first | exact ⟨rfl, hS.kp⟩ | omega
             | cut hf h2 =>
               obtain ⟨a1, a2, a3, a4, a5, a6, a7⟩ := hf
               first | exact ⟨rfl, hS.kp⟩ | (exfalso; omega)
             | sum hf h2 h3 =>
               obtain ⟨a1, a2, a3, a4, a5, a6, a7⟩ := hf
               first | exact ⟨rfl, hS.kp⟩ | (exfalso; omega)
          all_goals
           try simp only [nrm] at hc2
           refine wp_skip ?_
           refine then_n (hK47 _ _ ?_); clear hK47 K47
           refine wp_seq_k ?_; intro K53 hK53
           refine wp_seq_k ?_; intro K54 hK54
           refine wlit ?_
           refine wl_v (x_move (tmS rfl rfl)) ?_
           refine wl_v (x_len Tryd.underlying22 (tmS rfl rfl)) ?_
           refine wl_v (x_fa 1 Tryd.underlying99 rfl rfl ts_3 (tmP rfl rfl)) ?_
           refine wl_v (x_load Tryd.underlying3 rfl (tmP rfl rfl) (cellB hS.ok 0 rfl rfl)) ?_
           refine wl_v (x_lss (tmI rfl rfl) (tmI rfl rfl)) ?_
           refine wl_nil ?_
           refine then_n (hK54 _ _ ?_); clear hK54 K54
           refine cnd (tm rfl) (fun hc3 => ?_) (fun hc3 => ?_)
           · skip
             all_goals
              try simp only [nrm] at hc3
              refine wp_seq_k ?_; intro K55 hK55
              refine wlit ?_
              refine wl_v (x_build (bc_skip (.int .u8 0) <| bc_skip (.int .i64 0) <| bc_skip (.int .u16 0) <| bc_skip (.bool false) <| bc_skip (.bool false) <| bc_skip (.int .i64 0) <| bc_skip (.int .u8 0) <| bc_skip (.int .u8 0) <| bc_skip (.int .u16 0) <| bc_skipL [.bool false, .int .u64 0, .int .u64 0] <| bc_skipL [.bool false, .int .u64 0, .int .u64 0] <| bc_skip (.slice none 0 0) <| bc_nil) (by kernel_rfl)) ?_
              refine wl_e rfl ?_; intro K hK
              refine ow_storeA hS 1 rfl ts_99 (tmP rfl rfl) (tmA rfl rfl) rfl rfl rfl ?_
              clear hS; intro w hS
              try replace hS := St.nm (M' := [.blk _ _ [_, _, _, _, _, _, _, _, _, _, _, _, _, _, _, _], .blk _ _ [_, _, _, _, _, _, _, _, _, _, _, _, _, _, _, _], .vw _ _]) hS rfl
              refine hK _ _ ?_; clear hK K
              refine wl_v (x_assign ev_c) ?_
              refine wl_v (x_assign (ev_cN 20)) ?_
              refine wl_nil ?_
              refine then_n (hK55 _ _ ?_); clear hK55 K55
              refine wp_ret ?_
              refine then_r ?_
              refine ret3 rfl (.cell rfl rfl (load_rowB (cs := [_, _, _, _, _, _, _, _, _, _, _, _, _, _, _, _]) hS.ok 1 rfl Tryd.underlying99 rfl ts_99 rfl)) (.tmp rfl (show _ = Value.slice _ _ _ from rfl)) (.tmp rfl (show _ = Value.int _ _ from rfl)) ?_
              cases h with
              | short _ => omega
              | form h1 h2 => first | exact ⟨rfl, hS.kp⟩ | omega
              | cut hf h2 =>
                obtain ⟨a1, a2, a3, a4, a5, a6, a7⟩ := hf
                first | exact ⟨rfl, hS.kp⟩ | (exfalso; omega)
              | sum hf h2 h3 =>
                obtain ⟨a1, a2, a3, a4, a5, a6, a7⟩ := hf
                first | exact ⟨rfl, hS.kp⟩ | (exfalso; omega)
           all_goals
            try simp only [nrm] at hc3
            refine wp_skip ?_
            refine then_n (hK53 _ _ ?_); clear hK53 K53
            refine wp_seq_k ?_; intro K57 hK57
            refine wp_seq_k ?_; intro K58 hK58
            refine wlit ?_
            refine wl_v (x_move (tmS rfl rfl)) ?_
            refine wl_v (x_move (tmI rfl rfl)) ?_
            refine wl_v (x_sliceH Tryd.underlying22 ts_5 (tmS rfl rfl) (tmI rfl rfl) (by omega)) ?_
            replace hS := hS.cutb 2 0 sz rfl (by omega : l.length ≤ c)
            refine wl_e rfl ?_; intro K hK
            refine ow_call Tryd.func46 rfl rfl (evs_cons (tmS rfl rfl) <| evs_nil) (rsum_of_c sz _ _ (l.take sz) _ (viewV hS.ok 0 rfl) (htl (by omega)) (hb.take sz) (by omega)) ?_
            rintro e w ⟨rfl, hk⟩
            refine ⟨_, rfl, ?_⟩
            replace hS := hS.kept hk
            clear hk
            have hfb := foldN_bd (psum (l.take sz) sz)
            refine hK _ _ ?_; clear hK K
            refine wl_v (x_neq (tmI rfl rfl) (ev_cN 0)) ?_
            refine wl_nil ?_
            refine then_n (hK58 _ _ ?_); clear hK58 K58
            refine cnds (tm rfl) (fun hc4 => ?_) (fun hc4 => ?_)
            · exfalso
              simp only [nrm] at hc4
              have hc5 : SumOk l sz := by unfold SumOk; omega
              cases h with
              | short _ => omega
              | form h1 h2 => omega
              | cut hf h2 => obtain ⟨a1, a2, a3, a4, a5, a6, a7⟩ := hf; omega
              | sum hf h2 h3 =>
                obtain ⟨a1, a2, a3, a4, a5, a6, a7⟩ := hf
                obtain rfl : sz = _ := hsz.symm.trans a3
                exact h3 hc5
            all_goals
             try simp only [nrm] at hc4
             refine wp_seq_k ?_; intro K59 hK59
             refine wlit ?_
             refine wl_v (x_build (bc_skip (.int .u8 0) <| bc_skip (.int .i64 0) <| bc_skip (.int .u16 0) <| bc_skip (.bool false) <| bc_skip (.bool false) <| bc_skip (.int .i64 0) <| bc_skip (.int .u8 0) <| bc_skip (.int .u8 0) <| bc_skip (.int .u16 0) <| bc_skipL [.bool false, .int .u64 0, .int .u64 0] <| bc_skipL [.bool false, .int .u64 0, .int .u64 0] <| bc_skip (.slice none 0 0) <| bc_nil) (by kernel_rfl)) ?_
             refine wl_e rfl ?_; intro K hK
             refine ow_storeA hS 2 rfl ts_99 (tmP rfl rfl) (tmA rfl rfl) rfl rfl rfl ?_
             clear hS; intro w hS
             try replace hS := St.nm (M' := [.vw _ _, .blk _ _ [_, _, _, _, _, _, _, _, _, _, _, _, _, _, _, _], .blk _ _ [_, _, _, _, _, _, _, _, _, _, _, _, _, _, _, _], .vw _ _]) hS rfl
             refine hK _ _ ?_; clear hK K
             refine wl_v (x_assign ev_c) ?_
             refine wl_v (x_assign (ev_cN 22)) ?_
             refine wl_nil ?_
             refine then_n (hK59 _ _ ?_); clear hK59 K59
             refine wp_ret ?_
             refine then_r ?_
             refine ret3 rfl (.cell rfl rfl (load_rowB (cs := [_, _, _, _, _, _, _, _, _, _, _, _, _, _, _, _]) hS.ok 2 rfl Tryd.underlying99 rfl ts_99 rfl)) (.tmp rfl (show _ = Value.slice _ _ _ from rfl)) (.tmp rfl (show _ = Value.int _ _ from rfl)) ?_
             cases h with
             | short _ => omega
             | form h1 h2 => first | exact ⟨rfl, hS.kp⟩ | omega
             | cut hf h2 =>
               obtain ⟨a1, a2, a3, a4, a5, a6, a7⟩ := hf
               first | exact ⟨rfl, hS.kp⟩ | (exfalso; omega)
             | sum hf h2 h3 =>
               obtain ⟨a1, a2, a3, a4, a5, a6, a7⟩ := hf
               first | exact ⟨rfl, hS.kp⟩ | (exfalso; omega)
     · intro K hK
       refine ow_alloc hS tz_99 rfl ?_
       clear hS; intro g7_30 w hg7_30 hS
       refine hK _ _ ?_; clear hK K
       refine rg_step 4 rfl (by kernel_rfl) (want_0) (oks_drop hS 1 rfl) ?_; intro K hK
       refine ow_call Tryd.func45 rfl rfl (evs_cons (tmS rfl rfl) <| evs_cons (ev_cN 2) <| evs_cons (ev_cN 2) <| evs_nil) (get_c n _ c l _ _ _ (viewV hS.ok 2 rfl) hl hc hn4 hb (by omega) (by omega)) ?_
       rintro e w ⟨rfl, hk⟩
       refine ⟨_, rfl, ?_⟩
       replace hS := hS.kept hk
       clear hk
       refine hK _ _ ?_; clear hK K
       refine rg_take 5 rfl rfl (by kernel_rfl) (by kernel_rfl) (by kernel_rfl) (want_0) (fun w hok => x_convN Tryd.underlying24 Tryd.underlying3 (tmI rfl (congrArg (fun q : Nat => Value.int .u64 (q : Int)) hle)) (fit_i64 (by omega))) ?_
       refine rg_step 7 rfl (by kernel_rfl) (want_0) (oks_drop hS 1 rfl) ?_; intro K hK
       refine ow_call Tryd.func45 rfl rfl (evs_cons (tmS rfl rfl) <| evs_cons (ev_cN 4) <| evs_cons (ev_cN 2) <| evs_nil) (get_c n _ c l _ _ _ (viewV hS.ok 2 rfl) hl hc hn4 hb (by omega) (by omega)) ?_
       rintro e w ⟨rfl, hk⟩
       refine ⟨_, rfl, ?_⟩
       replace hS := hS.kept hk
       clear hk
       refine hK _ _ ?_; clear hK K
       refine rg_take 8 rfl rfl (by kernel_rfl) (by kernel_rfl) (by kernel_rfl) (want_0) (fun w hok => x_convN Tryd.underlying24 Tryd.underlying27 (tmI rfl rfl) (fit_u16 (by omega))) ?_
       refine rg_step 27 rfl (by kernel_rfl) (want_0) (oks_drop hS 1 rfl) ?_; intro K hK
       refine ow_call Tryd.func45 rfl rfl (evs_cons (tmS rfl rfl) <| evs_cons (ev_cN 10) <| evs_cons (ev_cN 2) <| evs_nil) (get_c n _ c l _ _ _ (viewV hS.ok 2 rfl) hl hc hn4 hb (by omega) (by omega)) ?_
       rintro e w ⟨rfl, hk⟩
       refine ⟨_, rfl, ?_⟩
       replace hS := hS.kept hk
       clear hk
       refine hK _ _ ?_; clear hK K
       refine rg_take 28 rfl rfl (by kernel_rfl) (by kernel_rfl) (by kernel_rfl) (want_0) (fun w hok => x_convN Tryd.underlying24 Tryd.underlying27 (tmI rfl rfl) (fit_u16 (by omega))) ?_
       refine rg_take 29 rfl rfl (by kernel_rfl) (by kernel_rfl) (by kernel_rfl) (want_0) (fun w hok => x_build (bc_take (tmI rfl rfl) <| bc_take (tmI rfl rfl) <| bc_take (tmI rfl rfl) <| bc_take (tmB rfl rfl) <| bc_take (tmB rfl rfl) <| bc_take (tmI rfl rfl) <| bc_take (tmI rfl rfl) <| bc_take (tmI rfl rfl) <| bc_take (tmI rfl rfl) <| bc_skipL [.bool false, .int .u64 0, .int .u64 0] <| bc_skipL [.bool false, .int .u64 0, .int .u64 0] <| bc_skip (.slice none 0 0) <| bc_nil) (by kernel_rfl)) ?_
       refine rg_step 31 rfl (by kernel_rfl) (want_0) (oks_drop hS 1 rfl) ?_; intro K hK
       refine ow_storeA hS 0 rfl ts_99 (tmP rfl rfl) (tmA rfl rfl) rfl rfl rfl ?_
       clear hS; intro w hS
       try replace hS := St.nm (M' := [.blk _ _ [_, _, _, _, _, _, _, _, _, _, _, _, _, _, _, _], .blk _ _ [_, _, _, _, _, _, _, _, _, _, _, _, _, _, _, _], .vw _ _]) hS rfl
       refine hK _ _ ?_; clear hK K
       refine rg_done (oks_drop hS 1 rfl) (by kernel_rfl) ?_
       refine then_n (hK12 _ _ ?_); clear hK12 K12
       refine wp_seq_k ?_; intro K61 hK61
       refine wlit ?_
       refine wl_v (x_move (tmS rfl rfl)) ?_
       refine wl_e rfl ?_; intro K hK
       refine ow_call Tryd.func45 rfl rfl (evs_cons (tmS rfl rfl) <| evs_cons (ev_cN 12) <| evs_cons (ev_cN 4) <| evs_nil) (get_c n _ c l _ _ _ (viewV hS.ok 2 rfl) hl hc hn4 hb (by omega) (by omega)) ?_
       rintro e w ⟨rfl, hk⟩
       refine ⟨_, rfl, ?_⟩
       replace hS := hS.kept hk
       clear hk
       refine hK _ _ ?_; clear hK K
       refine wl_v (x_build (bc_skip (.bool false) <| bc_skip (.int .u64 0) <| bc_take (tmI rfl rfl) <| bc_nil) (by kernel_rfl)) ?_
       refine wl_v (x_fa 9 Tryd.underlying99 rfl rfl ts_26 (tmP rfl rfl)) ?_
       refine wl_e rfl ?_; intro K hK
       refine ow_storeA hS 0 rfl ts_26 (tmP rfl rfl) (tmA rfl rfl) rfl rfl rfl ?_
       clear hS; intro w hS
       try replace hS := St.nm (M' := [.blk _ _ [_, _, _, _, _, _, _, _, _, _, _, _, _, _, _, _], .blk _ _ [_, _, _, _, _, _, _, _, _, _, _, _, _, _, _, _], .vw _ _]) hS rfl
       refine hK _ _ ?_; clear hK K
       refine wl_nil ?_
       refine then_n (hK61 _ _ ?_); clear hK61 K61
       refine wp_seq_k ?_; intro K62 hK62
       refine wlit ?_
       refine wl_v (x_move (tmS rfl rfl)) ?_
       refine wl_e rfl ?_; intro K hK
       refine ow_call Tryd.func45 rfl rfl (evs_cons (tmS rfl rfl) <| evs_cons (ev_cN 16) <| evs_cons (ev_cN 4) <| evs_nil) (get_c n _ c l _ _ _ (viewV hS.ok 2 rfl) hl hc hn4 hb (by omega) (by omega)) ?_
       rintro e w ⟨rfl, hk⟩
       refine ⟨_, rfl, ?_⟩
       replace hS := hS.kept hk
       clear hk
       refine hK _ _ ?_; clear hK K
       refine wl_v (x_build (bc_skip (.bool false) <| bc_skip (.int .u64 0) <| bc_take (tmI rfl rfl) <| bc_nil) (by kernel_rfl)) ?_
       refine wl_v (x_fa 12 Tryd.underlying99 rfl rfl ts_26 (tmP rfl rfl)) ?_
       refine wl_e rfl ?_; intro K hK
       refine ow_storeA hS 0 rfl ts_26 (tmP rfl rfl) (tmA rfl rfl) rfl rfl rfl ?_
       clear hS; intro w hS
       try replace hS := St.nm (M' := [.blk _ _ [_, _, _, _, _, _, _, _, _, _, _, _, _, _, _, _], .blk _ _ [_, _, _, _, _, _, _, _, _, _, _, _, _, _, _, _], .vw _ _]) hS rfl
       refine hK _ _ ?_; clear hK K
       refine wl_nil ?_
       refine then_n (hK62 _ _ ?_); clear hK62 K62
       refine wp_seq_k ?_; intro K63 hK63
       refine wp_seq_k ?_; intro K64 hK64
       refine wlit ?_
       refine wl_v (x_move (tmI rfl rfl)) ?_
       refine wl_v (x_gtr (tmI rfl rfl) (ev_cN 32767)) ?_
       refine wl_v (x_move (tmB rfl rfl)) ?_
       refine gs_wl (tm (t := 70) rfl) (fun hg10_2 => ?_) (fun hg10_2 => ?_)
       · have hg10_2' := hg10_2; (try simp only [nrm] at hg10_2')
         all_goals
          refine wl_s rfl (want_n rfl rfl rfl rfl (by rw [hg10_2]; rfl)) ?_
          refine wl_s rfl (want_n rfl rfl rfl rfl (by rw [hg10_2]; rfl)) ?_
          refine wl_s rfl (want_n rfl rfl rfl rfl (by rw [hg10_2]; rfl)) ?_
          refine wl_s rfl (want_n rfl rfl rfl rfl (by rw [hg10_2]; rfl)) ?_
          refine wl_v (x_pickT (tmB rfl rfl) hg10_2 ev_c) ?_
          refine wl_nil ?_
          refine then_n (hK64 _ _ ?_); clear hK64 K64
          refine cnd_t (tmB rfl rfl) rfl ?_
          refine wp_seq_k ?_; intro K65 hK65
          refine wlit ?_
          refine wl_v (x_build (bc_skip (.int .u8 0) <| bc_skip (.int .i64 0) <| bc_skip (.int .u16 0) <| bc_skip (.bool false) <| bc_skip (.bool false) <| bc_skip (.int .i64 0) <| bc_skip (.int .u8 0) <| bc_skip (.int .u8 0) <| bc_skip (.int .u16 0) <| bc_skipL [.bool false, .int .u64 0, .int .u64 0] <| bc_skipL [.bool false, .int .u64 0, .int .u64 0] <| bc_skip (.slice none 0 0) <| bc_nil) (by kernel_rfl)) ?_
          refine wl_e rfl ?_; intro K hK
          refine ow_storeA hS 1 rfl ts_99 (tmP rfl rfl) (tmA rfl rfl) rfl rfl rfl ?_
          clear hS; intro w hS
          try replace hS := St.nm (M' := [.blk _ _ [_, _, _, _, _, _, _, _, _, _, _, _, _, _, _, _], .blk _ _ [_, _, _, _, _, _, _, _, _, _, _, _, _, _, _, _], .vw _ _]) hS rfl
          refine hK _ _ ?_; clear hK K
          refine wl_v (x_assign ev_c) ?_
          refine wl_v (x_assign (ev_cN 21)) ?_
          refine wl_nil ?_
          refine then_n (hK65 _ _ ?_); clear hK65 K65
          refine wp_ret ?_
          refine then_r ?_
          refine ret3 rfl (.cell rfl rfl (load_rowB (cs := [_, _, _, _, _, _, _, _, _, _, _, _, _, _, _, _]) hS.ok 1 rfl Tryd.underlying99 rfl ts_99 rfl)) (.tmp rfl (show _ = Value.slice _ _ _ from rfl)) (.tmp rfl (show _ = Value.int _ _ from rfl)) ?_
          cases h with
          | short _ => omega
          | form h1 h2 => first | exact ⟨rfl, hS.kp⟩ | omega
          | cut hf h2 =>
            obtain ⟨a1, a2, a3, a4, a5, a6, a7⟩ := hf
            first | exact ⟨rfl, hS.kp⟩ | (exfalso; omega)
          | sum hf h2 h3 =>
            obtain ⟨a1, a2, a3, a4, a5, a6, a7⟩ := hf
            first | exact ⟨rfl, hS.kp⟩ | (exfalso; omega)
       have hg10_2' := hg10_2; (try simp only [nrm] at hg10_2')
       all_goals
        refine wl_gv (want_y rfl rfl rfl rfl (by rw [hg10_2]; rfl)) (x_fa 1 Tryd.underlying99 rfl rfl ts_3 (tmP rfl rfl)) ?_
        refine wl_gv (want_y rfl rfl rfl rfl (by rw [hg10_2]; rfl)) (x_load Tryd.underlying3 rfl (tmP rfl rfl) (cellB hS.ok 0 rfl rfl)) ?_
        refine wl_gv (want_y rfl rfl rfl rfl (by rw [hg10_2]; rfl)) (x_move (tmI rfl rfl)) ?_
        refine wl_gv (want_y rfl rfl rfl rfl (by rw [hg10_2]; rfl)) (x_lss (tmI rfl rfl) (tmI rfl rfl)) ?_
        refine wl_v (x_pickF (tmB rfl rfl) hg10_2 (tmB rfl rfl)) ?_
        refine wl_nil ?_
        refine then_n (hK64 _ _ ?_); clear hK64 K64
        refine cnd (tm rfl) (fun hc2 => ?_) (fun hc2 => ?_)
        · skip
          all_goals
           try simp only [nrm] at hc2
           refine wp_seq_k ?_; intro K67 hK67
           refine wlit ?_
           refine wl_v (x_build (bc_skip (.int .u8 0) <| bc_skip (.int .i64 0) <| bc_skip (.int .u16 0) <| bc_skip (.bool false) <| bc_skip (.bool false) <| bc_skip (.int .i64 0) <| bc_skip (.int .u8 0) <| bc_skip (.int .u8 0) <| bc_skip (.int .u16 0) <| bc_skipL [.bool false, .int .u64 0, .int .u64 0] <| bc_skipL [.bool false, .int .u64 0, .int .u64 0] <| bc_skip (.slice none 0 0) <| bc_nil) (by kernel_rfl)) ?_
           refine wl_e rfl ?_; intro K hK
           refine ow_storeA hS 1 rfl ts_99 (tmP rfl rfl) (tmA rfl rfl) rfl rfl rfl ?_
           clear hS; intro w hS
           try replace hS := St.nm (M' := [.blk _ _ [_, _, _, _, _, _, _, _, _, _, _, _, _, _, _, _], .blk _ _ [_, _, _, _, _, _, _, _, _, _, _, _, _, _, _, _], .vw _ _]) hS rfl
           refine hK _ _ ?_; clear hK K
           refine wl_v (x_assign ev_c) ?_
           refine wl_v (x_assign (ev_cN 21)) ?_
           refine wl_nil ?_
           refine then_n (hK67 _ _ ?_); clear hK67 K67
           refine wp_ret ?_
           refine then_r ?_
           refine ret3 rfl (.cell rfl rfl (load_rowB (cs := [_, _, _, _, _, _, _, _, _, _, _, _, _, _, _, _]) hS.ok 1 rfl Tryd.underlying99 rfl ts_99 rfl)) (.tmp rfl (show _ = Value.slice _ _ _ from rfl)) (.tmp rfl (show _ = Value.int _ _ from rfl)) ?_
           cases h with
           | short _ => omega
           | form h1 h2 => first | exact ⟨rfl, hS.kp⟩ | omega
           | cut hf h2 =>
             obtain ⟨a1, a2, a3, a4, a5, a6, a7⟩ := hf
             first | exact ⟨rfl, hS.kp⟩ | (exfalso; omega)
           | sum hf h2 h3 =>
             obtain ⟨a1, a2, a3, a4, a5, a6, a7⟩ := hf
             first | exact ⟨rfl, hS.kp⟩ | (exfalso; omega)
        all_goals
         try simp only [nrm] at hc2
         refine wp_skip ?_
         refine then_n (hK63 _ _ ?_); clear hK63 K63
         refine wp_seq_k ?_; intro K69 hK69
         refine wp_seq_k ?_; intro K70 hK70
         refine wlit ?_
         refine wl_v (x_move (tmS rfl rfl)) ?_
         refine wl_v (x_len Tryd.underlying22 (tmS rfl rfl)) ?_
         refine wl_v (x_fa 1 Tryd.underlying99 rfl rfl ts_3 (tmP rfl rfl)) ?_
         refine wl_v (x_load Tryd.underlying3 rfl (tmP rfl rfl) (cellB hS.ok 0 rfl rfl)) ?_
         refine wl_v (x_lss (tmI rfl rfl) (tmI rfl rfl)) ?_
         refine wl_nil ?_
         refine then_n (hK70 _ _ ?_); clear hK70 K70
         refine cnd (tm rfl) (fun hc3 => ?_) (fun hc3 => ?_)
         · skip
           all_goals
            try simp only [nrm] at hc3
            refine wp_seq_k ?_; intro K71 hK71
            refine wlit ?_
            refine wl_v (x_build (bc_skip (.int .u8 0) <| bc_skip (.int .i64 0) <| bc_skip (.int .u16 0) <| bc_skip (.bool false) <| bc_skip (.bool false) <| bc_skip (.int .i64 0) <| bc_skip (.int .u8 0) <| bc_skip (.int .u8 0) <| bc_skip (.int .u16 0) <| bc_skipL [.bool false, .int .u64 0, .int .u64 0] <| bc_skipL [.bool false, .int .u64 0, .int .u64 0] <| bc_skip (.slice none 0 0) <| bc_nil) (by kernel_rfl)) ?_
            refine wl_e rfl ?_; intro K hK
            refine ow_storeA hS 1 rfl ts_99 (tmP rfl rfl) (tmA rfl rfl) rfl rfl rfl ?_
            clear hS; intro w hS
            try replace hS := St.nm (M' := [.blk _ _ [_, _, _, _, _, _, _, _, _, _, _, _, _, _, _, _], .blk _ _ [_, _, _, _, _, _, _, _, _, _, _, _, _, _, _, _], .vw _ _]) hS rfl
            refine hK _ _ ?_; clear hK K
            refine wl_v (x_assign ev_c) ?_
            refine wl_v (x_assign (ev_cN 20)) ?_
            refine wl_nil ?_
            refine then_n (hK71 _ _ ?_); clear hK71 K71
            refine wp_ret ?_
            refine then_r ?_
            refine ret3 rfl (.cell rfl rfl (load_rowB (cs := [_, _, _, _, _, _, _, _, _, _, _, _, _, _, _, _]) hS.ok 1 rfl Tryd.underlying99 rfl ts_99 rfl)) (.tmp rfl (show _ = Value.slice _ _ _ from rfl)) (.tmp rfl (show _ = Value.int _ _ from rfl)) ?_
            cases h with
            | short _ => omega
            | form h1 h2 => first | exact ⟨rfl, hS.kp⟩ | omega
            | cut hf h2 =>
              obtain ⟨a1, a2, a3, a4, a5, a6, a7⟩ := hf
              first | exact ⟨rfl, hS.kp⟩ | (exfalso; omega)
            | sum hf h2 h3 =>
              obtain ⟨a1, a2, a3, a4, a5, a6, a7⟩ := hf
              first | exact ⟨rfl, hS.kp⟩ | (exfalso; omega)
         all_goals
          try simp only [nrm] at hc3
          refine wp_skip ?_
          refine then_n (hK69 _ _ ?_); clear hK69 K69
          refine wp_seq_k ?_; intro K73 hK73
          refine wp_seq_k ?_; intro K74 hK74
          refine wlit ?_
          refine wl_v (x_move (tmS rfl rfl)) ?_
          refine wl_v (x_move (tmI rfl rfl)) ?_
          refine wl_v (x_sliceH Tryd.underlying22 ts_5 (tmS rfl rfl) (tmI rfl rfl) (by omega)) ?_
          replace hS := hS.cutb 2 0 sz rfl (by omega : l.length ≤ c)
          refine wl_e rfl ?_; intro K hK
          refine ow_call Tryd.func46 rfl rfl (evs_cons (tmS rfl rfl) <| evs_nil) (rsum_of_c sz _ _ (l.take sz) _ (viewV hS.ok 0 rfl) (htl (by omega)) (hb.take sz) (by omega)) ?_
          rintro e w ⟨rfl, hk⟩
          refine ⟨_, rfl, ?_⟩
          replace hS := hS.kept hk
          clear hk
          have hfb := foldN_bd (psum (l.take sz) sz)
          refine hK _ _ ?_; clear hK K
          refine wl_v (x_neq (tmI rfl rfl) (ev_cN 0)) ?_
          refine wl_nil ?_
          refine then_n (hK74 _ _ ?_); clear hK74 K74
          refine cnds (tm rfl) (fun hc4 => ?_) (fun hc4 => ?_)
          · exfalso
            simp only [nrm] at hc4
            have hc5 : SumOk l sz := by unfold SumOk; omega
            cases h with
            | short _ => omega
            | form h1 h2 => omega
            | cut hf h2 => obtain ⟨a1, a2, a3, a4, a5, a6, a7⟩ := hf; omega
            | sum hf h2 h3 =>
              obtain ⟨a1, a2, a3, a4, a5, a6, a7⟩ := hf
              obtain rfl : sz = _ := hsz.symm.trans a3
              exact h3 hc5
          all_goals
           try simp only [nrm] at hc4
           refine wp_seq_k ?_; intro K75 hK75
           refine wlit ?_
           refine wl_v (x_build (bc_skip (.int .u8 0) <| bc_skip (.int .i64 0) <| bc_skip (.int .u16 0) <| bc_skip (.bool false) <| bc_skip (.bool false) <| bc_skip (.int .i64 0) <| bc_skip (.int .u8 0) <| bc_skip (.int .u8 0) <| bc_skip (.int .u16 0) <| bc_skipL [.bool false, .int .u64 0, .int .u64 0] <| bc_skipL [.bool false, .int .u64 0, .int .u64 0] <| bc_skip (.slice none 0 0) <| bc_nil) (by kernel_rfl)) ?_
           refine wl_e rfl ?_; intro K hK
           refine ow_storeA hS 2 rfl ts_99 (tmP rfl rfl) (tmA rfl rfl) rfl rfl rfl ?_
           clear hS; intro w hS
           try replace hS := St.nm (M' := [.vw _ _, .blk _ _ [_, _, _, _, _, _, _, _, _, _, _, _, _, _, _, _], .blk _ _ [_, _, _, _, _, _, _, _, _, _, _, _, _, _, _, _], .vw _ _]) hS rfl
           refine hK _ _ ?_; clear hK K
           refine wl_v (x_assign ev_c) ?_
           refine wl_v (x_assign (ev_cN 22)) ?_
           refine wl_nil ?_
           refine then_n (hK75 _ _ ?_); clear hK75 K75
           refine wp_ret ?_
           refine then_r ?_
           refine ret3 rfl (.cell rfl rfl (load_rowB (cs := [_, _, _, _, _, _, _, _, _, _, _, _, _, _, _, _]) hS.ok 2 rfl Tryd.underlying99 rfl ts_99 rfl)) (.tmp rfl (show _ = Value.slice _ _ _ from rfl)) (.tmp rfl (show _ = Value.int _ _ from rfl)) ?_
           cases h with
           | short _ => omega
           | form h1 h2 => first | exact ⟨rfl, hS.kp⟩ | omega
           | cut hf h2 =>
             obtain ⟨a1, a2, a3, a4, a5, a6, a7⟩ := hf
             first | exact ⟨rfl, hS.kp⟩ | (exfalso; omega)
           | sum hf h2 h3 =>
             obtain ⟨a1, a2, a3, a4, a5, a6, a7⟩ := hf
             first | exact ⟨rfl, hS.kp⟩ | (exfalso; omega)
end Go.Proofs.YtmekadkmmddocaaDoor
