/- udp: Parse and the reference's, the law's is and awake, by contract. Conditions: none but bounds. -/
import Derived.Test.YtmekadkmmddocaaDoorRd
namespace Go.Proofs.YtmekadkmmddocaaDoor
open Go.RowKit

def datV (sp dp sum : Nat) (L : Option Addr) (k d : Nat) : List Value := [.int .u16 (sp : Int), .int .u16 (dp : Int), .int .u16 (sum : Int), .slice L k d]

set_option maxRecDepth 100000 in
set_option maxHeartbeats 4000000 in
theorem udp_parse_c (n : Nat) (A : Option Addr) (c : Nat) (l : List Nat) (w0 : World) (hv : View w0 w0.heap.size A (l.map u8v)) (hl : l.length = n) (hb : Bytes l) (hn4 : n ≤ 1000000)
    (sz : Nat) (hsz : sz = getN l 4 2) (h0 : 8 ≤ n) (h1 : 8 ≤ sz) (h3 : sz ≤ n) :
    Calls Tryd.prog 93 #[.slice A n c] w0 fun e w' => ∃ L, e = .returned (.tuple #[.agg (datV (getN l 0 2) (getN l 2 2) (getN l 6 2) L (sz - 8) (sz - 8)).toArray, .int .i64 0]) ∧ NewV w0 w' L (((l.drop 8).take (sz - 8)).map u8v) ∧ Kp [] w0 w' := by
  have hS := (St.sv w0).vcons rfl hv
  have hz : getN l (0 + 2 + 2) 2 = sz := hsz.symm
  refine ent (n := 38) Tryd.func93 rfl rfl ?_
  refine wp_seq_k ?_; intro K1 hK1
  refine wlit ?_
  refine wl_e rfl ?_; intro K hK
  refine ow_alloc hS tz_34 rfl ?_
  clear hS; intro g0_0 w hg0_0 hS
  refine hK _ _ ?_; clear hK K
  refine wl_v (x_assign (ev_cN 0)) ?_
  refine wl_nil ?_
  refine then_n (hK1 _ _ ?_); clear hK1 K1
  refine wp_seq_k ?_; intro K2 hK2
  refine wp_seq_k ?_; intro K3 hK3
  refine wlit ?_
  refine wl_v (x_move (tmS rfl rfl)) ?_
  refine wl_v (x_len Tryd.underlying22 (tmS rfl rfl)) ?_
  refine wl_v (x_lss (tmI rfl rfl) (ev_cN 8)) ?_
  refine wl_nil ?_
  refine then_n (hK3 _ _ ?_); clear hK3 K3
  refine cnd (tm rfl) (fun hc0 => ?_) (fun hc0 => ?_)
  · exfalso
    simp only [nrm] at hc0
    omega
  all_goals
   try simp only [nrm] at hc0
   refine wp_skip ?_
   refine then_n (hK2 _ _ ?_); clear hK2 K2
   refine wp_seq_k ?_; intro K4 hK4
   refine wlit ?_
   refine wl_v (x_move (tmS rfl rfl)) ?_
   refine wl_e rfl ?_; intro K hK
   refine ow_call Tryd.func52 rfl rfl (evs_cons (tmS rfl rfl) <| evs_nil) (read_c n A c l _ (viewV hS.ok 1 rfl) hl hn4) ?_
   rintro e w ⟨gr, A0, rfl, hS2⟩
   refine ⟨_, rfl, ?_⟩
   replace hS := hS.adds hS2 rfl -- +gr,rowb
   clear hS2
   have hA : Off A0 0 n A0 := off_zero
   have hcp : n - 0 ≤ n := by omega
   refine hK _ _ ?_; clear hK K
   refine wl_v (x_assign (tmP rfl rfl)) ?_
   refine wl_nil ?_
   refine then_n (hK4 _ _ ?_); clear hK4 K4
   refine wp_seq_k ?_; intro K5 hK5
   refine wlit ?_
   refine wl_v (x_move (tmP rfl rfl)) ?_
   refine wl_e rfl ?_; intro K hK
   refine ow_call Tryd.func54 rfl rfl (evs_cons (tmP rfl rfl) <| evs_nil) (word_c gr A0 _ _ n _ l false _ _ (hS.enter [0] [1] rfl rfl) hA (by omega) hcp hl hb) ?_
   rintro e w ⟨A1, c1, rfl, hS2, hA, hcp⟩
   refine ⟨_, rfl, ?_⟩
   replace hS := hS.turn 0 rfl rfl hS2 rfl
   clear hS2
   try replace hS := St.nm (M' := [_, .row _ _ _ _ _, .blk _ _ [_, _, _, _], .vw _ _]) hS rfl
   refine hK _ _ ?_; clear hK K
   refine wl_v (x_move (tmP rfl rfl)) ?_
   refine wl_e rfl ?_; intro K hK
   refine ow_call Tryd.func54 rfl rfl (evs_cons (tmP rfl rfl) <| evs_nil) (word_c gr A0 _ _ n _ l false _ _ (hS.enter [0] [1] rfl rfl) hA (by omega) hcp hl hb) ?_
   rintro e w ⟨A1, c1, rfl, hS2, hA, hcp⟩
   refine ⟨_, rfl, ?_⟩
   replace hS := hS.turn 0 rfl rfl hS2 rfl
   clear hS2
   try replace hS := St.nm (M' := [_, .row _ _ _ _ _, .blk _ _ [_, _, _, _], .vw _ _]) hS rfl
   refine hK _ _ ?_; clear hK K
   refine wl_v (x_build (bc_take (tmI rfl rfl) <| bc_take (tmI rfl rfl) <| bc_skip (.int .u16 0) <| bc_skip (.slice none 0 0) <| bc_nil) (by kernel_rfl)) ?_
   refine wl_e rfl ?_; intro K hK
   refine ow_alloc hS tz_34 rfl ?_
   clear hS; intro g4_5 w hg4_5 hS
   refine hK _ _ ?_; clear hK K
   refine wl_e rfl ?_; intro K hK
   refine ow_storeA hS 0 rfl ts_34 (tmP rfl rfl) (tmA rfl rfl) rfl rfl rfl ?_
   clear hS; intro w hS
   try replace hS := St.nm (M' := [.blk _ _ [_, _, _, _], _, .row _ _ _ _ _, .blk _ _ [_, _, _, _], .vw _ _]) hS rfl
   refine hK _ _ ?_; clear hK K
   refine wl_nil ?_
   refine then_n (hK5 _ _ ?_); clear hK5 K5
   refine wp_seq_k ?_; intro K6 hK6
   refine wlit ?_
   refine wl_v (x_move (tmP rfl rfl)) ?_
   refine wl_e rfl ?_; intro K hK
   refine ow_call Tryd.func54 rfl rfl (evs_cons (tmP rfl rfl) <| evs_nil) (word_c gr A0 _ _ n _ l false _ _ (hS.enter [1] [2] rfl rfl) hA (by omega) hcp hl hb) ?_
   rintro e w ⟨A1, c1, rfl, hS2, hA, hcp⟩
   refine ⟨_, rfl, ?_⟩
   replace hS := hS.turn 1 rfl rfl hS2 rfl
   clear hS2
   try replace hS := St.nm (M' := [.blk _ _ [_, _, _, _], _, .row _ _ _ _ _, .blk _ _ [_, _, _, _], .vw _ _]) hS rfl
   refine hK _ _ ?_; clear hK K
   refine wl_v (x_convN Tryd.underlying27 Tryd.underlying3 (tmI rfl rfl) (fit_i64 (by omega))) ?_
   refine wl_v (x_assign (tmI rfl (congrArg (fun q : Nat => Value.int .i64 (q : Int)) hz))) ?_
   refine wl_nil ?_
   refine then_n (hK6 _ _ ?_); clear hK6 K6
   refine wp_seq_k ?_; intro K7 hK7
   refine wp_seq_k ?_; intro K8 hK8
   refine wlit ?_
   refine wl_v (x_move (tmI rfl rfl)) ?_
   refine wl_v (x_lss (tmI rfl rfl) (ev_cN 8)) ?_
   refine wl_nil ?_
   refine then_n (hK8 _ _ ?_); clear hK8 K8
   refine cnd (tm rfl) (fun hc1 => ?_) (fun hc1 => ?_)
   · exfalso
     simp only [nrm] at hc1
     omega
   all_goals
    try simp only [nrm] at hc1
    refine wp_skip ?_
    refine then_n (hK7 _ _ ?_); clear hK7 K7
    refine wp_seq_k ?_; intro K9 hK9
    refine wp_seq_k ?_; intro K10 hK10
    refine wlit ?_
    refine wl_v (x_move (tmI rfl rfl)) ?_
    refine wl_v (x_move (tmS rfl rfl)) ?_
    refine wl_v (x_len Tryd.underlying22 (tmS rfl rfl)) ?_
    refine wl_v (x_gtr (tmI rfl rfl) (tmI rfl rfl)) ?_
    refine wl_nil ?_
    refine then_n (hK10 _ _ ?_); clear hK10 K10
    refine cnd (tm rfl) (fun hc2 => ?_) (fun hc2 => ?_)
    · exfalso
      simp only [nrm] at hc2
      omega
    all_goals
     try simp only [nrm] at hc2
     refine wp_skip ?_
     refine then_n (hK9 _ _ ?_); clear hK9 K9
     refine wp_seq_k ?_; intro K11 hK11
     refine wlit ?_
     refine wl_v (x_move (tmP rfl rfl)) ?_
     refine wl_e rfl ?_; intro K hK
     refine ow_call Tryd.func54 rfl rfl (evs_cons (tmP rfl rfl) <| evs_nil) (word_c gr A0 _ _ n _ l false _ _ (hS.enter [1] [2] rfl rfl) hA (by omega) hcp hl hb) ?_
     rintro e w ⟨A1, c1, rfl, hS2, hA, hcp⟩
     refine ⟨_, rfl, ?_⟩
     replace hS := hS.turn 1 rfl rfl hS2 rfl
     clear hS2
     try replace hS := St.nm (M' := [.blk _ _ [_, _, _, _], _, .row _ _ _ _ _, .blk _ _ [_, _, _, _], .vw _ _]) hS rfl
     refine hK _ _ ?_; clear hK K
     refine wl_v (x_fa 2 Tryd.underlying34 rfl rfl ts_27 (tmP rfl rfl)) ?_
     refine wl_e rfl ?_; intro K hK
     refine ow_store hS 0 rfl ts_27 (tmP rfl rfl) (tmI rfl rfl) rfl rfl ?_
     clear hS; intro w hS
     try replace hS := St.nm (M' := [.blk _ _ [_, _, _, _], _, .row _ _ _ _ _, .blk _ _ [_, _, _, _], .vw _ _]) hS rfl
     refine hK _ _ ?_; clear hK K
     refine wl_nil ?_
     refine then_n (hK11 _ _ ?_); clear hK11 K11
     refine wp_seq_k ?_; intro K12 hK12
     refine wlit ?_
     refine wl_v (x_move (tmP rfl rfl)) ?_
     refine wl_v (x_move (tmI rfl rfl)) ?_
     refine wl_v (x_subN (tmI rfl rfl) (ev_cN 8) (fit_i64 (by omega)) (by omega)) ?_
     refine wl_e rfl ?_; intro K hK
     refine ow_call Tryd.func57 rfl rfl (evs_cons (tmP rfl rfl) <| evs_cons (tmI rfl rfl) <| evs_nil) (bytes_c gr A0 A1 _ (sz - 8) n _ l false _ _ (hS.enter [1] [2] rfl rfl) hA (by omega) hcp) ?_
     rintro e w ⟨A2, c2, rfl, hS2, hA2, hcp2⟩
     refine ⟨_, rfl, ?_⟩
     replace hS := hS.turn 1 rfl rfl hS2 rfl
     clear hS2
     try replace hS := St.nm (M' := [.blk _ _ [_, _, _, _], _, .row _ _ _ _ _, .blk _ _ [_, _, _, _], .vw _ _]) hS rfl
     refine hK _ _ ?_; clear hK K
     refine wl_v (x_fa 3 Tryd.underlying34 rfl rfl ts_22 (tmP rfl rfl)) ?_
     refine wl_e rfl ?_; intro K hK
     refine ow_store hS 0 rfl ts_22 (tmP rfl rfl) (tmS rfl rfl) rfl rfl ?_
     clear hS; intro w hS
     try replace hS := St.nm (M' := [.blk _ _ [_, _, _, _], _, .row _ _ _ _ _, .blk _ _ [_, _, _, _], .vw _ _]) hS rfl
     refine hK _ _ ?_; clear hK K
     refine wl_nil ?_
     refine then_n (hK12 _ _ ?_); clear hK12 K12
     refine wp_seq_k ?_; intro K13 hK13
     refine wlit ?_
     refine wl_v (x_loadA (cs := [_, _, _, _]) Tryd.underlying34 rfl ts_34 (tmP rfl rfl) (rangeB hS.ok 0 rfl rfl)) ?_
     refine wl_e rfl ?_; intro K hK
     refine ow_storeA hS 3 rfl ts_34 (tmP rfl rfl) (tmA rfl rfl) rfl rfl rfl ?_
     clear hS; intro w hS
     try replace hS := St.nm (M' := [.blk _ _ [_, _, _, _], _, .row _ _ _ _ _, .blk _ _ [_, _, _, _], .vw _ _]) hS rfl
     refine hK _ _ ?_; clear hK K
     refine wl_v (x_assign (ev_cN 0)) ?_
     refine wl_nil ?_
     refine then_n (hK13 _ _ ?_); clear hK13 K13
     refine wp_ret ?_
     refine ret2 rfl (.cell rfl rfl (load_rowB (cs := [_, _, _, _]) hS.ok 3 rfl Tryd.underlying34 rfl ts_34 rfl)) (.tmp rfl (show _ = Value.int _ _ from rfl)) ?_
     exact ⟨A1, rfl, NewV.offb (hS.newv 2 rfl) hl hA (sz - 8), hS.kp⟩
set_option maxRecDepth 100000 in
set_option maxHeartbeats 4000000 in
theorem udp_parse_bad (n : Nat) (A : Option Addr) (c : Nat) (l : List Nat) (w0 : World) (hv : View w0 w0.heap.size A (l.map u8v)) (hl : l.length = n) (hc : n ≤ c) (hb : Bytes l) (hn4 : n ≤ 1000000)
    (sz er : Nat) (hsz : sz = getN l 4 2) (h : (n < 8 ∧ er = 20) ∨ (8 ≤ n ∧ sz < 8 ∧ er = 21) ∨ (8 ≤ n ∧ 8 ≤ sz ∧ n < sz ∧ er = 20)) :
    Calls Tryd.prog 93 #[.slice A n c] w0 fun e w' => e = .returned (.tuple #[.agg (datV 0 0 0 none 0 0).toArray, .int .i64 (er : Int)]) ∧ Kp [] w0 w' := by
  have hS := (St.sv w0).vcons rfl hv
  have hqb := getN_lt hb 4 2
  have hz : getN l (0 + 2 + 2) 2 = sz := hsz.symm
  by_cases h20 : n < 8
  · skip
    refine ent (n := 38) Tryd.func93 rfl rfl ?_
    refine wp_seq_k ?_; intro K1 hK1
    refine wlit ?_
    refine wl_e rfl ?_; intro K hK
    refine ow_alloc hS tz_34 rfl ?_
    clear hS; intro g0_0 w hg0_0 hS
    refine hK _ _ ?_; clear hK K
    refine wl_v (x_assign (ev_cN 0)) ?_
    refine wl_nil ?_
    refine then_n (hK1 _ _ ?_); clear hK1 K1
    refine wp_seq_k ?_; intro K2 hK2
    refine wp_seq_k ?_; intro K3 hK3
    refine wlit ?_
    refine wl_v (x_move (tmS rfl rfl)) ?_
    refine wl_v (x_len Tryd.underlying22 (tmS rfl rfl)) ?_
    refine wl_v (x_lss (tmI rfl rfl) (ev_cN 8)) ?_
    refine wl_nil ?_
    refine then_n (hK3 _ _ ?_); clear hK3 K3
    refine cnds (tm rfl) (fun hc0 => ?_) (fun hc0 => ?_)
    · exfalso
      simp only [nrm] at hc0
      omega
    all_goals
     try simp only [nrm] at hc0
     refine wp_seq_k ?_; intro K4 hK4
     refine wlit ?_
     refine wl_v (x_build (bc_skip (.int .u16 0) <| bc_skip (.int .u16 0) <| bc_skip (.int .u16 0) <| bc_skip (.slice none 0 0) <| bc_nil) (by kernel_rfl)) ?_
     refine wl_e rfl ?_; intro K hK
     refine ow_storeA hS 0 rfl ts_34 (tmP rfl rfl) (tmA rfl rfl) rfl rfl rfl ?_
     clear hS; intro w hS
     try replace hS := St.nm (M' := [.blk _ _ [_, _, _, _], .vw _ _]) hS rfl
     refine hK _ _ ?_; clear hK K
     refine wl_v (x_assign (ev_cN 20)) ?_
     refine wl_nil ?_
     refine then_n (hK4 _ _ ?_); clear hK4 K4
     refine wp_ret ?_
     refine then_r ?_
     refine ret2 rfl (.cell rfl rfl (load_rowB (cs := [_, _, _, _]) hS.ok 0 rfl Tryd.underlying34 rfl ts_34 rfl)) (.tmp rfl (show _ = Value.int _ _ from rfl)) ?_
     obtain rfl : er = 20 := by omega
     exact ⟨rfl, hS.kp⟩
  refine ent (n := 38) Tryd.func93 rfl rfl ?_
  refine wp_seq_k ?_; intro K1 hK1
  refine wlit ?_
  refine wl_e rfl ?_; intro K hK
  refine ow_alloc hS tz_34 rfl ?_
  clear hS; intro g0_0 w hg0_0 hS
  refine hK _ _ ?_; clear hK K
  refine wl_v (x_assign (ev_cN 0)) ?_
  refine wl_nil ?_
  refine then_n (hK1 _ _ ?_); clear hK1 K1
  refine wp_seq_k ?_; intro K2 hK2
  refine wp_seq_k ?_; intro K3 hK3
  refine wlit ?_
  refine wl_v (x_move (tmS rfl rfl)) ?_
  refine wl_v (x_len Tryd.underlying22 (tmS rfl rfl)) ?_
  refine wl_v (x_lss (tmI rfl rfl) (ev_cN 8)) ?_
  refine wl_nil ?_
  refine then_n (hK3 _ _ ?_); clear hK3 K3
  refine cnd (tm rfl) (fun hc0 => ?_) (fun hc0 => ?_)
  · exfalso
    simp only [nrm] at hc0
    omega
  all_goals
   try simp only [nrm] at hc0
   refine wp_skip ?_
   refine then_n (hK2 _ _ ?_); clear hK2 K2
   refine wp_seq_k ?_; intro K4 hK4
   refine wlit ?_
   refine wl_v (x_move (tmS rfl rfl)) ?_
   refine wl_e rfl ?_; intro K hK
   refine ow_call Tryd.func52 rfl rfl (evs_cons (tmS rfl rfl) <| evs_nil) (read_c n A c l _ (viewV hS.ok 1 rfl) hl hn4) ?_
   rintro e w ⟨gr, A0, rfl, hS2⟩
   refine ⟨_, rfl, ?_⟩
   replace hS := hS.adds hS2 rfl -- +gr,rowb
   clear hS2
   have hA : Off A0 0 n A0 := off_zero
   have hcp : n - 0 ≤ n := by omega
   refine hK _ _ ?_; clear hK K
   refine wl_v (x_assign (tmP rfl rfl)) ?_
   refine wl_nil ?_
   refine then_n (hK4 _ _ ?_); clear hK4 K4
   refine wp_seq_k ?_; intro K5 hK5
   refine wlit ?_
   refine wl_v (x_move (tmP rfl rfl)) ?_
   refine wl_e rfl ?_; intro K hK
   refine ow_call Tryd.func54 rfl rfl (evs_cons (tmP rfl rfl) <| evs_nil) (word_c gr A0 _ _ n _ l false _ _ (hS.enter [0] [1] rfl rfl) hA (by omega) hcp hl hb) ?_
   rintro e w ⟨A1, c1, rfl, hS2, hA, hcp⟩
   refine ⟨_, rfl, ?_⟩
   replace hS := hS.turn 0 rfl rfl hS2 rfl
   clear hS2
   try replace hS := St.nm (M' := [_, .row _ _ _ _ _, .blk _ _ [_, _, _, _], .vw _ _]) hS rfl
   refine hK _ _ ?_; clear hK K
   refine wl_v (x_move (tmP rfl rfl)) ?_
   refine wl_e rfl ?_; intro K hK
   refine ow_call Tryd.func54 rfl rfl (evs_cons (tmP rfl rfl) <| evs_nil) (word_c gr A0 _ _ n _ l false _ _ (hS.enter [0] [1] rfl rfl) hA (by omega) hcp hl hb) ?_
   rintro e w ⟨A1, c1, rfl, hS2, hA, hcp⟩
   refine ⟨_, rfl, ?_⟩
   replace hS := hS.turn 0 rfl rfl hS2 rfl
   clear hS2
   try replace hS := St.nm (M' := [_, .row _ _ _ _ _, .blk _ _ [_, _, _, _], .vw _ _]) hS rfl
   refine hK _ _ ?_; clear hK K
   refine wl_v (x_build (bc_take (tmI rfl rfl) <| bc_take (tmI rfl rfl) <| bc_skip (.int .u16 0) <| bc_skip (.slice none 0 0) <| bc_nil) (by kernel_rfl)) ?_
   refine wl_e rfl ?_; intro K hK
   refine ow_alloc hS tz_34 rfl ?_
   clear hS; intro g4_5 w hg4_5 hS
   refine hK _ _ ?_; clear hK K
   refine wl_e rfl ?_; intro K hK
   refine ow_storeA hS 0 rfl ts_34 (tmP rfl rfl) (tmA rfl rfl) rfl rfl rfl ?_
   clear hS; intro w hS
   try replace hS := St.nm (M' := [.blk _ _ [_, _, _, _], _, .row _ _ _ _ _, .blk _ _ [_, _, _, _], .vw _ _]) hS rfl
   refine hK _ _ ?_; clear hK K
   refine wl_nil ?_
   refine then_n (hK5 _ _ ?_); clear hK5 K5
   refine wp_seq_k ?_; intro K6 hK6
   refine wlit ?_
   refine wl_v (x_move (tmP rfl rfl)) ?_
   refine wl_e rfl ?_; intro K hK
   refine ow_call Tryd.func54 rfl rfl (evs_cons (tmP rfl rfl) <| evs_nil) (word_c gr A0 _ _ n _ l false _ _ (hS.enter [1] [2] rfl rfl) hA (by omega) hcp hl hb) ?_
   rintro e w ⟨A1, c1, rfl, hS2, hA, hcp⟩
   refine ⟨_, rfl, ?_⟩
   replace hS := hS.turn 1 rfl rfl hS2 rfl
   clear hS2
   try replace hS := St.nm (M' := [.blk _ _ [_, _, _, _], _, .row _ _ _ _ _, .blk _ _ [_, _, _, _], .vw _ _]) hS rfl
   refine hK _ _ ?_; clear hK K
   refine wl_v (x_convN Tryd.underlying27 Tryd.underlying3 (tmI rfl rfl) (fit_i64 (by omega))) ?_
   refine wl_v (x_assign (tmI rfl (congrArg (fun q : Nat => Value.int .i64 (q : Int)) hz))) ?_
   refine wl_nil ?_
   refine then_n (hK6 _ _ ?_); clear hK6 K6
   refine wp_seq_k ?_; intro K7 hK7
   refine wp_seq_k ?_; intro K8 hK8
   refine wlit ?_
   refine wl_v (x_move (tmI rfl rfl)) ?_
   refine wl_v (x_lss (tmI rfl rfl) (ev_cN 8)) ?_
   refine wl_nil ?_
   refine then_n (hK8 _ _ ?_); clear hK8 K8
   refine cnd (tm rfl) (fun hc1 => ?_) (fun hc1 => ?_)
   · skip
     all_goals
      try simp only [nrm] at hc1
      refine wp_seq_k ?_; intro K9 hK9
      refine wlit ?_
      refine wl_v (x_build (bc_skip (.int .u16 0) <| bc_skip (.int .u16 0) <| bc_skip (.int .u16 0) <| bc_skip (.slice none 0 0) <| bc_nil) (by kernel_rfl)) ?_
      refine wl_e rfl ?_; intro K hK
      refine ow_storeA hS 3 rfl ts_34 (tmP rfl rfl) (tmA rfl rfl) rfl rfl rfl ?_
      clear hS; intro w hS
      try replace hS := St.nm (M' := [.blk _ _ [_, _, _, _], _, .row _ _ _ _ _, .blk _ _ [_, _, _, _], .vw _ _]) hS rfl
      refine hK _ _ ?_; clear hK K
      refine wl_v (x_assign (ev_cN 21)) ?_
      refine wl_nil ?_
      refine then_n (hK9 _ _ ?_); clear hK9 K9
      refine wp_ret ?_
      refine then_r ?_
      refine ret2 rfl (.cell rfl rfl (load_rowB (cs := [_, _, _, _]) hS.ok 3 rfl Tryd.underlying34 rfl ts_34 rfl)) (.tmp rfl (show _ = Value.int _ _ from rfl)) ?_
      first
        | (obtain rfl : er = 20 := by omega
           exact ⟨rfl, hS.kp⟩)
        | (obtain rfl : er = 21 := by omega
           exact ⟨rfl, hS.kp⟩)
   all_goals
    try simp only [nrm] at hc1
    refine wp_skip ?_
    refine then_n (hK7 _ _ ?_); clear hK7 K7
    refine wp_seq_k ?_; intro K11 hK11
    refine wp_seq_k ?_; intro K12 hK12
    refine wlit ?_
    refine wl_v (x_move (tmI rfl rfl)) ?_
    refine wl_v (x_move (tmS rfl rfl)) ?_
    refine wl_v (x_len Tryd.underlying22 (tmS rfl rfl)) ?_
    refine wl_v (x_gtr (tmI rfl rfl) (tmI rfl rfl)) ?_
    refine wl_nil ?_
    refine then_n (hK12 _ _ ?_); clear hK12 K12
    refine cnds (tm rfl) (fun hc2 => ?_) (fun hc2 => ?_)
    · exfalso
      simp only [nrm] at hc2
      omega
    all_goals
     try simp only [nrm] at hc2
     refine wp_seq_k ?_; intro K13 hK13
     refine wlit ?_
     refine wl_v (x_build (bc_skip (.int .u16 0) <| bc_skip (.int .u16 0) <| bc_skip (.int .u16 0) <| bc_skip (.slice none 0 0) <| bc_nil) (by kernel_rfl)) ?_
     refine wl_e rfl ?_; intro K hK
     refine ow_storeA hS 3 rfl ts_34 (tmP rfl rfl) (tmA rfl rfl) rfl rfl rfl ?_
     clear hS; intro w hS
     try replace hS := St.nm (M' := [.blk _ _ [_, _, _, _], _, .row _ _ _ _ _, .blk _ _ [_, _, _, _], .vw _ _]) hS rfl
     refine hK _ _ ?_; clear hK K
     refine wl_v (x_assign (ev_cN 20)) ?_
     refine wl_nil ?_
     refine then_n (hK13 _ _ ?_); clear hK13 K13
     refine wp_ret ?_
     refine then_r ?_
     refine ret2 rfl (.cell rfl rfl (load_rowB (cs := [_, _, _, _]) hS.ok 3 rfl Tryd.underlying34 rfl ts_34 rfl)) (.tmp rfl (show _ = Value.int _ _ from rfl)) ?_
     first
       | (obtain rfl : er = 20 := by omega
          exact ⟨rfl, hS.kp⟩)
       | (obtain rfl : er = 21 := by omega
          exact ⟨rfl, hS.kp⟩)

set_option maxRecDepth 100000 in
set_option maxHeartbeats 4000000 in
theorem rudp_parse_bad (n : Nat) (A : Option Addr) (c : Nat) (l : List Nat) (w0 : World) (hv : View w0 w0.heap.size A (l.map u8v)) (hl : l.length = n) (hc : n ≤ c) (hb : Bytes l) (hn4 : n ≤ 1000000)
    (sz er : Nat) (hsz : sz = getN l 4 2) (h : (n < 8 ∧ er = 20) ∨ (8 ≤ n ∧ sz < 8 ∧ er = 21) ∨ (8 ≤ n ∧ 8 ≤ sz ∧ n < sz ∧ er = 20)) :
    Calls Tryd.prog 23 #[.slice A n c] w0 fun e w' => e = .returned (.tuple #[.agg (datV 0 0 0 none 0 0).toArray, .int .i64 (er : Int)]) ∧ Kp [] w0 w' := by
  have hS := (St.sv w0).vcons rfl hv
  have hqb := getN_lt hb 4 2
  have hz : getN l 4 2 = sz := hsz.symm
  by_cases h20 : n < 8
  · skip
    refine ent (n := 35) Tryd.func23 rfl rfl ?_
    refine wp_seq_k ?_; intro K1 hK1
    refine wlit ?_
    refine wl_e rfl ?_; intro K hK
    refine ow_alloc hS tz_43 rfl ?_
    clear hS; intro g0_0 w hg0_0 hS
    refine hK _ _ ?_; clear hK K
    refine wl_v (x_assign (ev_cN 0)) ?_
    refine wl_nil ?_
    refine then_n (hK1 _ _ ?_); clear hK1 K1
    refine wp_seq_k ?_; intro K2 hK2
    refine wp_seq_k ?_; intro K3 hK3
    refine wlit ?_
    refine wl_v (x_move (tmS rfl rfl)) ?_
    refine wl_v (x_len Tryd.underlying22 (tmS rfl rfl)) ?_
    refine wl_v (x_lss (tmI rfl rfl) (ev_cN 8)) ?_
    refine wl_nil ?_
    refine then_n (hK3 _ _ ?_); clear hK3 K3
    refine cnds (tm rfl) (fun hc0 => ?_) (fun hc0 => ?_)
    · exfalso
      simp only [nrm] at hc0
      omega
    all_goals
     try simp only [nrm] at hc0
     refine wp_seq_k ?_; intro K4 hK4
     refine wlit ?_
     refine wl_v (x_build (bc_skip (.int .u16 0) <| bc_skip (.int .u16 0) <| bc_skip (.int .u16 0) <| bc_skip (.slice none 0 0) <| bc_nil) (by kernel_rfl)) ?_
     refine wl_e rfl ?_; intro K hK
     refine ow_storeA hS 0 rfl ts_43 (tmP rfl rfl) (tmA rfl rfl) rfl rfl rfl ?_
     clear hS; intro w hS
     try replace hS := St.nm (M' := [.blk _ _ [_, _, _, _], .vw _ _]) hS rfl
     refine hK _ _ ?_; clear hK K
     refine wl_v (x_assign (ev_cN 20)) ?_
     refine wl_nil ?_
     refine then_n (hK4 _ _ ?_); clear hK4 K4
     refine wp_ret ?_
     refine then_r ?_
     refine ret2 rfl (.cell rfl rfl (load_rowB (cs := [_, _, _, _]) hS.ok 0 rfl Tryd.underlying43 rfl ts_43 rfl)) (.tmp rfl (show _ = Value.int _ _ from rfl)) ?_
     obtain rfl : er = 20 := by omega
     exact ⟨rfl, hS.kp⟩
  refine ent (n := 35) Tryd.func23 rfl rfl ?_
  refine wp_seq_k ?_; intro K1 hK1
  refine wlit ?_
  refine wl_e rfl ?_; intro K hK
  refine ow_alloc hS tz_43 rfl ?_
  clear hS; intro g0_0 w hg0_0 hS
  refine hK _ _ ?_; clear hK K
  refine wl_v (x_assign (ev_cN 0)) ?_
  refine wl_nil ?_
  refine then_n (hK1 _ _ ?_); clear hK1 K1
  refine wp_seq_k ?_; intro K2 hK2
  refine wp_seq_k ?_; intro K3 hK3
  refine wlit ?_
  refine wl_v (x_move (tmS rfl rfl)) ?_
  refine wl_v (x_len Tryd.underlying22 (tmS rfl rfl)) ?_
  refine wl_v (x_lss (tmI rfl rfl) (ev_cN 8)) ?_
  refine wl_nil ?_
  refine then_n (hK3 _ _ ?_); clear hK3 K3
  refine cnd (tm rfl) (fun hc0 => ?_) (fun hc0 => ?_)
  · exfalso
    simp only [nrm] at hc0
    omega
  all_goals
   try simp only [nrm] at hc0
   refine wp_skip ?_
   refine then_n (hK2 _ _ ?_); clear hK2 K2
   refine wp_seq_k ?_; intro K4 hK4
   refine wlit ?_
   refine wl_v (x_move (tmS rfl rfl)) ?_
   refine wl_e rfl ?_; intro K hK
   refine ow_call Tryd.func45 rfl rfl (evs_cons (tmS rfl rfl) <| evs_cons (ev_cN 4) <| evs_cons (ev_cN 2) <| evs_nil) (get_c n _ c l _ _ _ (viewV hS.ok 1 rfl) hl hc hn4 hb (by omega) (by omega)) ?_
   rintro e w ⟨rfl, hk⟩
   refine ⟨_, rfl, ?_⟩
   replace hS := hS.kept hk
   clear hk
   refine hK _ _ ?_; clear hK K
   refine wl_v (x_convN Tryd.underlying24 Tryd.underlying3 (tmI rfl rfl) (fit_i64 (by omega))) ?_
   refine wl_v (x_assign (tmI rfl (congrArg (fun q : Nat => Value.int .i64 (q : Int)) hz))) ?_
   refine wl_nil ?_
   refine then_n (hK4 _ _ ?_); clear hK4 K4
   refine wp_seq_k ?_; intro K5 hK5
   refine wp_seq_k ?_; intro K6 hK6
   refine wlit ?_
   refine wl_v (x_move (tmI rfl rfl)) ?_
   refine wl_v (x_lss (tmI rfl rfl) (ev_cN 8)) ?_
   refine wl_nil ?_
   refine then_n (hK6 _ _ ?_); clear hK6 K6
   refine cnd (tm rfl) (fun hc1 => ?_) (fun hc1 => ?_)
   · skip
     all_goals
      try simp only [nrm] at hc1
      refine wp_seq_k ?_; intro K7 hK7
      refine wlit ?_
      refine wl_v (x_build (bc_skip (.int .u16 0) <| bc_skip (.int .u16 0) <| bc_skip (.int .u16 0) <| bc_skip (.slice none 0 0) <| bc_nil) (by kernel_rfl)) ?_
      refine wl_e rfl ?_; intro K hK
      refine ow_storeA hS 0 rfl ts_43 (tmP rfl rfl) (tmA rfl rfl) rfl rfl rfl ?_
      clear hS; intro w hS
      try replace hS := St.nm (M' := [.blk _ _ [_, _, _, _], .vw _ _]) hS rfl
      refine hK _ _ ?_; clear hK K
      refine wl_v (x_assign (ev_cN 21)) ?_
      refine wl_nil ?_
      refine then_n (hK7 _ _ ?_); clear hK7 K7
      refine wp_ret ?_
      refine then_r ?_
      refine ret2 rfl (.cell rfl rfl (load_rowB (cs := [_, _, _, _]) hS.ok 0 rfl Tryd.underlying43 rfl ts_43 rfl)) (.tmp rfl (show _ = Value.int _ _ from rfl)) ?_
      first
        | (obtain rfl : er = 20 := by omega
           exact ⟨rfl, hS.kp⟩)
        | (obtain rfl : er = 21 := by omega
           exact ⟨rfl, hS.kp⟩)
   all_goals
    try simp only [nrm] at hc1
    refine wp_skip ?_
    refine then_n (hK5 _ _ ?_); clear hK5 K5
    refine wp_seq_k ?_; intro K9 hK9
    refine wp_seq_k ?_; intro K10 hK10
    refine wlit ?_
    refine wl_v (x_move (tmI rfl rfl)) ?_
    refine wl_v (x_move (tmS rfl rfl)) ?_
    refine wl_v (x_len Tryd.underlying22 (tmS rfl rfl)) ?_
    refine wl_v (x_gtr (tmI rfl rfl) (tmI rfl rfl)) ?_
    refine wl_nil ?_
    refine then_n (hK10 _ _ ?_); clear hK10 K10
    refine cnds (tm rfl) (fun hc2 => ?_) (fun hc2 => ?_)
    · exfalso
      simp only [nrm] at hc2
      omega
    all_goals
     try simp only [nrm] at hc2
     refine wp_seq_k ?_; intro K11 hK11
     refine wlit ?_
     refine wl_v (x_build (bc_skip (.int .u16 0) <| bc_skip (.int .u16 0) <| bc_skip (.int .u16 0) <| bc_skip (.slice none 0 0) <| bc_nil) (by kernel_rfl)) ?_
     refine wl_e rfl ?_; intro K hK
     refine ow_storeA hS 0 rfl ts_43 (tmP rfl rfl) (tmA rfl rfl) rfl rfl rfl ?_
     clear hS; intro w hS
     try replace hS := St.nm (M' := [.blk _ _ [_, _, _, _], .vw _ _]) hS rfl
     refine hK _ _ ?_; clear hK K
     refine wl_v (x_assign (ev_cN 20)) ?_
     refine wl_nil ?_
     refine then_n (hK11 _ _ ?_); clear hK11 K11
     refine wp_ret ?_
     refine then_r ?_
     refine ret2 rfl (.cell rfl rfl (load_rowB (cs := [_, _, _, _]) hS.ok 0 rfl Tryd.underlying43 rfl ts_43 rfl)) (.tmp rfl (show _ = Value.int _ _ from rfl)) ?_
     first
       | (obtain rfl : er = 20 := by omega
          exact ⟨rfl, hS.kp⟩)
       | (obtain rfl : er = 21 := by omega
          exact ⟨rfl, hS.kp⟩)

set_option maxRecDepth 100000 in
set_option maxHeartbeats 4000000 in
theorem rudp_parse_c (n : Nat) (A : Option Addr) (c : Nat) (l : List Nat) (w0 : World) (hv : View w0 w0.heap.size A (l.map u8v)) (hl : l.length = n) (hc : n ≤ c) (hb : Bytes l) (hn4 : n ≤ 1000000)
    (sz : Nat) (hsz : sz = getN l 4 2) (h0 : 8 ≤ n) (h1 : 8 ≤ sz) (h3 : sz ≤ n) :
    Calls Tryd.prog 23 #[.slice A n c] w0 fun e w' => ∃ L d, e = .returned (.tuple #[.agg (datV (getN l 0 2) (getN l 2 2) (getN l 6 2) L (sz - 8) d).toArray, .int .i64 0]) ∧ NewV w0 w' L (((l.drop 8).take (sz - 8)).map u8v) ∧ Kp [] w0 w' := by
  have hS := (St.sv w0).vcons rfl hv
  have hz : getN l 4 2 = sz := hsz.symm
  have hqb := getN_lt hb 4 2
  have hq0 := getN_lt hb 0 2
  have hq2 := getN_lt hb 2 2
  have hq6 := getN_lt hb 6 2
  refine ent (n := 35) Tryd.func23 rfl rfl ?_
  refine wp_seq_k ?_; intro K1 hK1
  refine wlit ?_
  refine wl_e rfl ?_; intro K hK
  refine ow_alloc hS tz_43 rfl ?_
  clear hS; intro g0_0 w hg0_0 hS
  refine hK _ _ ?_; clear hK K
  refine wl_v (x_assign (ev_cN 0)) ?_
  refine wl_nil ?_
  refine then_n (hK1 _ _ ?_); clear hK1 K1
  refine wp_seq_k ?_; intro K2 hK2
  refine wp_seq_k ?_; intro K3 hK3
  refine wlit ?_
  refine wl_v (x_move (tmS rfl rfl)) ?_
  refine wl_v (x_len Tryd.underlying22 (tmS rfl rfl)) ?_
  refine wl_v (x_lss (tmI rfl rfl) (ev_cN 8)) ?_
  refine wl_nil ?_
  refine then_n (hK3 _ _ ?_); clear hK3 K3
  refine cnd (tm rfl) (fun hc0 => ?_) (fun hc0 => ?_)
  · exfalso
    simp only [nrm] at hc0
    omega
  all_goals
   try simp only [nrm] at hc0
   refine wp_skip ?_
   refine then_n (hK2 _ _ ?_); clear hK2 K2
   refine wp_seq_k ?_; intro K4 hK4
   refine wlit ?_
   refine wl_v (x_move (tmS rfl rfl)) ?_
   refine wl_e rfl ?_; intro K hK
   refine ow_call Tryd.func45 rfl rfl (evs_cons (tmS rfl rfl) <| evs_cons (ev_cN 4) <| evs_cons (ev_cN 2) <| evs_nil) (get_c n _ c l _ _ _ (viewV hS.ok 1 rfl) hl hc hn4 hb (by omega) (by omega)) ?_
   rintro e w ⟨rfl, hk⟩
   refine ⟨_, rfl, ?_⟩
   replace hS := hS.kept hk
   clear hk
   refine hK _ _ ?_; clear hK K
   refine wl_v (x_convN Tryd.underlying24 Tryd.underlying3 (tmI rfl rfl) (fit_i64 (by omega))) ?_
   refine wl_v (x_assign (tmI rfl (congrArg (fun q : Nat => Value.int .i64 (q : Int)) hz))) ?_
   refine wl_nil ?_
   refine then_n (hK4 _ _ ?_); clear hK4 K4
   refine wp_seq_k ?_; intro K5 hK5
   refine wp_seq_k ?_; intro K6 hK6
   refine wlit ?_
   refine wl_v (x_move (tmI rfl rfl)) ?_
   refine wl_v (x_lss (tmI rfl rfl) (ev_cN 8)) ?_
   refine wl_nil ?_
   refine then_n (hK6 _ _ ?_); clear hK6 K6
   refine cnd (tm rfl) (fun hc1 => ?_) (fun hc1 => ?_)
   · exfalso
     simp only [nrm] at hc1
     omega
   all_goals
    try simp only [nrm] at hc1
    refine wp_skip ?_
    refine then_n (hK5 _ _ ?_); clear hK5 K5
    refine wp_seq_k ?_; intro K7 hK7
    refine wp_seq_k ?_; intro K8 hK8
    refine wlit ?_
    refine wl_v (x_move (tmI rfl rfl)) ?_
    refine wl_v (x_move (tmS rfl rfl)) ?_
    refine wl_v (x_len Tryd.underlying22 (tmS rfl rfl)) ?_
    refine wl_v (x_gtr (tmI rfl rfl) (tmI rfl rfl)) ?_
    refine wl_nil ?_
    refine then_n (hK8 _ _ ?_); clear hK8 K8
    refine cnd (tm rfl) (fun hc2 => ?_) (fun hc2 => ?_)
    · exfalso
      simp only [nrm] at hc2
      omega
    all_goals
     try simp only [nrm] at hc2
     refine wp_skip ?_
     refine then_n (hK7 _ _ ?_); clear hK7 K7
     refine wp_seq_k ?_; intro K9 hK9
     replace hS := (hS.cutb 1 8 (sz - 8) rfl (by omega : l.length ≤ c)).pick [1, 0, 2] rfl rfl
     try replace hS := St.nm (M' := [.blk _ _ [_, _, _, _], .vw _ _, .vw _ _]) hS rfl
     refine rg_startk 1 hS mixed_ ?_
     clear hS; intro w hS
     refine rg_take 0 rfl rfl (by kernel_rfl) (by kernel_rfl) (by kernel_rfl) (want_0) (fun w hok => x_move (tmS rfl rfl)) ?_
     refine rg_take 3 rfl rfl (by kernel_rfl) (by kernel_rfl) (by kernel_rfl) (want_0) (fun w hok => x_move (tmS rfl rfl)) ?_
     refine rg_take 6 rfl rfl (by kernel_rfl) (by kernel_rfl) (by kernel_rfl) (want_0) (fun w hok => x_move (tmS rfl rfl)) ?_
     refine rg_take 10 rfl rfl (by kernel_rfl) (by kernel_rfl) (by kernel_rfl) (want_0) (fun w hok => x_move (tmS rfl rfl)) ?_
     refine rg_take 11 rfl rfl (by kernel_rfl) (by kernel_rfl) (by kernel_rfl) (want_0) (fun w hok => x_move (tmI rfl rfl)) ?_
     refine rg_take 12 rfl rfl (by kernel_rfl) (by kernel_rfl) (by kernel_rfl) (want_0) (fun w hok => x_sliceLH Tryd.underlying22 ts_5 (tmS rfl rfl) (ev_cN 8) (tmI rfl rfl) (by omega)) ?_
     refine rg_step2 1 9 rfl rfl (by kernel_rfl) (want_0) (want_0) (oks_drop hS 1 rfl) ?_ ?_
     · intro K hK
       refine ow_call Tryd.func45 rfl rfl (evs_cons (tmS rfl rfl) <| evs_cons (ev_cN 0) <| evs_cons (ev_cN 2) <| evs_nil) (get_c n _ c l _ _ _ (viewV hS.ok 2 rfl) hl hc hn4 hb (by omega) (by omega)) ?_
       rintro e w ⟨rfl, hk⟩
       refine ⟨_, rfl, ?_⟩
       replace hS := hS.kept hk
       clear hk
       refine hK _ _ ?_; clear hK K
       refine rg_take 2 rfl rfl (by kernel_rfl) (by kernel_rfl) (by kernel_rfl) (want_0) (fun w hok => x_convN Tryd.underlying24 Tryd.underlying27 (tmI rfl rfl) (fit_u16 (by omega))) ?_
       refine rg_step2 4 9 rfl rfl (by kernel_rfl) (want_0) (want_0) (oks_drop hS 1 rfl) ?_ ?_
       · intro K hK
         refine ow_call Tryd.func45 rfl rfl (evs_cons (tmS rfl rfl) <| evs_cons (ev_cN 2) <| evs_cons (ev_cN 2) <| evs_nil) (get_c n _ c l _ _ _ (viewV hS.ok 2 rfl) hl hc hn4 hb (by omega) (by omega)) ?_
         rintro e w ⟨rfl, hk⟩
         refine ⟨_, rfl, ?_⟩
         replace hS := hS.kept hk
         clear hk
         refine hK _ _ ?_; clear hK K
         refine rg_take 5 rfl rfl (by kernel_rfl) (by kernel_rfl) (by kernel_rfl) (want_0) (fun w hok => x_convN Tryd.underlying24 Tryd.underlying27 (tmI rfl rfl) (fit_u16 (by omega))) ?_
         refine rg_step2 7 9 rfl rfl (by kernel_rfl) (want_0) (want_0) (oks_drop hS 1 rfl) ?_ ?_
         · intro K hK
           refine ow_call Tryd.func45 rfl rfl (evs_cons (tmS rfl rfl) <| evs_cons (ev_cN 6) <| evs_cons (ev_cN 2) <| evs_nil) (get_c n _ c l _ _ _ (viewV hS.ok 2 rfl) hl hc hn4 hb (by omega) (by omega)) ?_
           rintro e w ⟨rfl, hk⟩
           refine ⟨_, rfl, ?_⟩
           replace hS := hS.kept hk
           clear hk
           refine hK _ _ ?_; clear hK K
           refine rg_take 8 rfl rfl (by kernel_rfl) (by kernel_rfl) (by kernel_rfl) (want_0) (fun w hok => x_convN Tryd.underlying24 Tryd.underlying27 (tmI rfl rfl) (fit_u16 (by omega))) ?_
           refine rg_step 9 rfl (by kernel_rfl) (want_0) (oks_drop hS 1 rfl) ?_; intro K hK
           refine ow_build0 hS Tryd.underlying22 tz_5 rfl rfl ?_
           clear hS; intro g8_9 w hg8_9 hS
           refine hK _ _ ?_; clear hK K
           refine rg_step 13 rfl (by kernel_rfl) (want_0) (oks_drop hS 2 rfl) ?_; intro K hK
           refine ow_appendV hS 0 rfl (viewV hS.ok 2 rfl) Tryd.underlying22 tz_5 rfl (tmS rfl rfl) (tmS rfl rfl) (by first | exact u8v_one _ | (intro u hu; simp at hu; first | (rcases hu with rfl | rfl <;> rfl) | (obtain ⟨_, _, rfl⟩ := hu; rfl))) ⟨by decide, by first | rfl | (simp; done) | (simp; omega)⟩ (by simp only [maxLen]; omega) (by omega) ?_; clear hS; intro g8_13 cg8_13 w hAg8_13 hCg8_13 hS
           refine hK _ _ ?_; clear hK K
           refine rg_take 14 rfl rfl (by kernel_rfl) (by kernel_rfl) (by kernel_rfl) (want_0) (fun w hok => x_build (bc_take (tmI rfl rfl) <| bc_take (tmI rfl rfl) <| bc_take (tmI rfl rfl) <| bc_take (tmS rfl rfl) <| bc_nil) (by kernel_rfl)) ?_
           refine rg_step 15 rfl (by kernel_rfl) (want_0) (oks_drop hS 2 rfl) ?_; intro K hK
           refine ow_storeA hS 1 rfl ts_43 (tmP rfl rfl) (tmA rfl rfl) rfl rfl rfl ?_
           clear hS; intro w hS
           try replace hS := St.nm (M' := [.row _ _ _ _ _, .blk _ _ [_, _, _, _], .vw _ _, .vw _ _]) hS rfl
           refine hK _ _ ?_; clear hK K
           refine rg_take 16 rfl rfl (by kernel_rfl) (by kernel_rfl) (by kernel_rfl) (want_0) (fun w hok => x_assign (ev_cN 0)) ?_
           refine rg_done (oks_drop hS 2 rfl) (by kernel_rfl) ?_
           simp only [List.nil_append, Nat.zero_add] at hS
           refine then_n (hK9 _ _ ?_); clear hK9 K9
           refine wp_ret ?_
           refine ret2 rfl (.cell rfl rfl (load_rowB (cs := [_, _, _, _]) hS.ok 1 rfl Tryd.underlying43 rfl ts_43 rfl)) (.tmp rfl (show _ = Value.int _ _ from rfl)) ?_
           exact ⟨g8_13, cg8_13, rfl, hS.newv 0 rfl, hS.kp⟩
         · intro K hK
           refine ow_build0 hS Tryd.underlying22 tz_5 rfl rfl ?_
           clear hS; intro g8_9 w hg8_9 hS
           refine hK _ _ ?_; clear hK K
           refine rg_step 7 rfl (by kernel_rfl) (want_0) (oks_drop hS 2 rfl) ?_; intro K hK
           refine ow_call Tryd.func45 rfl rfl (evs_cons (tmS rfl rfl) <| evs_cons (ev_cN 6) <| evs_cons (ev_cN 2) <| evs_nil) (get_c n _ c l _ _ _ (viewV hS.ok 3 rfl) hl hc hn4 hb (by omega) (by omega)) ?_
           rintro e w ⟨rfl, hk⟩
           refine ⟨_, rfl, ?_⟩
           replace hS := hS.kept hk
           clear hk
           refine hK _ _ ?_; clear hK K
           refine rg_take 8 rfl rfl (by kernel_rfl) (by kernel_rfl) (by kernel_rfl) (want_0) (fun w hok => x_convN Tryd.underlying24 Tryd.underlying27 (tmI rfl rfl) (fit_u16 (by omega))) ?_
           refine rg_step 13 rfl (by kernel_rfl) (want_0) (oks_drop hS 2 rfl) ?_; intro K hK
           refine ow_appendV hS 0 rfl (viewV hS.ok 2 rfl) Tryd.underlying22 tz_5 rfl (tmS rfl rfl) (tmS rfl rfl) (by first | exact u8v_one _ | (intro u hu; simp at hu; first | (rcases hu with rfl | rfl <;> rfl) | (obtain ⟨_, _, rfl⟩ := hu; rfl))) ⟨by decide, by first | rfl | (simp; done) | (simp; omega)⟩ (by simp only [maxLen]; omega) (by omega) ?_; clear hS; intro g8_13 cg8_13 w hAg8_13 hCg8_13 hS
           refine hK _ _ ?_; clear hK K
           refine rg_take 14 rfl rfl (by kernel_rfl) (by kernel_rfl) (by kernel_rfl) (want_0) (fun w hok => x_build (bc_take (tmI rfl rfl) <| bc_take (tmI rfl rfl) <| bc_take (tmI rfl rfl) <| bc_take (tmS rfl rfl) <| bc_nil) (by kernel_rfl)) ?_
           refine rg_step 15 rfl (by kernel_rfl) (want_0) (oks_drop hS 2 rfl) ?_; intro K hK
           refine ow_storeA hS 1 rfl ts_43 (tmP rfl rfl) (tmA rfl rfl) rfl rfl rfl ?_
           clear hS; intro w hS
           try replace hS := St.nm (M' := [.row _ _ _ _ _, .blk _ _ [_, _, _, _], .vw _ _, .vw _ _]) hS rfl
           refine hK _ _ ?_; clear hK K
           refine rg_take 16 rfl rfl (by kernel_rfl) (by kernel_rfl) (by kernel_rfl) (want_0) (fun w hok => x_assign (ev_cN 0)) ?_
           refine rg_done (oks_drop hS 2 rfl) (by kernel_rfl) ?_
           simp only [List.nil_append, Nat.zero_add] at hS
           refine then_n (hK9 _ _ ?_); clear hK9 K9
           refine wp_ret ?_
           refine ret2 rfl (.cell rfl rfl (load_rowB (cs := [_, _, _, _]) hS.ok 1 rfl Tryd.underlying43 rfl ts_43 rfl)) (.tmp rfl (show _ = Value.int _ _ from rfl)) ?_
           exact ⟨g8_13, cg8_13, rfl, hS.newv 0 rfl, hS.kp⟩
       · intro K hK
         refine ow_build0 hS Tryd.underlying22 tz_5 rfl rfl ?_
         clear hS; intro g8_9 w hg8_9 hS
         refine hK _ _ ?_; clear hK K
         refine rg_step 4 rfl (by kernel_rfl) (want_0) (oks_drop hS 2 rfl) ?_; intro K hK
         refine ow_call Tryd.func45 rfl rfl (evs_cons (tmS rfl rfl) <| evs_cons (ev_cN 2) <| evs_cons (ev_cN 2) <| evs_nil) (get_c n _ c l _ _ _ (viewV hS.ok 3 rfl) hl hc hn4 hb (by omega) (by omega)) ?_
         rintro e w ⟨rfl, hk⟩
         refine ⟨_, rfl, ?_⟩
         replace hS := hS.kept hk
         clear hk
         refine hK _ _ ?_; clear hK K
         refine rg_take 5 rfl rfl (by kernel_rfl) (by kernel_rfl) (by kernel_rfl) (want_0) (fun w hok => x_convN Tryd.underlying24 Tryd.underlying27 (tmI rfl rfl) (fit_u16 (by omega))) ?_
         refine rg_step 7 rfl (by kernel_rfl) (want_0) (oks_drop hS 2 rfl) ?_; intro K hK
         refine ow_call Tryd.func45 rfl rfl (evs_cons (tmS rfl rfl) <| evs_cons (ev_cN 6) <| evs_cons (ev_cN 2) <| evs_nil) (get_c n _ c l _ _ _ (viewV hS.ok 3 rfl) hl hc hn4 hb (by omega) (by omega)) ?_
         rintro e w ⟨rfl, hk⟩
         refine ⟨_, rfl, ?_⟩
         replace hS := hS.kept hk
         clear hk
         refine hK _ _ ?_; clear hK K
         refine rg_take 8 rfl rfl (by kernel_rfl) (by kernel_rfl) (by kernel_rfl) (want_0) (fun w hok => x_convN Tryd.underlying24 Tryd.underlying27 (tmI rfl rfl) (fit_u16 (by omega))) ?_
         refine rg_step 13 rfl (by kernel_rfl) (want_0) (oks_drop hS 2 rfl) ?_; intro K hK
         refine ow_appendV hS 0 rfl (viewV hS.ok 2 rfl) Tryd.underlying22 tz_5 rfl (tmS rfl rfl) (tmS rfl rfl) (by first | exact u8v_one _ | (intro u hu; simp at hu; first | (rcases hu with rfl | rfl <;> rfl) | (obtain ⟨_, _, rfl⟩ := hu; rfl))) ⟨by decide, by first | rfl | (simp; done) | (simp; omega)⟩ (by simp only [maxLen]; omega) (by omega) ?_; clear hS; intro g8_13 cg8_13 w hAg8_13 hCg8_13 hS
         refine hK _ _ ?_; clear hK K
         refine rg_take 14 rfl rfl (by kernel_rfl) (by kernel_rfl) (by kernel_rfl) (want_0) (fun w hok => x_build (bc_take (tmI rfl rfl) <| bc_take (tmI rfl rfl) <| bc_take (tmI rfl rfl) <| bc_take (tmS rfl rfl) <| bc_nil) (by kernel_rfl)) ?_
         refine rg_step 15 rfl (by kernel_rfl) (want_0) (oks_drop hS 2 rfl) ?_; intro K hK
         refine ow_storeA hS 1 rfl ts_43 (tmP rfl rfl) (tmA rfl rfl) rfl rfl rfl ?_
         clear hS; intro w hS
         try replace hS := St.nm (M' := [.row _ _ _ _ _, .blk _ _ [_, _, _, _], .vw _ _, .vw _ _]) hS rfl
         refine hK _ _ ?_; clear hK K
         refine rg_take 16 rfl rfl (by kernel_rfl) (by kernel_rfl) (by kernel_rfl) (want_0) (fun w hok => x_assign (ev_cN 0)) ?_
         refine rg_done (oks_drop hS 2 rfl) (by kernel_rfl) ?_
         simp only [List.nil_append, Nat.zero_add] at hS
         refine then_n (hK9 _ _ ?_); clear hK9 K9
         refine wp_ret ?_
         refine ret2 rfl (.cell rfl rfl (load_rowB (cs := [_, _, _, _]) hS.ok 1 rfl Tryd.underlying43 rfl ts_43 rfl)) (.tmp rfl (show _ = Value.int _ _ from rfl)) ?_
         exact ⟨g8_13, cg8_13, rfl, hS.newv 0 rfl, hS.kp⟩
     · intro K hK
       refine ow_build0 hS Tryd.underlying22 tz_5 rfl rfl ?_
       clear hS; intro g8_9 w hg8_9 hS
       refine hK _ _ ?_; clear hK K
       refine rg_step 1 rfl (by kernel_rfl) (want_0) (oks_drop hS 2 rfl) ?_; intro K hK
       refine ow_call Tryd.func45 rfl rfl (evs_cons (tmS rfl rfl) <| evs_cons (ev_cN 0) <| evs_cons (ev_cN 2) <| evs_nil) (get_c n _ c l _ _ _ (viewV hS.ok 3 rfl) hl hc hn4 hb (by omega) (by omega)) ?_
       rintro e w ⟨rfl, hk⟩
       refine ⟨_, rfl, ?_⟩
       replace hS := hS.kept hk
       clear hk
       refine hK _ _ ?_; clear hK K
       refine rg_take 2 rfl rfl (by kernel_rfl) (by kernel_rfl) (by kernel_rfl) (want_0) (fun w hok => x_convN Tryd.underlying24 Tryd.underlying27 (tmI rfl rfl) (fit_u16 (by omega))) ?_
       refine rg_step 4 rfl (by kernel_rfl) (want_0) (oks_drop hS 2 rfl) ?_; intro K hK
       refine ow_call Tryd.func45 rfl rfl (evs_cons (tmS rfl rfl) <| evs_cons (ev_cN 2) <| evs_cons (ev_cN 2) <| evs_nil) (get_c n _ c l _ _ _ (viewV hS.ok 3 rfl) hl hc hn4 hb (by omega) (by omega)) ?_
       rintro e w ⟨rfl, hk⟩
       refine ⟨_, rfl, ?_⟩
       replace hS := hS.kept hk
       clear hk
       refine hK _ _ ?_; clear hK K
       refine rg_take 5 rfl rfl (by kernel_rfl) (by kernel_rfl) (by kernel_rfl) (want_0) (fun w hok => x_convN Tryd.underlying24 Tryd.underlying27 (tmI rfl rfl) (fit_u16 (by omega))) ?_
       refine rg_step 7 rfl (by kernel_rfl) (want_0) (oks_drop hS 2 rfl) ?_; intro K hK
       refine ow_call Tryd.func45 rfl rfl (evs_cons (tmS rfl rfl) <| evs_cons (ev_cN 6) <| evs_cons (ev_cN 2) <| evs_nil) (get_c n _ c l _ _ _ (viewV hS.ok 3 rfl) hl hc hn4 hb (by omega) (by omega)) ?_
       rintro e w ⟨rfl, hk⟩
       refine ⟨_, rfl, ?_⟩
       replace hS := hS.kept hk
       clear hk
       refine hK _ _ ?_; clear hK K
       refine rg_take 8 rfl rfl (by kernel_rfl) (by kernel_rfl) (by kernel_rfl) (want_0) (fun w hok => x_convN Tryd.underlying24 Tryd.underlying27 (tmI rfl rfl) (fit_u16 (by omega))) ?_
       refine rg_step 13 rfl (by kernel_rfl) (want_0) (oks_drop hS 2 rfl) ?_; intro K hK
       refine ow_appendV hS 0 rfl (viewV hS.ok 2 rfl) Tryd.underlying22 tz_5 rfl (tmS rfl rfl) (tmS rfl rfl) (by first | exact u8v_one _ | (intro u hu; simp at hu; first | (rcases hu with rfl | rfl <;> rfl) | (obtain ⟨_, _, rfl⟩ := hu; rfl))) ⟨by decide, by first | rfl | (simp; done) | (simp; omega)⟩ (by simp only [maxLen]; omega) (by omega) ?_; clear hS; intro g8_13 cg8_13 w hAg8_13 hCg8_13 hS
       refine hK _ _ ?_; clear hK K
       refine rg_take 14 rfl rfl (by kernel_rfl) (by kernel_rfl) (by kernel_rfl) (want_0) (fun w hok => x_build (bc_take (tmI rfl rfl) <| bc_take (tmI rfl rfl) <| bc_take (tmI rfl rfl) <| bc_take (tmS rfl rfl) <| bc_nil) (by kernel_rfl)) ?_
       refine rg_step 15 rfl (by kernel_rfl) (want_0) (oks_drop hS 2 rfl) ?_; intro K hK
       refine ow_storeA hS 1 rfl ts_43 (tmP rfl rfl) (tmA rfl rfl) rfl rfl rfl ?_
       clear hS; intro w hS
       try replace hS := St.nm (M' := [.row _ _ _ _ _, .blk _ _ [_, _, _, _], .vw _ _, .vw _ _]) hS rfl
       refine hK _ _ ?_; clear hK K
       refine rg_take 16 rfl rfl (by kernel_rfl) (by kernel_rfl) (by kernel_rfl) (want_0) (fun w hok => x_assign (ev_cN 0)) ?_
       refine rg_done (oks_drop hS 2 rfl) (by kernel_rfl) ?_
       simp only [List.nil_append, Nat.zero_add] at hS
       refine then_n (hK9 _ _ ?_); clear hK9 K9
       refine wp_ret ?_
       refine ret2 rfl (.cell rfl rfl (load_rowB (cs := [_, _, _, _]) hS.ok 1 rfl Tryd.underlying43 rfl ts_43 rfl)) (.tmp rfl (show _ = Value.int _ _ from rfl)) ?_
       exact ⟨g8_13, cg8_13, rfl, hS.newv 0 rfl, hS.kp⟩

end Go.Proofs.YtmekadkmmddocaaDoor
