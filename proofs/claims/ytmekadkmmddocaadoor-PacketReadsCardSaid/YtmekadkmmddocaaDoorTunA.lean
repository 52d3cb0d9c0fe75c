/- ip6: Parse with errors, and the reference's Parse, by contract. Conditions: none but bounds. -/
import Derived.Test.YtmekadkmmddocaaDoorIp6B
namespace Go.Proofs.YtmekadkmmddocaaDoor
open Go.RowKit
theorem getN_split (l : List Nat) (p a b : Nat) (h : p + a + b ≤ l.length) : getN l p (a + b) = getN l p a * 256 ^ b + getN l (p + a) b := by
  unfold getN
  rw [List.take_add, numBE_append, List.drop_drop]
  rw [show ((l.drop (p + a)).take b).length = b by rw [List.length_take, List.length_drop]; omega]
theorem six_first {l : List Nat} (hb : Bytes l) (h : 4 ≤ l.length) : getN l 0 4 / 2 ^ 28 = nth l 0 / 16 := by
  have h1 := getN_split l 0 1 3 (by omega)
  have h2 := getN_lt hb 1 3
  rw [getN_one (by omega)] at h1
  have h3 : getN l 0 4 = nth l 0 * 256 ^ 3 + getN l 1 3 := h1
  omega
def Ip6Bad (l : List Nat) (n : Nat) : Prop := n < 40 ∨ (40 ≤ n ∧ nth l 0 / 16 = 6 ∧ n - 40 < getN l 4 2)
theorem ip6_all (l : List Nat) (hb : Bytes l) (h6 : nth l 0 / 16 = 6) : (∃ len, Ip6Form l l.length len) ∨ Ip6Bad l l.length := by
  by_cases h0 : l.length < 40
  · exact .inr (.inl h0)
  by_cases h1 : l.length - 40 < getN l 4 2
  · exact .inr (.inr ⟨by omega, h6, h1⟩)
  · exact .inl ⟨_, by omega, by rw [six_first hb (by omega)]; exact h6, rfl, by omega⟩
def ad0_ : Ad := ⟨false, 0, 0⟩
set_option maxRecDepth 100000 in
set_option maxHeartbeats 8000000 in
theorem ip6_parse_bad (n : Nat) (A : Option Addr) (c : Nat) (l : List Nat) (w0 : World) (hv : View w0 w0.heap.size A (l.map u8v)) (hl : l.length = n) (hc : n ≤ c) (hb : Bytes l) (hn4 : n ≤ 1000000) (h : Ip6Bad l n) :
    Calls Tryd.prog 31 #[.slice A n c] w0 fun e w' => e = .returned (.tuple #[.agg (hd6V 0 0 0 0 0 ad0_ ad0_).toArray, .slice none 0 0, .int .i64 20]) ∧ Kp [] w0 w' := by
  have hS := (St.sv w0).vcons rfl hv
  by_cases h20 : n < 40
  · skip
    refine ent (n := 61) Tryd.func31 rfl rfl ?_
    refine wp_seq_k ?_; intro K1 hK1
    refine wlit ?_
    refine wl_e rfl ?_; intro K hK
    refine ow_alloc hS tz_82 rfl ?_
    clear hS; intro g0_0 w hg0_0 hS
    refine hK _ _ ?_; clear hK K
    refine wl_v (x_assign ev_c) ?_
    refine wl_v (x_assign (ev_cN 0)) ?_
    refine wl_nil ?_
    refine then_n (hK1 _ _ ?_); clear hK1 K1
    refine wp_seq_k ?_; intro K2 hK2
    refine wp_seq_k ?_; intro K3 hK3
    refine wlit ?_
    refine wl_v (x_move (tmS rfl rfl)) ?_
    refine wl_v (x_len Tryd.underlying22 (tmS rfl rfl)) ?_
    refine wl_v (x_lss (tmI rfl rfl) (ev_cN 40)) ?_
    refine wl_nil ?_
    refine then_n (hK3 _ _ ?_); clear hK3 K3
    refine cnds (tm rfl) (fun hc0 => ?_) (fun hc0 => ?_)
    · exfalso
      simp only [nrm] at hc0
      omega
    all_goals
     try simp only [nrm] at hc0
     refine wp_seq_k ?_; intro K4 hK4
     refine wlit ?_
     refine wl_v (x_build (bc_skip (.int .u8 0) <| bc_skip (.int .u32 0) <| bc_skip (.int .i64 0) <| bc_skip (.int .u8 0) <| bc_skip (.int .u8 0) <| bc_skipL [.bool false, .int .u64 0, .int .u64 0] <| bc_skipL [.bool false, .int .u64 0, .int .u64 0] <| bc_nil) (by kernel_rfl)) ?_
     refine wl_e rfl ?_; intro K hK
     refine ow_storeA hS 0 rfl ts_82 (tmP rfl rfl) (tmA rfl rfl) rfl rfl rfl ?_
     clear hS; intro w hS
     try replace hS := St.nm (M' := [.blk _ _ [_, _, _, _, _, _, _, _, _, _, _], .vw _ _]) hS rfl
     refine hK _ _ ?_; clear hK K
     refine wl_v (x_assign ev_c) ?_
     refine wl_v (x_assign (ev_cN 20)) ?_
     refine wl_nil ?_
     refine then_n (hK4 _ _ ?_); clear hK4 K4
     refine wp_ret ?_
     refine then_r ?_
     refine ret3 rfl (.cell rfl rfl (load_rowB (cs := [_, _, _, _, _, _, _, _, _, _, _]) hS.ok 0 rfl Tryd.underlying82 rfl ts_82 rfl)) (.tmp rfl (show _ = Value.slice _ _ _ from rfl)) (.tmp rfl (show _ = Value.int _ _ from rfl)) ?_
     exact ⟨rfl, hS.kp⟩
  obtain ⟨n40, six, cut⟩ : 40 ≤ n ∧ nth l 0 / 16 = 6 ∧ n - 40 < getN l 4 2 := by
    rcases h with h | h
    · omega
    · exact h
  rw [← six_first hb (by omega)] at six
  have hF := getN_lt hb 0 4
  obtain ⟨len, hle⟩ : ∃ len, getN l 4 2 = len := ⟨_, rfl⟩
  have hle' : getN l (0 + 4) 2 = len := hle
  have hle2 := getN_lt hb 4 2
  refine ent (n := 61) Tryd.func31 rfl rfl ?_
  refine wp_seq_k ?_; intro K1 hK1
  refine wlit ?_
  refine wl_e rfl ?_; intro K hK
  refine ow_alloc hS tz_82 rfl ?_
  clear hS; intro g0_0 w hg0_0 hS
  refine hK _ _ ?_; clear hK K
  refine wl_v (x_assign ev_c) ?_
  refine wl_v (x_assign (ev_cN 0)) ?_
  refine wl_nil ?_
  refine then_n (hK1 _ _ ?_); clear hK1 K1
  refine wp_seq_k ?_; intro K2 hK2
  refine wp_seq_k ?_; intro K3 hK3
  refine wlit ?_
  refine wl_v (x_move (tmS rfl rfl)) ?_
  refine wl_v (x_len Tryd.underlying22 (tmS rfl rfl)) ?_
  refine wl_v (x_lss (tmI rfl rfl) (ev_cN 40)) ?_
  refine wl_nil ?_
  refine then_n (hK3 _ _ ?_); clear hK3 K3
  refine cnd (tm rfl) (fun hc0 => ?_) (fun hc0 => ?_)
  · exfalso
    simp only [nrm] at hc0
    omega
  all_goals
   try simp only [nrm] at hc0
   refine wp_skip ?_
   refine then_n (hK2 _ _ ?_); clear hK2 K2
   refine wp_seq_k ?_; intro K4 hK4
   refine wlit ?_
   refine wl_v (x_move (tmS rfl rfl)) ?_
   refine wl_e rfl ?_; intro K hK
   refine ow_call Tryd.func52 rfl rfl (evs_cons (tmS rfl rfl) <| evs_nil) (read_c n A c l _ (viewV hS.ok 1 rfl) hl hn4) ?_
   rintro e w ⟨gr, A0, rfl, hS2⟩
   refine ⟨_, rfl, ?_⟩
   replace hS := hS.adds hS2 rfl -- +gr,rowb
   clear hS2
   have hA : Off A0 0 n A0 := off_zero
   have hcp : n - 0 ≤ n := by omega
   refine hK _ _ ?_; clear hK K
   refine wl_v (x_assign (tmP rfl rfl)) ?_
   refine wl_nil ?_
   refine then_n (hK4 _ _ ?_); clear hK4 K4
   refine wp_seq_k ?_; intro K5 hK5
   refine wlit ?_
   refine wl_v (x_move (tmP rfl rfl)) ?_
   refine wl_e rfl ?_; intro K hK
   refine ow_call Tryd.func53 rfl rfl (evs_cons (tmP rfl rfl) <| evs_nil) (long_c gr A0 _ _ n _ l false _ _ (hS.enter [0] [1] rfl rfl) hA (by omega) hcp hl hb) ?_
   rintro e w ⟨A1, c1, rfl, hS2, hA, hcp⟩
   refine ⟨_, rfl, ?_⟩
   replace hS := hS.turn 0 rfl rfl hS2 rfl
   clear hS2
   try replace hS := St.nm (M' := [_, .row _ _ _ _ _, .blk _ _ [_, _, _, _, _, _, _, _, _, _, _], .vw _ _]) hS rfl
   refine hK _ _ ?_; clear hK K
   refine wl_v (x_assign (tmI rfl rfl)) ?_
   refine wl_nil ?_
   refine then_n (hK5 _ _ ?_); clear hK5 K5
   refine wp_seq_k ?_; intro K6 hK6
   refine wp_seq_k ?_; intro K7 hK7
   refine wlit ?_
   refine wl_v (x_move (tmI rfl rfl)) ?_
   refine wl_v (x_shrN (tmI rfl rfl) (ev_cN 28) (fit_u32 (by omega))) ?_
   refine wl_v (x_neq (tmI rfl rfl) (ev_cN 6)) ?_
   refine wl_nil ?_
   refine then_n (hK7 _ _ ?_); clear hK7 K7
   refine cnd (tm rfl) (fun hc1 => ?_) (fun hc1 => ?_)
   · exfalso
     simp only [nrm] at hc1
     omega
   all_goals
    try simp only [nrm] at hc1
    refine wp_skip ?_
    refine then_n (hK6 _ _ ?_); clear hK6 K6
    refine wp_seq_k ?_; intro K8 hK8
    refine wlit ?_
    refine wl_v (x_move (tmI rfl rfl)) ?_
    refine wl_v (x_shrN (tmI rfl rfl) (ev_cN 20) (fit_u32 (by omega))) ?_
    refine wl_v (x_convU Tryd.underlying30 Tryd.underlying5 (tmI rfl rfl) rfl) ?_
    refine wl_v (x_move (tmI rfl rfl)) ?_
    refine wl_v (x_andN (tmI rfl rfl) (ev_cN 1048575) (fit_u32 (by omega)) (fit_u32 (by omega))) ?_
    refine wl_v (x_build (bc_take (tmI rfl rfl) <| bc_take (tmI rfl rfl) <| bc_skip (.int .i64 0) <| bc_skip (.int .u8 0) <| bc_skip (.int .u8 0) <| bc_skipL [.bool false, .int .u64 0, .int .u64 0] <| bc_skipL [.bool false, .int .u64 0, .int .u64 0] <| bc_nil) (by kernel_rfl)) ?_
    refine wl_e rfl ?_; intro K hK
    refine ow_alloc hS tz_82 rfl ?_
    clear hS; intro g7_6 w hg7_6 hS
    refine hK _ _ ?_; clear hK K
    refine wl_e rfl ?_; intro K hK
    refine ow_storeA hS 0 rfl ts_82 (tmP rfl rfl) (tmA rfl rfl) rfl rfl rfl ?_
    clear hS; intro w hS
    try replace hS := St.nm (M' := [.blk _ _ [_, _, _, _, _, _, _, _, _, _, _], _, .row _ _ _ _ _, .blk _ _ [_, _, _, _, _, _, _, _, _, _, _], .vw _ _]) hS rfl
    refine hK _ _ ?_; clear hK K
    refine wl_nil ?_
    refine then_n (hK8 _ _ ?_); clear hK8 K8
    refine wp_seq_k ?_; intro K9 hK9
    refine wlit ?_
    refine wl_v (x_move (tmP rfl rfl)) ?_
    refine wl_e rfl ?_; intro K hK
    refine ow_call Tryd.func54 rfl rfl (evs_cons (tmP rfl rfl) <| evs_nil) (word_c gr A0 _ _ n _ l false _ _ (hS.enter [1] [2] rfl rfl) hA (by omega) hcp hl hb) ?_
    rintro e w ⟨A1, c1, rfl, hS2, hA, hcp⟩
    refine ⟨_, rfl, ?_⟩
    replace hS := hS.turn 1 rfl rfl hS2 rfl
    clear hS2
    try replace hS := St.nm (M' := [.blk _ _ [_, _, _, _, _, _, _, _, _, _, _], _, .row _ _ _ _ _, .blk _ _ [_, _, _, _, _, _, _, _, _, _, _], .vw _ _]) hS rfl
    refine hK _ _ ?_; clear hK K
    refine wl_v (x_convN Tryd.underlying27 Tryd.underlying3 (tmI rfl (congrArg (fun q : Nat => Value.int .u16 (q : Int)) hle')) (fit_i64 (by omega))) ?_
    refine wl_v (x_move (tmP rfl rfl)) ?_
    refine wl_e rfl ?_; intro K hK
    refine ow_call Tryd.func55 rfl rfl (evs_cons (tmP rfl rfl) <| evs_nil) (byte_c gr A0 _ _ n _ l false _ _ (hS.enter [1] [2] rfl rfl) hA (by omega) hcp hl hb) ?_
    rintro e w ⟨A1, c1, rfl, hS2, hA, hcp⟩
    refine ⟨_, rfl, ?_⟩
    replace hS := hS.turn 1 rfl rfl hS2 rfl
    clear hS2
    try replace hS := St.nm (M' := [.blk _ _ [_, _, _, _, _, _, _, _, _, _, _], _, .row _ _ _ _ _, .blk _ _ [_, _, _, _, _, _, _, _, _, _, _], .vw _ _]) hS rfl
    refine hK _ _ ?_; clear hK K
    refine wl_v (x_move (tmP rfl rfl)) ?_
    refine wl_e rfl ?_; intro K hK
    refine ow_call Tryd.func55 rfl rfl (evs_cons (tmP rfl rfl) <| evs_nil) (byte_c gr A0 _ _ n _ l false _ _ (hS.enter [1] [2] rfl rfl) hA (by omega) hcp hl hb) ?_
    rintro e w ⟨A1, c1, rfl, hS2, hA, hcp⟩
    refine ⟨_, rfl, ?_⟩
    replace hS := hS.turn 1 rfl rfl hS2 rfl
    clear hS2
    try replace hS := St.nm (M' := [.blk _ _ [_, _, _, _, _, _, _, _, _, _, _], _, .row _ _ _ _ _, .blk _ _ [_, _, _, _, _, _, _, _, _, _, _], .vw _ _]) hS rfl
    refine hK _ _ ?_; clear hK K
    refine wl_v (x_fa 2 Tryd.underlying82 rfl rfl ts_3 (tmP rfl rfl)) ?_
    refine wl_e rfl ?_; intro K hK
    refine ow_store hS 0 rfl ts_3 (tmP rfl rfl) (tmI rfl rfl) rfl rfl ?_
    clear hS; intro w hS
    try replace hS := St.nm (M' := [.blk _ _ [_, _, _, _, _, _, _, _, _, _, _], _, .row _ _ _ _ _, .blk _ _ [_, _, _, _, _, _, _, _, _, _, _], .vw _ _]) hS rfl
    refine hK _ _ ?_; clear hK K
    refine wl_v (x_fa 3 Tryd.underlying82 rfl rfl ts_5 (tmP rfl rfl)) ?_
    refine wl_e rfl ?_; intro K hK
    refine ow_store hS 0 rfl ts_5 (tmP rfl rfl) (tmI rfl rfl) rfl rfl ?_
    clear hS; intro w hS
    try replace hS := St.nm (M' := [.blk _ _ [_, _, _, _, _, _, _, _, _, _, _], _, .row _ _ _ _ _, .blk _ _ [_, _, _, _, _, _, _, _, _, _, _], .vw _ _]) hS rfl
    refine hK _ _ ?_; clear hK K
    refine wl_v (x_fa 4 Tryd.underlying82 rfl rfl ts_5 (tmP rfl rfl)) ?_
    refine wl_e rfl ?_; intro K hK
    refine ow_store hS 0 rfl ts_5 (tmP rfl rfl) (tmI rfl rfl) rfl rfl ?_
    clear hS; intro w hS
    try replace hS := St.nm (M' := [.blk _ _ [_, _, _, _, _, _, _, _, _, _, _], _, .row _ _ _ _ _, .blk _ _ [_, _, _, _, _, _, _, _, _, _, _], .vw _ _]) hS rfl
    refine hK _ _ ?_; clear hK K
    refine wl_nil ?_
    refine then_n (hK9 _ _ ?_); clear hK9 K9
    refine wp_seq_k ?_; intro K10 hK10
    refine wlit ?_
    refine wl_v (x_move (tmP rfl rfl)) ?_
    refine wl_e rfl ?_; intro K hK
    refine ow_call Tryd.func57 rfl rfl (evs_cons (tmP rfl rfl) <| evs_cons (ev_cN 16) <| evs_nil) (bytes_c gr A0 A1 _ 16 n _ l false _ _ (hS.enter [1] [2] rfl rfl) hA (by omega) hcp) ?_
    rintro e w ⟨A2, c2, rfl, hS2, hA2, hcp2⟩
    refine ⟨_, rfl, ?_⟩
    replace hS := hS.turn 1 rfl rfl hS2 rfl
    clear hS2
    try replace hS := St.nm (M' := [.blk _ _ [_, _, _, _, _, _, _, _, _, _, _], _, .row _ _ _ _ _, .blk _ _ [_, _, _, _, _, _, _, _, _, _, _], .vw _ _]) hS rfl
    refine hK _ _ ?_; clear hK K
    refine wl_e rfl ?_; intro K hK
    refine ow_call Tryd.func56 rfl rfl (evs_cons (tmS rfl rfl) <| evs_nil) (ad_of16_c A1 _ _ _ (by have h := (NewV.offb (hS.newv 2 rfl) hl hA 16).1; exact h) (by rw [List.length_take, List.length_drop]; omega) ((hb.drop _).take 16)) ?_
    rintro e w ⟨rfl, hk⟩
    refine ⟨_, rfl, ?_⟩
    replace hS := hS.kept hk
    clear hk
    refine hK _ _ ?_; clear hK K
    refine wl_v (x_move (tmT rfl rfl)) ?_
    refine wl_v (x_ext (tmT rfl rfl) rfl) ?_
    refine wl_v (x_ext (tmT rfl rfl) rfl) ?_
    refine wl_v (x_fa 5 Tryd.underlying82 rfl rfl ts_26 (tmP rfl rfl)) ?_
    refine wl_e rfl ?_; intro K hK
    refine ow_storeA hS 0 rfl ts_26 (tmP rfl rfl) (tmA rfl rfl) rfl rfl rfl ?_
    clear hS; intro w hS
    try replace hS := St.nm (M' := [.blk _ _ [_, _, _, _, _, _, _, _, _, _, _], _, .row _ _ _ _ _, .blk _ _ [_, _, _, _, _, _, _, _, _, _, _], .vw _ _]) hS rfl
    refine hK _ _ ?_; clear hK K
    refine wl_nil ?_
    refine then_n (hK10 _ _ ?_); clear hK10 K10
    refine wp_seq_k ?_; intro K11 hK11
    refine wlit ?_
    refine wl_v (x_move (tmP rfl rfl)) ?_
    refine wl_e rfl ?_; intro K hK
    refine ow_call Tryd.func57 rfl rfl (evs_cons (tmP rfl rfl) <| evs_cons (ev_cN 16) <| evs_nil) (bytes_c gr A0 A2 _ 16 n _ l false _ _ (hS.enter [1] [2] rfl rfl) hA2 (by omega) hcp2) ?_
    rintro e w ⟨A3, c3, rfl, hS2, hA3, hcp3⟩
    refine ⟨_, rfl, ?_⟩
    replace hS := hS.turn 1 rfl rfl hS2 rfl
    clear hS2
    try replace hS := St.nm (M' := [.blk _ _ [_, _, _, _, _, _, _, _, _, _, _], _, .row _ _ _ _ _, .blk _ _ [_, _, _, _, _, _, _, _, _, _, _], .vw _ _]) hS rfl
    refine hK _ _ ?_; clear hK K
    refine wl_e rfl ?_; intro K hK
    refine ow_call Tryd.func56 rfl rfl (evs_cons (tmS rfl rfl) <| evs_nil) (ad_of16_c A2 _ _ _ (by have h := (NewV.offb (hS.newv 2 rfl) hl hA2 16).1; exact h) (by rw [List.length_take, List.length_drop]; omega) ((hb.drop _).take 16)) ?_
    rintro e w ⟨rfl, hk⟩
    refine ⟨_, rfl, ?_⟩
    replace hS := hS.kept hk
    clear hk
    refine hK _ _ ?_; clear hK K
    refine wl_v (x_move (tmT rfl rfl)) ?_
    refine wl_v (x_ext (tmT rfl rfl) rfl) ?_
    refine wl_v (x_ext (tmT rfl rfl) rfl) ?_
    refine wl_v (x_fa 8 Tryd.underlying82 rfl rfl ts_26 (tmP rfl rfl)) ?_
    refine wl_e rfl ?_; intro K hK
    refine ow_storeA hS 0 rfl ts_26 (tmP rfl rfl) (tmA rfl rfl) rfl rfl rfl ?_
    clear hS; intro w hS
    try replace hS := St.nm (M' := [.blk _ _ [_, _, _, _, _, _, _, _, _, _, _], _, .row _ _ _ _ _, .blk _ _ [_, _, _, _, _, _, _, _, _, _, _], .vw _ _]) hS rfl
    refine hK _ _ ?_; clear hK K
    refine wl_nil ?_
    refine then_n (hK11 _ _ ?_); clear hK11 K11
    refine wp_seq_k ?_; intro K12 hK12
    refine wp_seq_k ?_; intro K13 hK13
    refine rg_startk 0 hS mixed_ ?_
    clear hS; intro w hS
    refine rg_take 0 rfl rfl (by kernel_rfl) (by kernel_rfl) (by kernel_rfl) (want_0) (fun w hok => x_move (tmP rfl rfl)) ?_
    refine rg_take 2 rfl rfl (by kernel_rfl) (by kernel_rfl) (by kernel_rfl) (want_0) (fun w hok => x_fa 2 Tryd.underlying82 rfl rfl ts_3 (tmP rfl rfl)) ?_
    refine rg_take 3 rfl rfl (by kernel_rfl) (by kernel_rfl) (by kernel_rfl) (want_0) (fun w hok => x_load Tryd.underlying3 rfl (tmP rfl rfl) (cellB hok 0 rfl rfl)) ?_
    refine rg_step 1 rfl (by kernel_rfl) (want_0) (oks_drop hS 0 rfl) ?_; intro K hK
    refine ow_call Tryd.func58 rfl rfl (evs_cons (tmP rfl rfl) <| evs_nil) (left_c gr _ _ _ _ _ (viewB hS.ok 1 rfl)) ?_
    rintro e w ⟨rfl, hk⟩
    refine ⟨_, rfl, ?_⟩
    replace hS := hS.kept hk
    clear hk
    refine hK _ _ ?_; clear hK K
    refine rg_take 4 rfl rfl (by kernel_rfl) (by kernel_rfl) (by kernel_rfl) (want_0) (fun w hok => x_lss (tmI rfl rfl) (tmI rfl rfl)) ?_
    refine rg_done (oks_drop hS 0 rfl) (by kernel_rfl) ?_
    refine then_n (hK13 _ _ ?_); clear hK13 K13
    refine cnds (tm rfl) (fun hc2 => ?_) (fun hc2 => ?_)
    · exfalso
      simp only [nrm] at hc2
      omega
    all_goals
     try simp only [nrm] at hc2
     refine wp_seq_k ?_; intro K14 hK14
     refine wlit ?_
     refine wl_v (x_build (bc_skip (.int .u8 0) <| bc_skip (.int .u32 0) <| bc_skip (.int .i64 0) <| bc_skip (.int .u8 0) <| bc_skip (.int .u8 0) <| bc_skipL [.bool false, .int .u64 0, .int .u64 0] <| bc_skipL [.bool false, .int .u64 0, .int .u64 0] <| bc_nil) (by kernel_rfl)) ?_
     refine wl_e rfl ?_; intro K hK
     refine ow_storeA hS 3 rfl ts_82 (tmP rfl rfl) (tmA rfl rfl) rfl rfl rfl ?_
     clear hS; intro w hS
     try replace hS := St.nm (M' := [.blk _ _ [_, _, _, _, _, _, _, _, _, _, _], _, .row _ _ _ _ _, .blk _ _ [_, _, _, _, _, _, _, _, _, _, _], .vw _ _]) hS rfl
     refine hK _ _ ?_; clear hK K
     refine wl_v (x_assign ev_c) ?_
     refine wl_v (x_assign (ev_cN 20)) ?_
     refine wl_nil ?_
     refine then_n (hK14 _ _ ?_); clear hK14 K14
     refine wp_ret ?_
     refine then_r ?_
     refine ret3 rfl (.cell rfl rfl (load_rowB (cs := [_, _, _, _, _, _, _, _, _, _, _]) hS.ok 3 rfl Tryd.underlying82 rfl ts_82 rfl)) (.tmp rfl (show _ = Value.slice _ _ _ from rfl)) (.tmp rfl (show _ = Value.int _ _ from rfl)) ?_
     exact ⟨rfl, hS.kp⟩

set_option maxRecDepth 100000 in
set_option maxHeartbeats 8000000 in
theorem rip6_parse_bad (n : Nat) (A : Option Addr) (c : Nat) (l : List Nat) (w0 : World) (hv : View w0 w0.heap.size A (l.map u8v)) (hl : l.length = n) (hc : n ≤ c) (hb : Bytes l) (hn4 : n ≤ 1000000) (h : Ip6Bad l n) :
    Calls Tryd.prog 39 #[.slice A n c] w0 fun e w' => e = .returned (.tuple #[.agg (hd6V 0 0 0 0 0 ad0_ ad0_).toArray, .slice none 0 0, .int .i64 20]) ∧ Kp [] w0 w' := by
  have hS := (St.sv w0).vcons rfl hv
  by_cases h20 : n < 40
  · skip
    refine ent (n := 75) Tryd.func39 rfl rfl ?_
    refine wp_seq_k ?_; intro K1 hK1
    refine wlit ?_
    refine wl_e rfl ?_; intro K hK
    refine ow_alloc hS tz_95 rfl ?_
    clear hS; intro g0_0 w hg0_0 hS
    refine hK _ _ ?_; clear hK K
    refine wl_v (x_assign ev_c) ?_
    refine wl_v (x_assign (ev_cN 0)) ?_
    refine wl_nil ?_
    refine then_n (hK1 _ _ ?_); clear hK1 K1
    refine wp_seq_k ?_; intro K2 hK2
    refine wp_seq_k ?_; intro K3 hK3
    refine wlit ?_
    refine wl_v (x_move (tmS rfl rfl)) ?_
    refine wl_v (x_len Tryd.underlying22 (tmS rfl rfl)) ?_
    refine wl_v (x_lss (tmI rfl rfl) (ev_cN 40)) ?_
    refine wl_nil ?_
    refine then_n (hK3 _ _ ?_); clear hK3 K3
    refine cnds (tm rfl) (fun hc0 => ?_) (fun hc0 => ?_)
    · exfalso
      simp only [nrm] at hc0
      omega
    all_goals
     try simp only [nrm] at hc0
     refine wp_seq_k ?_; intro K4 hK4
     refine wlit ?_
     refine wl_v (x_build (bc_skip (.int .u8 0) <| bc_skip (.int .u32 0) <| bc_skip (.int .i64 0) <| bc_skip (.int .u8 0) <| bc_skip (.int .u8 0) <| bc_skipL [.bool false, .int .u64 0, .int .u64 0] <| bc_skipL [.bool false, .int .u64 0, .int .u64 0] <| bc_nil) (by kernel_rfl)) ?_
     refine wl_e rfl ?_; intro K hK
     refine ow_storeA hS 0 rfl ts_95 (tmP rfl rfl) (tmA rfl rfl) rfl rfl rfl ?_
     clear hS; intro w hS
     try replace hS := St.nm (M' := [.blk _ _ [_, _, _, _, _, _, _, _, _, _, _], .vw _ _]) hS rfl
     refine hK _ _ ?_; clear hK K
     refine wl_v (x_assign ev_c) ?_
     refine wl_v (x_assign (ev_cN 20)) ?_
     refine wl_nil ?_
     refine then_n (hK4 _ _ ?_); clear hK4 K4
     refine wp_ret ?_
     refine then_r ?_
     refine ret3 rfl (.cell rfl rfl (load_rowB (cs := [_, _, _, _, _, _, _, _, _, _, _]) hS.ok 0 rfl Tryd.underlying95 rfl ts_95 rfl)) (.tmp rfl (show _ = Value.slice _ _ _ from rfl)) (.tmp rfl (show _ = Value.int _ _ from rfl)) ?_
     exact ⟨rfl, hS.kp⟩
  obtain ⟨n40, six, cut⟩ : 40 ≤ n ∧ nth l 0 / 16 = 6 ∧ n - 40 < getN l 4 2 := by
    rcases h with h | h
    · omega
    · exact h
  obtain ⟨b4, o4, rfl⟩ := view_some hv (by rw [List.length_map]; omega)
  have hq : l.getD 0 0 = nth l 0 := rfl
  have hq1 : l.getD 1 0 = nth l 1 := rfl
  have hqb := nth_lt hb 0
  have hqb1 := nth_lt hb 1
  obtain ⟨len, hle⟩ : ∃ len, getN l 4 2 = len := ⟨_, rfl⟩
  have hle2 := getN_lt hb 4 2
  have h2_ := getN_lt hb 2 2
  refine ent (n := 75) Tryd.func39 rfl rfl ?_
  refine wp_seq_k ?_; intro K1 hK1
  refine wlit ?_
  refine wl_e rfl ?_; intro K hK
  refine ow_alloc hS tz_95 rfl ?_
  clear hS; intro g0_0 w hg0_0 hS
  refine hK _ _ ?_; clear hK K
  refine wl_v (x_assign ev_c) ?_
  refine wl_v (x_assign (ev_cN 0)) ?_
  refine wl_nil ?_
  refine then_n (hK1 _ _ ?_); clear hK1 K1
  refine wp_seq_k ?_; intro K2 hK2
  refine wp_seq_k ?_; intro K3 hK3
  refine wlit ?_
  refine wl_v (x_move (tmS rfl rfl)) ?_
  refine wl_v (x_len Tryd.underlying22 (tmS rfl rfl)) ?_
  refine wl_v (x_lss (tmI rfl rfl) (ev_cN 40)) ?_
  refine wl_nil ?_
  refine then_n (hK3 _ _ ?_); clear hK3 K3
  refine cnd (tm rfl) (fun hc0 => ?_) (fun hc0 => ?_)
  · exfalso
    simp only [nrm] at hc0
    omega
  all_goals
   try simp only [nrm] at hc0
   refine wp_skip ?_
   refine then_n (hK2 _ _ ?_); clear hK2 K2
   refine wp_seq_k ?_; intro K4 hK4
   refine wp_seq_k ?_; intro K5 hK5
   refine wlit ?_
   refine wl_v (x_move (tmS rfl rfl)) ?_
   refine wl_v (x_ixs1 Tryd.underlying22 ts_5 (tmS rfl rfl) (ev_cN 0) (by omega)) ?_
   refine wl_v (x_load Tryd.underlying5 rfl (tmP rfl rfl) (cellV hS.ok 1 rfl (getm (by omega)))) ?_
   refine wl_v (x_quoN (tmI rfl rfl) (ev_cN 16) (by omega) (fit_u8 (by omega))) ?_
   refine wl_v (x_neq (tmI rfl rfl) (ev_cN 6)) ?_
   refine wl_nil ?_
   refine then_n (hK5 _ _ ?_); clear hK5 K5
   refine cnd (tm rfl) (fun hc1 => ?_) (fun hc1 => ?_)
   · exfalso
     simp only [nrm] at hc1
     omega
   all_goals
    try simp only [nrm] at hc1
    refine wp_skip ?_
    refine then_n (hK4 _ _ ?_); clear hK4 K4
    refine wp_seq_k ?_; intro K6 hK6
    refine rg_startk 0 hS mixed_ ?_
    clear hS; intro w hS
    refine rg_take 0 rfl rfl (by kernel_rfl) (by kernel_rfl) (by kernel_rfl) (want_0) (fun w hok => x_move (tmS rfl rfl)) ?_
    refine rg_take 1 rfl rfl (by kernel_rfl) (by kernel_rfl) (by kernel_rfl) (want_0) (fun w hok => x_ixs1 Tryd.underlying22 ts_5 (tmS rfl rfl) (ev_cN 0) (by omega)) ?_
    refine rg_take 2 rfl rfl (by kernel_rfl) (by kernel_rfl) (by kernel_rfl) (want_0) (fun w hok => x_load Tryd.underlying5 rfl (tmP rfl rfl) (cellV hok 1 rfl (getm (by omega)))) ?_
    refine rg_take 3 rfl rfl (by kernel_rfl) (by kernel_rfl) (by kernel_rfl) (want_0) (fun w hok => x_remN (tmI rfl rfl) (ev_cN 16) (by omega)) ?_
    refine rg_take 4 rfl rfl (by kernel_rfl) (by kernel_rfl) (by kernel_rfl) (want_0) (fun w hok => x_mulN (tmI rfl rfl) (ev_cN 16) (fit_u8 (by omega))) ?_
    refine rg_take 5 rfl rfl (by kernel_rfl) (by kernel_rfl) (by kernel_rfl) (want_0) (fun w hok => x_move (tmS rfl rfl)) ?_
    refine rg_take 6 rfl rfl (by kernel_rfl) (by kernel_rfl) (by kernel_rfl) (want_0) (fun w hok => x_ixs1 Tryd.underlying22 ts_5 (tmS rfl rfl) (ev_cN 1) (by omega)) ?_
    refine rg_take 7 rfl rfl (by kernel_rfl) (by kernel_rfl) (by kernel_rfl) (want_0) (fun w hok => x_load Tryd.underlying5 rfl (tmP rfl rfl) (cellV hok 1 rfl (getm (by omega)))) ?_
    refine rg_take 8 rfl rfl (by kernel_rfl) (by kernel_rfl) (by kernel_rfl) (want_0) (fun w hok => x_quoN (tmI rfl rfl) (ev_cN 16) (by omega) (fit_u8 (by omega))) ?_
    refine rg_take 9 rfl rfl (by kernel_rfl) (by kernel_rfl) (by kernel_rfl) (want_0) (fun w hok => x_addN (tmI rfl rfl) (tmI rfl rfl) (fit_u8 (by omega))) ?_
    refine rg_take 10 rfl rfl (by kernel_rfl) (by kernel_rfl) (by kernel_rfl) (want_0) (fun w hok => x_move (tmS rfl rfl)) ?_
    refine rg_take 11 rfl rfl (by kernel_rfl) (by kernel_rfl) (by kernel_rfl) (want_0) (fun w hok => x_ixs1 Tryd.underlying22 ts_5 (tmS rfl rfl) (ev_cN 1) (by omega)) ?_
    refine rg_take 12 rfl rfl (by kernel_rfl) (by kernel_rfl) (by kernel_rfl) (want_0) (fun w hok => x_load Tryd.underlying5 rfl (tmP rfl rfl) (cellV hok 1 rfl (getm (by omega)))) ?_
    refine rg_take 13 rfl rfl (by kernel_rfl) (by kernel_rfl) (by kernel_rfl) (want_0) (fun w hok => x_remN (tmI rfl rfl) (ev_cN 16) (by omega)) ?_
    refine rg_take 14 rfl rfl (by kernel_rfl) (by kernel_rfl) (by kernel_rfl) (want_0) (fun w hok => x_convN Tryd.underlying5 Tryd.underlying30 (tmI rfl rfl) (fit_u32 (by omega))) ?_
    refine rg_take 15 rfl rfl (by kernel_rfl) (by kernel_rfl) (by kernel_rfl) (want_0) (fun w hok => x_mulN (tmI rfl rfl) (ev_cN 65536) (fit_u32 (by omega))) ?_
    refine rg_take 16 rfl rfl (by kernel_rfl) (by kernel_rfl) (by kernel_rfl) (want_0) (fun w hok => x_move (tmS rfl rfl)) ?_
    refine rg_take 20 rfl rfl (by kernel_rfl) (by kernel_rfl) (by kernel_rfl) (want_0) (fun w hok => x_move (tmS rfl rfl)) ?_
    refine rg_take 23 rfl rfl (by kernel_rfl) (by kernel_rfl) (by kernel_rfl) (want_0) (fun w hok => x_move (tmS rfl rfl)) ?_
    refine rg_take 24 rfl rfl (by kernel_rfl) (by kernel_rfl) (by kernel_rfl) (want_0) (fun w hok => x_ixs1 Tryd.underlying22 ts_5 (tmS rfl rfl) (ev_cN 6) (by omega)) ?_
    refine rg_take 25 rfl rfl (by kernel_rfl) (by kernel_rfl) (by kernel_rfl) (want_0) (fun w hok => x_load Tryd.underlying5 rfl (tmP rfl rfl) (cellV hok 1 rfl (getm (by omega)))) ?_
    refine rg_take 26 rfl rfl (by kernel_rfl) (by kernel_rfl) (by kernel_rfl) (want_0) (fun w hok => x_move (tmS rfl rfl)) ?_
    refine rg_take 27 rfl rfl (by kernel_rfl) (by kernel_rfl) (by kernel_rfl) (want_0) (fun w hok => x_ixs1 Tryd.underlying22 ts_5 (tmS rfl rfl) (ev_cN 7) (by omega)) ?_
    refine rg_take 28 rfl rfl (by kernel_rfl) (by kernel_rfl) (by kernel_rfl) (want_0) (fun w hok => x_load Tryd.underlying5 rfl (tmP rfl rfl) (cellV hok 1 rfl (getm (by omega)))) ?_
    refine rg_step2 17 30 rfl rfl (by kernel_rfl) (want_0) (want_0) (oks_drop hS 0 rfl) ?_ ?_
    · intro K hK
      refine ow_call Tryd.func45 rfl rfl (evs_cons (tmS rfl rfl) <| evs_cons (ev_cN 2) <| evs_cons (ev_cN 2) <| evs_nil) (get_c n _ c l _ _ _ (viewV hS.ok 1 rfl) hl hc hn4 hb (by omega) (by omega)) ?_
      rintro e w ⟨rfl, hk⟩
      refine ⟨_, rfl, ?_⟩
      replace hS := hS.kept hk
      clear hk
      refine hK _ _ ?_; clear hK K
      refine rg_take 18 rfl rfl (by kernel_rfl) (by kernel_rfl) (by kernel_rfl) (want_0) (fun w hok => x_convN Tryd.underlying24 Tryd.underlying30 (tmI rfl rfl) (fit_u32 (by omega))) ?_
      refine rg_take 19 rfl rfl (by kernel_rfl) (by kernel_rfl) (by kernel_rfl) (want_0) (fun w hok => x_addN (tmI rfl rfl) (tmI rfl rfl) (fit_u32 (by omega))) ?_
      refine rg_step2 21 30 rfl rfl (by kernel_rfl) (want_0) (want_0) (oks_drop hS 0 rfl) ?_ ?_
      · intro K hK
        refine ow_call Tryd.func45 rfl rfl (evs_cons (tmS rfl rfl) <| evs_cons (ev_cN 4) <| evs_cons (ev_cN 2) <| evs_nil) (get_c n _ c l _ _ _ (viewV hS.ok 1 rfl) hl hc hn4 hb (by omega) (by omega)) ?_
        rintro e w ⟨rfl, hk⟩
        refine ⟨_, rfl, ?_⟩
        replace hS := hS.kept hk
        clear hk
        refine hK _ _ ?_; clear hK K
        refine rg_take 22 rfl rfl (by kernel_rfl) (by kernel_rfl) (by kernel_rfl) (want_0) (fun w hok => x_convN Tryd.underlying24 Tryd.underlying3 (tmI rfl (congrArg (fun q : Nat => Value.int .u64 (q : Int)) hle)) (fit_i64 (by omega))) ?_
        refine rg_take 29 rfl rfl (by kernel_rfl) (by kernel_rfl) (by kernel_rfl) (want_0) (fun w hok => x_build (bc_take (tmI rfl rfl) <| bc_take (tmI rfl rfl) <| bc_take (tmI rfl rfl) <| bc_take (tmI rfl rfl) <| bc_take (tmI rfl rfl) <| bc_skipL [.bool false, .int .u64 0, .int .u64 0] <| bc_skipL [.bool false, .int .u64 0, .int .u64 0] <| bc_nil) (by kernel_rfl)) ?_
        refine rg_step 30 rfl (by kernel_rfl) (want_0) (oks_drop hS 0 rfl) ?_; intro K hK
        refine ow_alloc hS tz_95 rfl ?_
        clear hS; intro g5_30 w hg5_30 hS
        refine hK _ _ ?_; clear hK K
        refine rg_step 31 rfl (by kernel_rfl) (want_0) (oks_drop hS 1 rfl) ?_; intro K hK
        refine ow_storeA hS 0 rfl ts_95 (tmP rfl rfl) (tmA rfl rfl) rfl rfl rfl ?_
        clear hS; intro w hS
        try replace hS := St.nm (M' := [.blk _ _ [_, _, _, _, _, _, _, _, _, _, _], .blk _ _ [_, _, _, _, _, _, _, _, _, _, _], .vw _ _]) hS rfl
        refine hK _ _ ?_; clear hK K
        refine rg_done (oks_drop hS 1 rfl) (by kernel_rfl) ?_
        refine then_n (hK6 _ _ ?_); clear hK6 K6
        refine wp_seq_k ?_; intro K7 hK7
        refine wlit ?_
        refine wl_v (x_move (tmS rfl rfl)) ?_
        refine wl_v (x_sliceLH Tryd.underlying22 ts_5 (tmS rfl rfl) (ev_cN 8) (ev_cN 24) (by omega)) ?_
        replace hS := hS.cutb 2 8 16 rfl (by omega : l.length ≤ c)
        refine wl_e rfl ?_; intro K hK
        refine ow_call Tryd.func67 rfl rfl (evs_cons (tmS rfl rfl) <| evs_nil) (rad_of16_c _ _ _ _ (viewV hS.ok 0 rfl) (by rw [List.length_take, List.length_drop]; omega) (by omega) ((hb.drop _).take 16)) ?_
        rintro e w ⟨rfl, hk⟩
        refine ⟨_, rfl, ?_⟩
        replace hS := hS.kept hk
        clear hk
        refine hK _ _ ?_; clear hK K
        refine wl_v (x_move (tmT rfl rfl)) ?_
        refine wl_v (x_ext (tmT rfl rfl) rfl) ?_
        refine wl_v (x_ext (tmT rfl rfl) rfl) ?_
        refine wl_v (x_fa 5 Tryd.underlying95 rfl rfl ts_26 (tmP rfl rfl)) ?_
        refine wl_e rfl ?_; intro K hK
        refine ow_storeA hS 1 rfl ts_26 (tmP rfl rfl) (tmA rfl rfl) rfl rfl rfl ?_
        clear hS; intro w hS
        try replace hS := St.nm (M' := [.vw _ _, .blk _ _ [_, _, _, _, _, _, _, _, _, _, _], .blk _ _ [_, _, _, _, _, _, _, _, _, _, _], .vw _ _]) hS rfl
        refine hK _ _ ?_; clear hK K
        refine wl_nil ?_
        refine then_n (hK7 _ _ ?_); clear hK7 K7
        refine wp_seq_k ?_; intro K8 hK8
        refine wlit ?_
        refine wl_v (x_move (tmS rfl rfl)) ?_
        refine wl_v (x_sliceLH Tryd.underlying22 ts_5 (tmS rfl rfl) (ev_cN 24) (ev_cN 40) (by omega)) ?_
        replace hS := hS.cutb 3 24 16 rfl (by omega : l.length ≤ c)
        refine wl_e rfl ?_; intro K hK
        refine ow_call Tryd.func67 rfl rfl (evs_cons (tmS rfl rfl) <| evs_nil) (rad_of16_c _ _ _ _ (viewV hS.ok 0 rfl) (by rw [List.length_take, List.length_drop]; omega) (by omega) ((hb.drop _).take 16)) ?_
        rintro e w ⟨rfl, hk⟩
        refine ⟨_, rfl, ?_⟩
        replace hS := hS.kept hk
        clear hk
        refine hK _ _ ?_; clear hK K
        refine wl_v (x_move (tmT rfl rfl)) ?_
        refine wl_v (x_ext (tmT rfl rfl) rfl) ?_
        refine wl_v (x_ext (tmT rfl rfl) rfl) ?_
        refine wl_v (x_fa 8 Tryd.underlying95 rfl rfl ts_26 (tmP rfl rfl)) ?_
        refine wl_e rfl ?_; intro K hK
        refine ow_storeA hS 2 rfl ts_26 (tmP rfl rfl) (tmA rfl rfl) rfl rfl rfl ?_
        clear hS; intro w hS
        try replace hS := St.nm (M' := [.vw _ _, .vw _ _, .blk _ _ [_, _, _, _, _, _, _, _, _, _, _], .blk _ _ [_, _, _, _, _, _, _, _, _, _, _], .vw _ _]) hS rfl
        refine hK _ _ ?_; clear hK K
        refine wl_nil ?_
        refine then_n (hK8 _ _ ?_); clear hK8 K8
        refine wp_seq_k ?_; intro K9 hK9
        refine wp_seq_k ?_; intro K10 hK10
        refine wlit ?_
        refine wl_v (x_fa 2 Tryd.underlying95 rfl rfl ts_3 (tmP rfl rfl)) ?_
        refine wl_v (x_load Tryd.underlying3 rfl (tmP rfl rfl) (cellB hS.ok 2 rfl rfl)) ?_
        refine wl_v (x_move (tmS rfl rfl)) ?_
        refine wl_v (x_len Tryd.underlying22 (tmS rfl rfl)) ?_
        refine wl_v (x_subN (tmI rfl rfl) (ev_cN 40) (fit_i64 (by omega)) (by omega)) ?_
        refine wl_v (x_gtr (tmI rfl rfl) (tmI rfl rfl)) ?_
        refine wl_nil ?_
        refine then_n (hK10 _ _ ?_); clear hK10 K10
        refine cnds (tm rfl) (fun hc2 => ?_) (fun hc2 => ?_)
        · exfalso
          simp only [nrm] at hc2
          omega
        all_goals
         try simp only [nrm] at hc2
         refine wp_seq_k ?_; intro K11 hK11
         refine wlit ?_
         refine wl_v (x_build (bc_skip (.int .u8 0) <| bc_skip (.int .u32 0) <| bc_skip (.int .i64 0) <| bc_skip (.int .u8 0) <| bc_skip (.int .u8 0) <| bc_skipL [.bool false, .int .u64 0, .int .u64 0] <| bc_skipL [.bool false, .int .u64 0, .int .u64 0] <| bc_nil) (by kernel_rfl)) ?_
         refine wl_e rfl ?_; intro K hK
         refine ow_storeA hS 3 rfl ts_95 (tmP rfl rfl) (tmA rfl rfl) rfl rfl rfl ?_
         clear hS; intro w hS
         try replace hS := St.nm (M' := [.vw _ _, .vw _ _, .blk _ _ [_, _, _, _, _, _, _, _, _, _, _], .blk _ _ [_, _, _, _, _, _, _, _, _, _, _], .vw _ _]) hS rfl
         refine hK _ _ ?_; clear hK K
         refine wl_v (x_assign ev_c) ?_
         refine wl_v (x_assign (ev_cN 20)) ?_
         refine wl_nil ?_
         refine then_n (hK11 _ _ ?_); clear hK11 K11
         refine wp_ret ?_
         refine then_r ?_
         refine ret3 rfl (.cell rfl rfl (load_rowB (cs := [_, _, _, _, _, _, _, _, _, _, _]) hS.ok 3 rfl Tryd.underlying95 rfl ts_95 rfl)) (.tmp rfl (show _ = Value.slice _ _ _ from rfl)) (.tmp rfl (show _ = Value.int _ _ from rfl)) ?_
         exact ⟨rfl, hS.kp⟩
      · intro K hK
        refine ow_alloc hS tz_95 rfl ?_
        clear hS; intro g5_30 w hg5_30 hS
        refine hK _ _ ?_; clear hK K
        refine rg_step 21 rfl (by kernel_rfl) (want_0) (oks_drop hS 1 rfl) ?_; intro K hK
        refine ow_call Tryd.func45 rfl rfl (evs_cons (tmS rfl rfl) <| evs_cons (ev_cN 4) <| evs_cons (ev_cN 2) <| evs_nil) (get_c n _ c l _ _ _ (viewV hS.ok 2 rfl) hl hc hn4 hb (by omega) (by omega)) ?_
        rintro e w ⟨rfl, hk⟩
        refine ⟨_, rfl, ?_⟩
        replace hS := hS.kept hk
        clear hk
        refine hK _ _ ?_; clear hK K
        refine rg_take 22 rfl rfl (by kernel_rfl) (by kernel_rfl) (by kernel_rfl) (want_0) (fun w hok => x_convN Tryd.underlying24 Tryd.underlying3 (tmI rfl (congrArg (fun q : Nat => Value.int .u64 (q : Int)) hle)) (fit_i64 (by omega))) ?_
        refine rg_take 29 rfl rfl (by kernel_rfl) (by kernel_rfl) (by kernel_rfl) (want_0) (fun w hok => x_build (bc_take (tmI rfl rfl) <| bc_take (tmI rfl rfl) <| bc_take (tmI rfl rfl) <| bc_take (tmI rfl rfl) <| bc_take (tmI rfl rfl) <| bc_skipL [.bool false, .int .u64 0, .int .u64 0] <| bc_skipL [.bool false, .int .u64 0, .int .u64 0] <| bc_nil) (by kernel_rfl)) ?_
        refine rg_step 31 rfl (by kernel_rfl) (want_0) (oks_drop hS 1 rfl) ?_; intro K hK
        refine ow_storeA hS 0 rfl ts_95 (tmP rfl rfl) (tmA rfl rfl) rfl rfl rfl ?_
        clear hS; intro w hS
        try replace hS := St.nm (M' := [.blk _ _ [_, _, _, _, _, _, _, _, _, _, _], .blk _ _ [_, _, _, _, _, _, _, _, _, _, _], .vw _ _]) hS rfl
        refine hK _ _ ?_; clear hK K
        refine rg_done (oks_drop hS 1 rfl) (by kernel_rfl) ?_
        refine then_n (hK6 _ _ ?_); clear hK6 K6
        refine wp_seq_k ?_; intro K13 hK13
        refine wlit ?_
        refine wl_v (x_move (tmS rfl rfl)) ?_
        refine wl_v (x_sliceLH Tryd.underlying22 ts_5 (tmS rfl rfl) (ev_cN 8) (ev_cN 24) (by omega)) ?_
        replace hS := hS.cutb 2 8 16 rfl (by omega : l.length ≤ c)
        refine wl_e rfl ?_; intro K hK
        refine ow_call Tryd.func67 rfl rfl (evs_cons (tmS rfl rfl) <| evs_nil) (rad_of16_c _ _ _ _ (viewV hS.ok 0 rfl) (by rw [List.length_take, List.length_drop]; omega) (by omega) ((hb.drop _).take 16)) ?_
        rintro e w ⟨rfl, hk⟩
        refine ⟨_, rfl, ?_⟩
        replace hS := hS.kept hk
        clear hk
        refine hK _ _ ?_; clear hK K
        refine wl_v (x_move (tmT rfl rfl)) ?_
        refine wl_v (x_ext (tmT rfl rfl) rfl) ?_
        refine wl_v (x_ext (tmT rfl rfl) rfl) ?_
        refine wl_v (x_fa 5 Tryd.underlying95 rfl rfl ts_26 (tmP rfl rfl)) ?_
        refine wl_e rfl ?_; intro K hK
        refine ow_storeA hS 1 rfl ts_26 (tmP rfl rfl) (tmA rfl rfl) rfl rfl rfl ?_
        clear hS; intro w hS
        try replace hS := St.nm (M' := [.vw _ _, .blk _ _ [_, _, _, _, _, _, _, _, _, _, _], .blk _ _ [_, _, _, _, _, _, _, _, _, _, _], .vw _ _]) hS rfl
        refine hK _ _ ?_; clear hK K
        refine wl_nil ?_
        refine then_n (hK13 _ _ ?_); clear hK13 K13
        refine wp_seq_k ?_; intro K14 hK14
        refine wlit ?_
        refine wl_v (x_move (tmS rfl rfl)) ?_
        refine wl_v (x_sliceLH Tryd.underlying22 ts_5 (tmS rfl rfl) (ev_cN 24) (ev_cN 40) (by omega)) ?_
        replace hS := hS.cutb 3 24 16 rfl (by omega : l.length ≤ c)
        refine wl_e rfl ?_; intro K hK
        refine ow_call Tryd.func67 rfl rfl (evs_cons (tmS rfl rfl) <| evs_nil) (rad_of16_c _ _ _ _ (viewV hS.ok 0 rfl) (by rw [List.length_take, List.length_drop]; omega) (by omega) ((hb.drop _).take 16)) ?_
        rintro e w ⟨rfl, hk⟩
        refine ⟨_, rfl, ?_⟩
        replace hS := hS.kept hk
        clear hk
        refine hK _ _ ?_; clear hK K
        refine wl_v (x_move (tmT rfl rfl)) ?_
        refine wl_v (x_ext (tmT rfl rfl) rfl) ?_
        refine wl_v (x_ext (tmT rfl rfl) rfl) ?_
        refine wl_v (x_fa 8 Tryd.underlying95 rfl rfl ts_26 (tmP rfl rfl)) ?_
        refine wl_e rfl ?_; intro K hK
        refine ow_storeA hS 2 rfl ts_26 (tmP rfl rfl) (tmA rfl rfl) rfl rfl rfl ?_
        clear hS; intro w hS
        try replace hS := St.nm (M' := [.vw _ _, .vw _ _, .blk _ _ [_, _, _, _, _, _, _, _, _, _, _], .blk _ _ [_, _, _, _, _, _, _, _, _, _, _], .vw _ _]) hS rfl
        refine hK _ _ ?_; clear hK K
        refine wl_nil ?_
        refine then_n (hK14 _ _ ?_); clear hK14 K14
        refine wp_seq_k ?_; intro K15 hK15
        refine wp_seq_k ?_; intro K16 hK16
        refine wlit ?_
        refine wl_v (x_fa 2 Tryd.underlying95 rfl rfl ts_3 (tmP rfl rfl)) ?_
        refine wl_v (x_load Tryd.underlying3 rfl (tmP rfl rfl) (cellB hS.ok 2 rfl rfl)) ?_
        refine wl_v (x_move (tmS rfl rfl)) ?_
        refine wl_v (x_len Tryd.underlying22 (tmS rfl rfl)) ?_
        refine wl_v (x_subN (tmI rfl rfl) (ev_cN 40) (fit_i64 (by omega)) (by omega)) ?_
        refine wl_v (x_gtr (tmI rfl rfl) (tmI rfl rfl)) ?_
        refine wl_nil ?_
        refine then_n (hK16 _ _ ?_); clear hK16 K16
        refine cnds (tm rfl) (fun hc2 => ?_) (fun hc2 => ?_)
        · exfalso
          simp only [nrm] at hc2
          omega
        all_goals
         try simp only [nrm] at hc2
         refine wp_seq_k ?_; intro K17 hK17
         refine wlit ?_
         refine wl_v (x_build (bc_skip (.int .u8 0) <| bc_skip (.int .u32 0) <| bc_skip (.int .i64 0) <| bc_skip (.int .u8 0) <| bc_skip (.int .u8 0) <| bc_skipL [.bool false, .int .u64 0, .int .u64 0] <| bc_skipL [.bool false, .int .u64 0, .int .u64 0] <| bc_nil) (by kernel_rfl)) ?_
         refine wl_e rfl ?_; intro K hK
         refine ow_storeA hS 3 rfl ts_95 (tmP rfl rfl) (tmA rfl rfl) rfl rfl rfl ?_
         clear hS; intro w hS
         try replace hS := St.nm (M' := [.vw _ _, .vw _ _, .blk _ _ [_, _, _, _, _, _, _, _, _, _, _], .blk _ _ [_, _, _, _, _, _, _, _, _, _, _], .vw _ _]) hS rfl
         refine hK _ _ ?_; clear hK K
         refine wl_v (x_assign ev_c) ?_
         refine wl_v (x_assign (ev_cN 20)) ?_
         refine wl_nil ?_
         refine then_n (hK17 _ _ ?_); clear hK17 K17
         refine wp_ret ?_
         refine then_r ?_
         refine ret3 rfl (.cell rfl rfl (load_rowB (cs := [_, _, _, _, _, _, _, _, _, _, _]) hS.ok 3 rfl Tryd.underlying95 rfl ts_95 rfl)) (.tmp rfl (show _ = Value.slice _ _ _ from rfl)) (.tmp rfl (show _ = Value.int _ _ from rfl)) ?_
         exact ⟨rfl, hS.kp⟩
    · intro K hK
      refine ow_alloc hS tz_95 rfl ?_
      clear hS; intro g5_30 w hg5_30 hS
      refine hK _ _ ?_; clear hK K
      refine rg_step 17 rfl (by kernel_rfl) (want_0) (oks_drop hS 1 rfl) ?_; intro K hK
      refine ow_call Tryd.func45 rfl rfl (evs_cons (tmS rfl rfl) <| evs_cons (ev_cN 2) <| evs_cons (ev_cN 2) <| evs_nil) (get_c n _ c l _ _ _ (viewV hS.ok 2 rfl) hl hc hn4 hb (by omega) (by omega)) ?_
      rintro e w ⟨rfl, hk⟩
      refine ⟨_, rfl, ?_⟩
      replace hS := hS.kept hk
      clear hk
      refine hK _ _ ?_; clear hK K
      refine rg_take 18 rfl rfl (by kernel_rfl) (by kernel_rfl) (by kernel_rfl) (want_0) (fun w hok => x_convN Tryd.underlying24 Tryd.underlying30 (tmI rfl rfl) (fit_u32 (by omega))) ?_
      refine rg_take 19 rfl rfl (by kernel_rfl) (by kernel_rfl) (by kernel_rfl) (want_0) (fun w hok => x_addN (tmI rfl rfl) (tmI rfl rfl) (fit_u32 (by omega))) ?_
      refine rg_step 21 rfl (by kernel_rfl) (want_0) (oks_drop hS 1 rfl) ?_; intro K hK
      refine ow_call Tryd.func45 rfl rfl (evs_cons (tmS rfl rfl) <| evs_cons (ev_cN 4) <| evs_cons (ev_cN 2) <| evs_nil) (get_c n _ c l _ _ _ (viewV hS.ok 2 rfl) hl hc hn4 hb (by omega) (by omega)) ?_
      rintro e w ⟨rfl, hk⟩
      refine ⟨_, rfl, ?_⟩
      replace hS := hS.kept hk
      clear hk
      refine hK _ _ ?_; clear hK K
      refine rg_take 22 rfl rfl (by kernel_rfl) (by kernel_rfl) (by kernel_rfl) (want_0) (fun w hok => x_convN Tryd.underlying24 Tryd.underlying3 (tmI rfl (congrArg (fun q : Nat => Value.int .u64 (q : Int)) hle)) (fit_i64 (by omega))) ?_
      refine rg_take 29 rfl rfl (by kernel_rfl) (by kernel_rfl) (by kernel_rfl) (want_0) (fun w hok => x_build (bc_take (tmI rfl rfl) <| bc_take (tmI rfl rfl) <| bc_take (tmI rfl rfl) <| bc_take (tmI rfl rfl) <| bc_take (tmI rfl rfl) <| bc_skipL [.bool false, .int .u64 0, .int .u64 0] <| bc_skipL [.bool false, .int .u64 0, .int .u64 0] <| bc_nil) (by kernel_rfl)) ?_
      refine rg_step 31 rfl (by kernel_rfl) (want_0) (oks_drop hS 1 rfl) ?_; intro K hK
      refine ow_storeA hS 0 rfl ts_95 (tmP rfl rfl) (tmA rfl rfl) rfl rfl rfl ?_
      clear hS; intro w hS
      try replace hS := St.nm (M' := [.blk _ _ [_, _, _, _, _, _, _, _, _, _, _], .blk _ _ [_, _, _, _, _, _, _, _, _, _, _], .vw _ _]) hS rfl
      refine hK _ _ ?_; clear hK K
      refine rg_done (oks_drop hS 1 rfl) (by kernel_rfl) ?_
      refine then_n (hK6 _ _ ?_); clear hK6 K6
      refine wp_seq_k ?_; intro K19 hK19
      refine wlit ?_
      refine wl_v (x_move (tmS rfl rfl)) ?_
      refine wl_v (x_sliceLH Tryd.underlying22 ts_5 (tmS rfl rfl) (ev_cN 8) (ev_cN 24) (by omega)) ?_
      replace hS := hS.cutb 2 8 16 rfl (by omega : l.length ≤ c)
      refine wl_e rfl ?_; intro K hK
      refine ow_call Tryd.func67 rfl rfl (evs_cons (tmS rfl rfl) <| evs_nil) (rad_of16_c _ _ _ _ (viewV hS.ok 0 rfl) (by rw [List.length_take, List.length_drop]; omega) (by omega) ((hb.drop _).take 16)) ?_
      rintro e w ⟨rfl, hk⟩
      refine ⟨_, rfl, ?_⟩
      replace hS := hS.kept hk
      clear hk
      refine hK _ _ ?_; clear hK K
      refine wl_v (x_move (tmT rfl rfl)) ?_
      refine wl_v (x_ext (tmT rfl rfl) rfl) ?_
      refine wl_v (x_ext (tmT rfl rfl) rfl) ?_
      refine wl_v (x_fa 5 Tryd.underlying95 rfl rfl ts_26 (tmP rfl rfl)) ?_
      refine wl_e rfl ?_; intro K hK
      refine ow_storeA hS 1 rfl ts_26 (tmP rfl rfl) (tmA rfl rfl) rfl rfl rfl ?_
      clear hS; intro w hS
      try replace hS := St.nm (M' := [.vw _ _, .blk _ _ [_, _, _, _, _, _, _, _, _, _, _], .blk _ _ [_, _, _, _, _, _, _, _, _, _, _], .vw _ _]) hS rfl
      refine hK _ _ ?_; clear hK K
      refine wl_nil ?_
      refine then_n (hK19 _ _ ?_); clear hK19 K19
      refine wp_seq_k ?_; intro K20 hK20
      refine wlit ?_
      refine wl_v (x_move (tmS rfl rfl)) ?_
      refine wl_v (x_sliceLH Tryd.underlying22 ts_5 (tmS rfl rfl) (ev_cN 24) (ev_cN 40) (by omega)) ?_
      replace hS := hS.cutb 3 24 16 rfl (by omega : l.length ≤ c)
      refine wl_e rfl ?_; intro K hK
      refine ow_call Tryd.func67 rfl rfl (evs_cons (tmS rfl rfl) <| evs_nil) (rad_of16_c _ _ _ _ (viewV hS.ok 0 rfl) (by rw [List.length_take, List.length_drop]; omega) (by omega) ((hb.drop _).take 16)) ?_
      rintro e w ⟨rfl, hk⟩
      refine ⟨_, rfl, ?_⟩
      replace hS := hS.kept hk
      clear hk
      refine hK _ _ ?_; clear hK K
      refine wl_v (x_move (tmT rfl rfl)) ?_
      refine wl_v (x_ext (tmT rfl rfl) rfl) ?_
      refine wl_v (x_ext (tmT rfl rfl) rfl) ?_
      refine wl_v (x_fa 8 Tryd.underlying95 rfl rfl ts_26 (tmP rfl rfl)) ?_
      refine wl_e rfl ?_; intro K hK
      refine ow_storeA hS 2 rfl ts_26 (tmP rfl rfl) (tmA rfl rfl) rfl rfl rfl ?_
      clear hS; intro w hS
      try replace hS := St.nm (M' := [.vw _ _, .vw _ _, .blk _ _ [_, _, _, _, _, _, _, _, _, _, _], .blk _ _ [_, _, _, _, _, _, _, _, _, _, _], .vw _ _]) hS rfl
      refine hK _ _ ?_; clear hK K
      refine wl_nil ?_
      refine then_n (hK20 _ _ ?_); clear hK20 K20
      refine wp_seq_k ?_; intro K21 hK21
      refine wp_seq_k ?_; intro K22 hK22
      refine wlit ?_
      refine wl_v (x_fa 2 Tryd.underlying95 rfl rfl ts_3 (tmP rfl rfl)) ?_
      refine wl_v (x_load Tryd.underlying3 rfl (tmP rfl rfl) (cellB hS.ok 2 rfl rfl)) ?_
      refine wl_v (x_move (tmS rfl rfl)) ?_
      refine wl_v (x_len Tryd.underlying22 (tmS rfl rfl)) ?_
      refine wl_v (x_subN (tmI rfl rfl) (ev_cN 40) (fit_i64 (by omega)) (by omega)) ?_
      refine wl_v (x_gtr (tmI rfl rfl) (tmI rfl rfl)) ?_
      refine wl_nil ?_
      refine then_n (hK22 _ _ ?_); clear hK22 K22
      refine cnds (tm rfl) (fun hc2 => ?_) (fun hc2 => ?_)
      · exfalso
        simp only [nrm] at hc2
        omega
      all_goals
       try simp only [nrm] at hc2
       refine wp_seq_k ?_; intro K23 hK23
       refine wlit ?_
       refine wl_v (x_build (bc_skip (.int .u8 0) <| bc_skip (.int .u32 0) <| bc_skip (.int .i64 0) <| bc_skip (.int .u8 0) <| bc_skip (.int .u8 0) <| bc_skipL [.bool false, .int .u64 0, .int .u64 0] <| bc_skipL [.bool false, .int .u64 0, .int .u64 0] <| bc_nil) (by kernel_rfl)) ?_
       refine wl_e rfl ?_; intro K hK
       refine ow_storeA hS 3 rfl ts_95 (tmP rfl rfl) (tmA rfl rfl) rfl rfl rfl ?_
       clear hS; intro w hS
       try replace hS := St.nm (M' := [.vw _ _, .vw _ _, .blk _ _ [_, _, _, _, _, _, _, _, _, _, _], .blk _ _ [_, _, _, _, _, _, _, _, _, _, _], .vw _ _]) hS rfl
       refine hK _ _ ?_; clear hK K
       refine wl_v (x_assign ev_c) ?_
       refine wl_v (x_assign (ev_cN 20)) ?_
       refine wl_nil ?_
       refine then_n (hK23 _ _ ?_); clear hK23 K23
       refine wp_ret ?_
       refine then_r ?_
       refine ret3 rfl (.cell rfl rfl (load_rowB (cs := [_, _, _, _, _, _, _, _, _, _, _]) hS.ok 3 rfl Tryd.underlying95 rfl ts_95 rfl)) (.tmp rfl (show _ = Value.slice _ _ _ from rfl)) (.tmp rfl (show _ = Value.int _ _ from rfl)) ?_
       exact ⟨rfl, hS.kp⟩

end Go.Proofs.YtmekadkmmddocaaDoor
