/- ip6: Parse, Packet, Older and the reference's Packet, by contract. Conditions: none but bounds. -/
import Derived.Test.YtmekadkmmddocaaDoorIp6
namespace Go.Proofs.YtmekadkmmddocaaDoor
open Go.RowKit
/-- The form of a packet that may be read. -/
structure Ip6Form (l : List Nat) (n len : Nat) : Prop where
  n40 : 40 ≤ n
  six : getN l 0 4 / 2 ^ 28 = 6
  len_ : getN l 4 2 = len
  room : len ≤ n - 40
def ad6 (l : List Nat) (p : Nat) : Ad := ⟨true, getN ((l.drop p).take 16) 0 8, getN ((l.drop p).take 16) 8 8⟩
set_option maxRecDepth 100000 in
set_option maxHeartbeats 8000000 in
theorem ip6_parse_c (n : Nat) (A : Option Addr) (c : Nat) (l : List Nat) (w0 : World) (hv : View w0 w0.heap.size A (l.map u8v)) (hl : l.length = n) (hc : n ≤ c) (hb : Bytes l) (hn4 : n ≤ 1000000)
    (len : Nat) (hf : Ip6Form l n len) :
    Calls Tryd.prog 31 #[.slice A n c] w0 fun e w' => ∃ L, e = .returned (.tuple #[.agg (hd6V (getN l 0 4 / 2 ^ 20 % 256) (getN l 0 4 % 1048576) (len : Int) (getN l 6 1) (getN l 7 1) (ad6 l 8) (ad6 l 24)).toArray, .slice L len len, .int .i64 0]) ∧
      NewV w0 w' L (((l.drop 40).take len).map u8v) ∧ Kp [] w0 w' := by
  obtain ⟨n40, six, hle, room⟩ := hf
  have hS := (St.sv w0).vcons rfl hv
  have hF := getN_lt hb 0 4
  have hle' : getN l (0 + 4) 2 = len := hle
  have hcl : getN l 0 4 / 2 ^ 20 % 2 ^ 8 = getN l 0 4 / 2 ^ 20 % 256 := rfl
  have hlb : getN l 0 4 &&& 1048575 = getN l 0 4 % 1048576 := Nat.and_two_pow_sub_one_eq_mod _ 20
  refine ent (n := 61) Tryd.func31 rfl rfl ?_
  refine wp_seq_k ?_; intro K1 hK1
  refine wlit ?_
  refine wl_e rfl ?_; intro K hK
  refine ow_alloc hS tz_82 rfl ?_
  clear hS; intro g0_0 w hg0_0 hS
  refine hK _ _ ?_; clear hK K
  refine wl_v (x_assign ev_c) ?_
  refine wl_v (x_assign (ev_cN 0)) ?_
  refine wl_nil ?_
  refine then_n (hK1 _ _ ?_); clear hK1 K1
  refine wp_seq_k ?_; intro K2 hK2
  refine wp_seq_k ?_; intro K3 hK3
  refine wlit ?_
  refine wl_v (x_move (tmS rfl rfl)) ?_
  refine wl_v (x_len Tryd.underlying22 (tmS rfl rfl)) ?_
  refine wl_v (x_lss (tmI rfl rfl) (ev_cN 40)) ?_
  refine wl_nil ?_
  refine then_n (hK3 _ _ ?_); clear hK3 K3
  refine cnd (tm rfl) (fun hc0 => ?_) (fun hc0 => ?_)
  · exfalso
    simp only [nrm] at hc0
    omega
  all_goals
   try simp only [nrm] at hc0
   refine wp_skip ?_
   refine then_n (hK2 _ _ ?_); clear hK2 K2
   refine wp_seq_k ?_; intro K4 hK4
   refine wlit ?_
   refine wl_v (x_move (tmS rfl rfl)) ?_
   refine wl_e rfl ?_; intro K hK
   refine ow_call Tryd.func52 rfl rfl (evs_cons (tmS rfl rfl) <| evs_nil) (read_c n A c l _ (viewV hS.ok 1 rfl) hl hn4) ?_
   rintro e w ⟨gr, A0, rfl, hS2⟩
   refine ⟨_, rfl, ?_⟩
   replace hS := hS.adds hS2 rfl -- +gr,rowb
   clear hS2
   have hA : Off A0 0 n A0 := off_zero
   have hcp : n - 0 ≤ n := by omega
   refine hK _ _ ?_; clear hK K
   refine wl_v (x_assign (tmP rfl rfl)) ?_
   refine wl_nil ?_
   refine then_n (hK4 _ _ ?_); clear hK4 K4
   refine wp_seq_k ?_; intro K5 hK5
   refine wlit ?_
   refine wl_v (x_move (tmP rfl rfl)) ?_
   refine wl_e rfl ?_; intro K hK
   refine ow_call Tryd.func53 rfl rfl (evs_cons (tmP rfl rfl) <| evs_nil) (long_c gr A0 _ _ n _ l false _ _ (hS.enter [0] [1] rfl rfl) hA (by omega) hcp hl hb) ?_
   rintro e w ⟨A1, c1, rfl, hS2, hA, hcp⟩
   refine ⟨_, rfl, ?_⟩
   replace hS := hS.turn 0 rfl rfl hS2 rfl
   clear hS2
   try replace hS := St.nm (M' := [_, .row _ _ _ _ _, .blk _ _ [_, _, _, _, _, _, _, _, _, _, _], .vw _ _]) hS rfl
   refine hK _ _ ?_; clear hK K
   refine wl_v (x_assign (tmI rfl rfl)) ?_
   refine wl_nil ?_
   refine then_n (hK5 _ _ ?_); clear hK5 K5
   refine wp_seq_k ?_; intro K6 hK6
   refine wp_seq_k ?_; intro K7 hK7
   refine wlit ?_
   refine wl_v (x_move (tmI rfl rfl)) ?_
   refine wl_v (x_shrN (tmI rfl rfl) (ev_cN 28) (fit_u32 (by omega))) ?_
   refine wl_v (x_neq (tmI rfl rfl) (ev_cN 6)) ?_
   refine wl_nil ?_
   refine then_n (hK7 _ _ ?_); clear hK7 K7
   refine cnd (tm rfl) (fun hc1 => ?_) (fun hc1 => ?_)
   · exfalso
     simp only [nrm] at hc1
     omega
   all_goals
    try simp only [nrm] at hc1
    refine wp_skip ?_
    refine then_n (hK6 _ _ ?_); clear hK6 K6
    refine wp_seq_k ?_; intro K8 hK8
    refine wlit ?_
    refine wl_v (x_move (tmI rfl rfl)) ?_
    refine wl_v (x_shrN (tmI rfl rfl) (ev_cN 20) (fit_u32 (by omega))) ?_
    refine wl_v (x_convU Tryd.underlying30 Tryd.underlying5 (tmI rfl rfl) rfl) ?_
    refine wl_v (x_move (tmI rfl rfl)) ?_
    refine wl_v (x_andN (tmI rfl rfl) (ev_cN 1048575) (fit_u32 (by omega)) (fit_u32 (by omega))) ?_
    refine wl_v (x_build (bc_take (tmI rfl rfl) <| bc_take (tmI rfl rfl) <| bc_skip (.int .i64 0) <| bc_skip (.int .u8 0) <| bc_skip (.int .u8 0) <| bc_skipL [.bool false, .int .u64 0, .int .u64 0] <| bc_skipL [.bool false, .int .u64 0, .int .u64 0] <| bc_nil) (by kernel_rfl)) ?_
    refine wl_e rfl ?_; intro K hK
    refine ow_alloc hS tz_82 rfl ?_
    clear hS; intro g7_6 w hg7_6 hS
    refine hK _ _ ?_; clear hK K
    refine wl_e rfl ?_; intro K hK
    refine ow_storeA hS 0 rfl ts_82 (tmP rfl rfl) (tmA rfl rfl) rfl rfl rfl ?_
    clear hS; intro w hS
    try replace hS := St.nm (M' := [.blk _ _ [_, _, _, _, _, _, _, _, _, _, _], _, .row _ _ _ _ _, .blk _ _ [_, _, _, _, _, _, _, _, _, _, _], .vw _ _]) hS rfl
    refine hK _ _ ?_; clear hK K
    refine wl_nil ?_
    refine then_n (hK8 _ _ ?_); clear hK8 K8
    refine wp_seq_k ?_; intro K9 hK9
    refine wlit ?_
    refine wl_v (x_move (tmP rfl rfl)) ?_
    refine wl_e rfl ?_; intro K hK
    refine ow_call Tryd.func54 rfl rfl (evs_cons (tmP rfl rfl) <| evs_nil) (word_c gr A0 _ _ n _ l false _ _ (hS.enter [1] [2] rfl rfl) hA (by omega) hcp hl hb) ?_
    rintro e w ⟨A1, c1, rfl, hS2, hA, hcp⟩
    refine ⟨_, rfl, ?_⟩
    replace hS := hS.turn 1 rfl rfl hS2 rfl
    clear hS2
    try replace hS := St.nm (M' := [.blk _ _ [_, _, _, _, _, _, _, _, _, _, _], _, .row _ _ _ _ _, .blk _ _ [_, _, _, _, _, _, _, _, _, _, _], .vw _ _]) hS rfl
    refine hK _ _ ?_; clear hK K
    refine wl_v (x_convN Tryd.underlying27 Tryd.underlying3 (tmI rfl (congrArg (fun q : Nat => Value.int .u16 (q : Int)) hle')) (fit_i64 (by omega))) ?_
    refine wl_v (x_move (tmP rfl rfl)) ?_
    refine wl_e rfl ?_; intro K hK
    refine ow_call Tryd.func55 rfl rfl (evs_cons (tmP rfl rfl) <| evs_nil) (byte_c gr A0 _ _ n _ l false _ _ (hS.enter [1] [2] rfl rfl) hA (by omega) hcp hl hb) ?_
    rintro e w ⟨A1, c1, rfl, hS2, hA, hcp⟩
    refine ⟨_, rfl, ?_⟩
    replace hS := hS.turn 1 rfl rfl hS2 rfl
    clear hS2
    try replace hS := St.nm (M' := [.blk _ _ [_, _, _, _, _, _, _, _, _, _, _], _, .row _ _ _ _ _, .blk _ _ [_, _, _, _, _, _, _, _, _, _, _], .vw _ _]) hS rfl
    refine hK _ _ ?_; clear hK K
    refine wl_v (x_move (tmP rfl rfl)) ?_
    refine wl_e rfl ?_; intro K hK
    refine ow_call Tryd.func55 rfl rfl (evs_cons (tmP rfl rfl) <| evs_nil) (byte_c gr A0 _ _ n _ l false _ _ (hS.enter [1] [2] rfl rfl) hA (by omega) hcp hl hb) ?_
    rintro e w ⟨A1, c1, rfl, hS2, hA, hcp⟩
    refine ⟨_, rfl, ?_⟩
    replace hS := hS.turn 1 rfl rfl hS2 rfl
    clear hS2
    try replace hS := St.nm (M' := [.blk _ _ [_, _, _, _, _, _, _, _, _, _, _], _, .row _ _ _ _ _, .blk _ _ [_, _, _, _, _, _, _, _, _, _, _], .vw _ _]) hS rfl
    refine hK _ _ ?_; clear hK K
    refine wl_v (x_fa 2 Tryd.underlying82 rfl rfl ts_3 (tmP rfl rfl)) ?_
    refine wl_e rfl ?_; intro K hK
    refine ow_store hS 0 rfl ts_3 (tmP rfl rfl) (tmI rfl rfl) rfl rfl ?_
    clear hS; intro w hS
    try replace hS := St.nm (M' := [.blk _ _ [_, _, _, _, _, _, _, _, _, _, _], _, .row _ _ _ _ _, .blk _ _ [_, _, _, _, _, _, _, _, _, _, _], .vw _ _]) hS rfl
    refine hK _ _ ?_; clear hK K
    refine wl_v (x_fa 3 Tryd.underlying82 rfl rfl ts_5 (tmP rfl rfl)) ?_
    refine wl_e rfl ?_; intro K hK
    refine ow_store hS 0 rfl ts_5 (tmP rfl rfl) (tmI rfl rfl) rfl rfl ?_
    clear hS; intro w hS
    try replace hS := St.nm (M' := [.blk _ _ [_, _, _, _, _, _, _, _, _, _, _], _, .row _ _ _ _ _, .blk _ _ [_, _, _, _, _, _, _, _, _, _, _], .vw _ _]) hS rfl
    refine hK _ _ ?_; clear hK K
    refine wl_v (x_fa 4 Tryd.underlying82 rfl rfl ts_5 (tmP rfl rfl)) ?_
    refine wl_e rfl ?_; intro K hK
    refine ow_store hS 0 rfl ts_5 (tmP rfl rfl) (tmI rfl rfl) rfl rfl ?_
    clear hS; intro w hS
    try replace hS := St.nm (M' := [.blk _ _ [_, _, _, _, _, _, _, _, _, _, _], _, .row _ _ _ _ _, .blk _ _ [_, _, _, _, _, _, _, _, _, _, _], .vw _ _]) hS rfl
    refine hK _ _ ?_; clear hK K
    refine wl_nil ?_
    refine then_n (hK9 _ _ ?_); clear hK9 K9
    refine wp_seq_k ?_; intro K10 hK10
    refine wlit ?_
    refine wl_v (x_move (tmP rfl rfl)) ?_
    refine wl_e rfl ?_; intro K hK
    refine ow_call Tryd.func57 rfl rfl (evs_cons (tmP rfl rfl) <| evs_cons (ev_cN 16) <| evs_nil) (bytes_c gr A0 A1 _ 16 n _ l false _ _ (hS.enter [1] [2] rfl rfl) hA (by omega) hcp) ?_
    rintro e w ⟨A2, c2, rfl, hS2, hA2, hcp2⟩
    refine ⟨_, rfl, ?_⟩
    replace hS := hS.turn 1 rfl rfl hS2 rfl
    clear hS2
    try replace hS := St.nm (M' := [.blk _ _ [_, _, _, _, _, _, _, _, _, _, _], _, .row _ _ _ _ _, .blk _ _ [_, _, _, _, _, _, _, _, _, _, _], .vw _ _]) hS rfl
    refine hK _ _ ?_; clear hK K
    refine wl_e rfl ?_; intro K hK
    refine ow_call Tryd.func56 rfl rfl (evs_cons (tmS rfl rfl) <| evs_nil) (ad_of16_c A1 _ _ _ (by have h := (NewV.offb (hS.newv 2 rfl) hl hA 16).1; exact h) (by rw [List.length_take, List.length_drop]; omega) ((hb.drop _).take 16)) ?_
    rintro e w ⟨rfl, hk⟩
    refine ⟨_, rfl, ?_⟩
    replace hS := hS.kept hk
    clear hk
    refine hK _ _ ?_; clear hK K
    refine wl_v (x_move (tmT rfl rfl)) ?_
    refine wl_v (x_ext (tmT rfl rfl) rfl) ?_
    refine wl_v (x_ext (tmT rfl rfl) rfl) ?_
    refine wl_v (x_fa 5 Tryd.underlying82 rfl rfl ts_26 (tmP rfl rfl)) ?_
    refine wl_e rfl ?_; intro K hK
    refine ow_storeA hS 0 rfl ts_26 (tmP rfl rfl) (tmA rfl rfl) rfl rfl rfl ?_
    clear hS; intro w hS
    try replace hS := St.nm (M' := [.blk _ _ [_, _, _, _, _, _, _, _, _, _, _], _, .row _ _ _ _ _, .blk _ _ [_, _, _, _, _, _, _, _, _, _, _], .vw _ _]) hS rfl
    refine hK _ _ ?_; clear hK K
    refine wl_nil ?_
    refine then_n (hK10 _ _ ?_); clear hK10 K10
    refine wp_seq_k ?_; intro K11 hK11
    refine wlit ?_
    refine wl_v (x_move (tmP rfl rfl)) ?_
    refine wl_e rfl ?_; intro K hK
    refine ow_call Tryd.func57 rfl rfl (evs_cons (tmP rfl rfl) <| evs_cons (ev_cN 16) <| evs_nil) (bytes_c gr A0 A2 _ 16 n _ l false _ _ (hS.enter [1] [2] rfl rfl) hA2 (by omega) hcp2) ?_
    rintro e w ⟨A3, c3, rfl, hS2, hA3, hcp3⟩
    refine ⟨_, rfl, ?_⟩
    replace hS := hS.turn 1 rfl rfl hS2 rfl
    clear hS2
    try replace hS := St.nm (M' := [.blk _ _ [_, _, _, _, _, _, _, _, _, _, _], _, .row _ _ _ _ _, .blk _ _ [_, _, _, _, _, _, _, _, _, _, _], .vw _ _]) hS rfl
    refine hK _ _ ?_; clear hK K
    refine wl_e rfl ?_; intro K hK
    refine ow_call Tryd.func56 rfl rfl (evs_cons (tmS rfl rfl) <| evs_nil) (ad_of16_c A2 _ _ _ (by have h := (NewV.offb (hS.newv 2 rfl) hl hA2 16).1; exact h) (by rw [List.length_take, List.length_drop]; omega) ((hb.drop _).take 16)) ?_
    rintro e w ⟨rfl, hk⟩
    refine ⟨_, rfl, ?_⟩
    replace hS := hS.kept hk
    clear hk
    refine hK _ _ ?_; clear hK K
    refine wl_v (x_move (tmT rfl rfl)) ?_
    refine wl_v (x_ext (tmT rfl rfl) rfl) ?_
    refine wl_v (x_ext (tmT rfl rfl) rfl) ?_
    refine wl_v (x_fa 8 Tryd.underlying82 rfl rfl ts_26 (tmP rfl rfl)) ?_
    refine wl_e rfl ?_; intro K hK
    refine ow_storeA hS 0 rfl ts_26 (tmP rfl rfl) (tmA rfl rfl) rfl rfl rfl ?_
    clear hS; intro w hS
    try replace hS := St.nm (M' := [.blk _ _ [_, _, _, _, _, _, _, _, _, _, _], _, .row _ _ _ _ _, .blk _ _ [_, _, _, _, _, _, _, _, _, _, _], .vw _ _]) hS rfl
    refine hK _ _ ?_; clear hK K
    refine wl_nil ?_
    refine then_n (hK11 _ _ ?_); clear hK11 K11
    refine wp_seq_k ?_; intro K12 hK12
    refine wp_seq_k ?_; intro K13 hK13
    refine rg_startk 0 hS mixed_ ?_
    clear hS; intro w hS
    refine rg_take 0 rfl rfl (by kernel_rfl) (by kernel_rfl) (by kernel_rfl) (want_0) (fun w hok => x_move (tmP rfl rfl)) ?_
    refine rg_take 2 rfl rfl (by kernel_rfl) (by kernel_rfl) (by kernel_rfl) (want_0) (fun w hok => x_fa 2 Tryd.underlying82 rfl rfl ts_3 (tmP rfl rfl)) ?_
    refine rg_take 3 rfl rfl (by kernel_rfl) (by kernel_rfl) (by kernel_rfl) (want_0) (fun w hok => x_load Tryd.underlying3 rfl (tmP rfl rfl) (cellB hok 0 rfl rfl)) ?_
    refine rg_step 1 rfl (by kernel_rfl) (want_0) (oks_drop hS 0 rfl) ?_; intro K hK
    refine ow_call Tryd.func58 rfl rfl (evs_cons (tmP rfl rfl) <| evs_nil) (left_c gr _ _ _ _ _ (viewB hS.ok 1 rfl)) ?_
    rintro e w ⟨rfl, hk⟩
    refine ⟨_, rfl, ?_⟩
    replace hS := hS.kept hk
    clear hk
    refine hK _ _ ?_; clear hK K
    refine rg_take 4 rfl rfl (by kernel_rfl) (by kernel_rfl) (by kernel_rfl) (want_0) (fun w hok => x_lss (tmI rfl rfl) (tmI rfl rfl)) ?_
    refine rg_done (oks_drop hS 0 rfl) (by kernel_rfl) ?_
    refine then_n (hK13 _ _ ?_); clear hK13 K13
    refine cnd (tm rfl) (fun hc2 => ?_) (fun hc2 => ?_)
    · exfalso
      simp only [nrm] at hc2
      omega
    all_goals
     try simp only [nrm] at hc2
     refine wp_skip ?_
     refine then_n (hK12 _ _ ?_); clear hK12 K12
     refine wp_seq_k ?_; intro K14 hK14
     replace hS := hS.pick [1, 3, 0, 2] rfl rfl
     try replace hS := St.nm (M' := [_, .blk _ _ [_, _, _, _, _, _, _, _, _, _, _], .blk _ _ [_, _, _, _, _, _, _, _, _, _, _], .row _ _ _ _ _]) hS rfl
     refine rg_startk 2 hS mixed_ ?_
     clear hS; intro w hS
     refine rg_take 0 rfl rfl (by kernel_rfl) (by kernel_rfl) (by kernel_rfl) (want_0) (fun w hok => x_loadA (cs := [_, _, _, _, _, _, _, _, _, _, _]) Tryd.underlying82 rfl ts_82 (tmP rfl rfl) (rangeB hok 0 rfl rfl)) ?_
     refine rg_take 1 rfl rfl (by kernel_rfl) (by kernel_rfl) (by kernel_rfl) (want_0) (fun w hok => x_move (tmP rfl rfl)) ?_
     refine rg_take 2 rfl rfl (by kernel_rfl) (by kernel_rfl) (by kernel_rfl) (want_0) (fun w hok => x_fa 2 Tryd.underlying82 rfl rfl ts_3 (tmP rfl rfl)) ?_
     refine rg_take 3 rfl rfl (by kernel_rfl) (by kernel_rfl) (by kernel_rfl) (want_0) (fun w hok => x_load Tryd.underlying3 rfl (tmP rfl rfl) (cellB hok 0 rfl rfl)) ?_
     refine rg_step 4 rfl (by kernel_rfl) (want_0) (oks_drop hS 2 rfl) ?_; intro K hK
     refine ow_call Tryd.func57 rfl rfl (evs_cons (tmP rfl rfl) <| evs_cons (tmI rfl rfl) <| evs_nil) (bytes_c gr A0 A3 _ len n _ l false _ _ (hS.enter [0] [3] rfl rfl) hA3 (by omega) hcp3) ?_
     rintro e w ⟨A4, c4, rfl, hS2, hA4, hcp4⟩
     refine ⟨_, rfl, ?_⟩
     replace hS := hS.turn 0 rfl rfl hS2 rfl
     clear hS2
     try replace hS := St.nm (M' := [_, .blk _ _ [_, _, _, _, _, _, _, _, _, _, _], .blk _ _ [_, _, _, _, _, _, _, _, _, _, _], .row _ _ _ _ _]) hS rfl
     refine hK _ _ ?_; clear hK K
     refine rg_step 5 rfl (by kernel_rfl) (want_0) (oks_drop hS 2 rfl) ?_; intro K hK
     refine ow_storeA hS 1 rfl ts_82 (tmP rfl rfl) (tmA rfl rfl) rfl rfl rfl ?_
     clear hS; intro w hS
     try replace hS := St.nm (M' := [_, .blk _ _ [_, _, _, _, _, _, _, _, _, _, _], .blk _ _ [_, _, _, _, _, _, _, _, _, _, _], .row _ _ _ _ _]) hS rfl
     refine hK _ _ ?_; clear hK K
     refine rg_take 6 rfl rfl (by kernel_rfl) (by kernel_rfl) (by kernel_rfl) (want_0) (fun w hok => x_assign (tmS rfl rfl)) ?_
     refine rg_take 7 rfl rfl (by kernel_rfl) (by kernel_rfl) (by kernel_rfl) (want_0) (fun w hok => x_assign (ev_cN 0)) ?_
     refine rg_done (oks_drop hS 2 rfl) (by kernel_rfl) ?_
     refine then_n (hK14 _ _ ?_); clear hK14 K14
     refine wp_ret ?_
     refine ret3 rfl (.cell rfl rfl (load_rowB (cs := [_, _, _, _, _, _, _, _, _, _, _]) hS.ok 1 rfl Tryd.underlying82 rfl ts_82 rfl)) (.tmp rfl (show _ = Value.slice _ _ _ from rfl)) (.tmp rfl (show _ = Value.int _ _ from rfl)) ?_
     exact ⟨A3, by rw [hlb]; rfl, NewV.offb (hS.newv 3 rfl) hl hA3 len, hS.kp⟩

end Go.Proofs.YtmekadkmmddocaaDoor
