import Derived.Test.YtcobjneobdihkaaSteerWholeZA
/- ip6: Parse, Packet, Older and the reference's Packet, by contract. Conditions: none but bounds. -/
namespace Go.Proofs.Ytcobjneobdihkaa
open Go.RowKit
/-- The form of a packet that may be read. -/
structure Ip6Form (l : List Nat) (n len : Nat) : Prop where
  n40 : 40 ≤ n
  six : getN l 0 4 / 2 ^ 28 = 6
  len_ : getN l 4 2 = len
  room : len ≤ n - 40
def ad6 (l : List Nat) (p : Nat) : Ad := ⟨true, getN ((l.drop p).take 16) 0 8, getN ((l.drop p).take 16) 8 8⟩
set_option maxRecDepth 100000 in
set_option maxHeartbeats 8000000 in
theorem ip6_parse_c (n : Nat) (A : Option Addr) (c : Nat) (l : List Nat) (w0 : World) (hv : View w0 w0.heap.size A (l.map u8v)) (hl : l.length = n) (hc : n ≤ c) (hb : Bytes l) (hn4 : n ≤ 1000000)
    (len : Nat) (hf : Ip6Form l n len) :
    Calls Try.prog 63 #[.slice A n c] w0 fun e w' => ∃ L, e = .returned (.tuple #[.agg (hd6V (getN l 0 4 / 2 ^ 20 % 256) (getN l 0 4 % 1048576) (len : Int) (getN l 6 1) (getN l 7 1) (ad6 l 8) (ad6 l 24)).toArray, .slice L len len, .int .i64 0]) ∧
      NewV w0 w' L (((l.drop 40).take len).map u8v) ∧ Kp [] w0 w' := by
  obtain ⟨n40, six, hle, room⟩ := hf
  have hS := (St.sv w0).vcons rfl hv
  have hF := getN_lt hb 0 4
  have hle' : getN l (0 + 4) 2 = len := hle
  have hcl : getN l 0 4 / 2 ^ 20 % 2 ^ 8 = getN l 0 4 / 2 ^ 20 % 256 := rfl
  have hlb : getN l 0 4 &&& 1048575 = getN l 0 4 % 1048576 := Nat.and_two_pow_sub_one_eq_mod _ 20
  refine ent (n := 61) Try.func63 rfl rfl ?_
  refine wp_seq_k ?_; intro K1 hK1
  refine wlit ?_
  refine wl_e rfl ?_; intro K hK
  refine ow_alloc hS tz_132 rfl ?_
  clear hS; intro g0_0 w hg0_0 hS
  refine hK _ _ ?_; clear hK K
  refine wl_v (x_assign ev_c) ?_
  refine wl_v (x_assign (ev_cN 0)) ?_
  refine wl_nil ?_
  refine then_n (hK1 _ _ ?_); clear hK1 K1
  refine wp_seq_k ?_; intro K2 hK2
  refine wp_seq_k ?_; intro K3 hK3
  refine wlit ?_
  refine wl_v (x_move (tmS rfl rfl)) ?_
  refine wl_v (x_len Try.underlying22 (tmS rfl rfl)) ?_
  refine wl_v (x_lss (tmI rfl rfl) (ev_cN 40)) ?_
  refine wl_nil ?_
  refine then_n (hK3 _ _ ?_); clear hK3 K3
  refine cnd (tm rfl) (fun hc0 => ?_) (fun hc0 => ?_)
  · exfalso
    simp only [nrm] at hc0
    omega
  try simp only [nrm] at hc0
  refine wp_skip ?_
  refine then_n (hK2 _ _ ?_); clear hK2 K2
  refine wp_seq_k ?_; intro K4 hK4
  refine wlit ?_
  refine wl_v (x_move (tmS rfl rfl)) ?_
  refine wl_e rfl ?_; intro K hK
  refine ow_call Try.func14 rfl rfl (evs_cons (tmS rfl rfl) <| evs_nil) (read_c n A c l _ (viewV hS.ok 1 rfl) hl hn4) ?_
  rintro e w ⟨gr, A0, rfl, hS2⟩
  refine ⟨_, rfl, ?_⟩
  replace hS := hS.adds hS2 rfl -- +gr,rowb
  clear hS2
  have hA : Off A0 0 n A0 := off_zero
  have hcp : n - 0 ≤ n := by omega
  refine hK _ _ ?_; clear hK K
  refine wl_v (x_assign (tmP rfl rfl)) ?_
  refine wl_nil ?_
  refine then_n (hK4 _ _ ?_); clear hK4 K4
  refine wp_seq_k ?_; intro K5 hK5
  refine wlit ?_
  refine wl_v (x_move (tmP rfl rfl)) ?_
  refine wl_e rfl ?_; intro K hK
  refine ow_call Try.func25 rfl rfl (evs_cons (tmP rfl rfl) <| evs_nil) (long_c gr A0 _ _ n _ l false _ _ (hS.enter [0] [1] rfl rfl) hA (by omega) hcp hl hb) ?_
  rintro e w ⟨A1, c1, rfl, hS2, hA, hcp⟩
  refine ⟨_, rfl, ?_⟩
  replace hS := hS.turn 0 rfl rfl hS2 rfl
  clear hS2
  try replace hS := St.nm (M' := [_, .row _ _ _ _ _, .blk _ _ [_, _, _, _, _, _, _, _, _, _, _], .vw _ _]) hS rfl
  refine hK _ _ ?_; clear hK K
  refine wl_v (x_assign (tmI rfl rfl)) ?_
  refine wl_nil ?_
  refine then_n (hK5 _ _ ?_); clear hK5 K5
  refine wp_seq_k ?_; intro K6 hK6
  refine wp_seq_k ?_; intro K7 hK7
  refine wlit ?_
  refine wl_v (x_move (tmI rfl rfl)) ?_
  refine wl_v (x_shrN (tmI rfl rfl) (ev_cN 28) (fit_u32 (by omega))) ?_
  refine wl_v (x_neq (tmI rfl rfl) (ev_cN 6)) ?_
  refine wl_nil ?_
  refine then_n (hK7 _ _ ?_); clear hK7 K7
  refine cnd (tm rfl) (fun hc1 => ?_) (fun hc1 => ?_)
  · exfalso
    simp only [nrm] at hc1
    omega
  try simp only [nrm] at hc1
  refine wp_skip ?_
  refine then_n (hK6 _ _ ?_); clear hK6 K6
  refine wp_seq_k ?_; intro K8 hK8
  refine wlit ?_
  refine wl_v (x_move (tmI rfl rfl)) ?_
  refine wl_v (x_shrN (tmI rfl rfl) (ev_cN 20) (fit_u32 (by omega))) ?_
  refine wl_v (x_convU Try.underlying30 Try.underlying5 (tmI rfl rfl) rfl) ?_
  refine wl_v (x_move (tmI rfl rfl)) ?_
  refine wl_v (x_andN (tmI rfl rfl) (ev_cN 1048575) (fit_u32 (by omega)) (fit_u32 (by omega))) ?_
  refine wl_v (x_build (bc_take (tmI rfl rfl) <| bc_take (tmI rfl rfl) <| bc_skip (.int .i64 0) <| bc_skip (.int .u8 0) <| bc_skip (.int .u8 0) <| bc_skipL [.bool false, .int .u64 0, .int .u64 0] <| bc_skipL [.bool false, .int .u64 0, .int .u64 0] <| bc_nil) (by kernel_rfl)) ?_
  refine wl_e rfl ?_; intro K hK
  refine ow_alloc hS tz_132 rfl ?_
  clear hS; intro g7_6 w hg7_6 hS
  refine hK _ _ ?_; clear hK K
  refine wl_e rfl ?_; intro K hK
  refine ow_storeA hS 0 rfl ts_132 (tmP rfl rfl) (tmA rfl rfl) rfl rfl rfl ?_
  clear hS; intro w hS
  try replace hS := St.nm (M' := [.blk _ _ [_, _, _, _, _, _, _, _, _, _, _], _, .row _ _ _ _ _, .blk _ _ [_, _, _, _, _, _, _, _, _, _, _], .vw _ _]) hS rfl
  refine hK _ _ ?_; clear hK K
  refine wl_nil ?_
  refine then_n (hK8 _ _ ?_); clear hK8 K8
  refine wp_seq_k ?_; intro K9 hK9
  refine wlit ?_
  refine wl_v (x_move (tmP rfl rfl)) ?_
  refine wl_e rfl ?_; intro K hK
  refine ow_call Try.func15 rfl rfl (evs_cons (tmP rfl rfl) <| evs_nil) (word_c gr A0 _ _ n _ l false _ _ (hS.enter [1] [2] rfl rfl) hA (by omega) hcp hl hb) ?_
  rintro e w ⟨A1, c1, rfl, hS2, hA, hcp⟩
  refine ⟨_, rfl, ?_⟩
  replace hS := hS.turn 1 rfl rfl hS2 rfl
  clear hS2
  try replace hS := St.nm (M' := [.blk _ _ [_, _, _, _, _, _, _, _, _, _, _], _, .row _ _ _ _ _, .blk _ _ [_, _, _, _, _, _, _, _, _, _, _], .vw _ _]) hS rfl
  refine hK _ _ ?_; clear hK K
  refine wl_v (x_convN Try.underlying27 Try.underlying3 (tmI rfl (congrArg (fun q : Nat => Value.int .u16 (q : Int)) hle')) (fit_i64 (by omega))) ?_
  refine wl_v (x_move (tmP rfl rfl)) ?_
  refine wl_e rfl ?_; intro K hK
  refine ow_call Try.func30 rfl rfl (evs_cons (tmP rfl rfl) <| evs_nil) (byte_c gr A0 _ _ n _ l false _ _ (hS.enter [1] [2] rfl rfl) hA (by omega) hcp hl hb) ?_
  rintro e w ⟨A1, c1, rfl, hS2, hA, hcp⟩
  refine ⟨_, rfl, ?_⟩
  replace hS := hS.turn 1 rfl rfl hS2 rfl
  clear hS2
  try replace hS := St.nm (M' := [.blk _ _ [_, _, _, _, _, _, _, _, _, _, _], _, .row _ _ _ _ _, .blk _ _ [_, _, _, _, _, _, _, _, _, _, _], .vw _ _]) hS rfl
  refine hK _ _ ?_; clear hK K
  refine wl_v (x_move (tmP rfl rfl)) ?_
  refine wl_e rfl ?_; intro K hK
  refine ow_call Try.func30 rfl rfl (evs_cons (tmP rfl rfl) <| evs_nil) (byte_c gr A0 _ _ n _ l false _ _ (hS.enter [1] [2] rfl rfl) hA (by omega) hcp hl hb) ?_
  rintro e w ⟨A1, c1, rfl, hS2, hA, hcp⟩
  refine ⟨_, rfl, ?_⟩
  replace hS := hS.turn 1 rfl rfl hS2 rfl
  clear hS2
  try replace hS := St.nm (M' := [.blk _ _ [_, _, _, _, _, _, _, _, _, _, _], _, .row _ _ _ _ _, .blk _ _ [_, _, _, _, _, _, _, _, _, _, _], .vw _ _]) hS rfl
  refine hK _ _ ?_; clear hK K
  refine wl_v (x_fa 2 Try.underlying132 rfl rfl ts_3 (tmP rfl rfl)) ?_
  refine wl_e rfl ?_; intro K hK
  refine ow_store hS 0 rfl ts_3 (tmP rfl rfl) (tmI rfl rfl) rfl rfl ?_
  clear hS; intro w hS
  try replace hS := St.nm (M' := [.blk _ _ [_, _, _, _, _, _, _, _, _, _, _], _, .row _ _ _ _ _, .blk _ _ [_, _, _, _, _, _, _, _, _, _, _], .vw _ _]) hS rfl
  refine hK _ _ ?_; clear hK K
  refine wl_v (x_fa 3 Try.underlying132 rfl rfl ts_5 (tmP rfl rfl)) ?_
  refine wl_e rfl ?_; intro K hK
  refine ow_store hS 0 rfl ts_5 (tmP rfl rfl) (tmI rfl rfl) rfl rfl ?_
  clear hS; intro w hS
  try replace hS := St.nm (M' := [.blk _ _ [_, _, _, _, _, _, _, _, _, _, _], _, .row _ _ _ _ _, .blk _ _ [_, _, _, _, _, _, _, _, _, _, _], .vw _ _]) hS rfl
  refine hK _ _ ?_; clear hK K
  refine wl_v (x_fa 4 Try.underlying132 rfl rfl ts_5 (tmP rfl rfl)) ?_
  refine wl_e rfl ?_; intro K hK
  refine ow_store hS 0 rfl ts_5 (tmP rfl rfl) (tmI rfl rfl) rfl rfl ?_
  clear hS; intro w hS
  try replace hS := St.nm (M' := [.blk _ _ [_, _, _, _, _, _, _, _, _, _, _], _, .row _ _ _ _ _, .blk _ _ [_, _, _, _, _, _, _, _, _, _, _], .vw _ _]) hS rfl
  refine hK _ _ ?_; clear hK K
  refine wl_nil ?_
  refine then_n (hK9 _ _ ?_); clear hK9 K9
  refine wp_seq_k ?_; intro K10 hK10
  refine wlit ?_
  refine wl_v (x_move (tmP rfl rfl)) ?_
  refine wl_e rfl ?_; intro K hK
  refine ow_call Try.func29 rfl rfl (evs_cons (tmP rfl rfl) <| evs_cons (ev_cN 16) <| evs_nil) (bytes_c gr A0 A1 _ 16 n _ l false _ _ (hS.enter [1] [2] rfl rfl) hA (by omega) hcp) ?_
  rintro e w ⟨A2, c2, rfl, hS2, hA2, hcp2⟩
  refine ⟨_, rfl, ?_⟩
  replace hS := hS.turn 1 rfl rfl hS2 rfl
  clear hS2
  try replace hS := St.nm (M' := [.blk _ _ [_, _, _, _, _, _, _, _, _, _, _], _, .row _ _ _ _ _, .blk _ _ [_, _, _, _, _, _, _, _, _, _, _], .vw _ _]) hS rfl
  refine hK _ _ ?_; clear hK K
  refine wl_e rfl ?_; intro K hK
  refine ow_call Try.func31 rfl rfl (evs_cons (tmS rfl rfl) <| evs_nil) (ad_of16_c A1 _ _ _ (by have h := (NewV.offb (hS.newv 2 rfl) hl hA 16).1; exact h) (by rw [List.length_take, List.length_drop]; omega) ((hb.drop _).take 16)) ?_
  rintro e w ⟨rfl, hk⟩
  refine ⟨_, rfl, ?_⟩
  replace hS := hS.kept hk
  clear hk
  refine hK _ _ ?_; clear hK K
  refine wl_v (x_move (tmT rfl rfl)) ?_
  refine wl_v (x_ext (tmT rfl rfl) rfl) ?_
  refine wl_v (x_ext (tmT rfl rfl) rfl) ?_
  refine wl_v (x_fa 5 Try.underlying132 rfl rfl ts_26 (tmP rfl rfl)) ?_
  refine wl_e rfl ?_; intro K hK
  refine ow_storeA hS 0 rfl ts_26 (tmP rfl rfl) (tmA rfl rfl) rfl rfl rfl ?_
  clear hS; intro w hS
  try replace hS := St.nm (M' := [.blk _ _ [_, _, _, _, _, _, _, _, _, _, _], _, .row _ _ _ _ _, .blk _ _ [_, _, _, _, _, _, _, _, _, _, _], .vw _ _]) hS rfl
  refine hK _ _ ?_; clear hK K
  refine wl_nil ?_
  refine then_n (hK10 _ _ ?_); clear hK10 K10
  refine wp_seq_k ?_; intro K11 hK11
  refine wlit ?_
  refine wl_v (x_move (tmP rfl rfl)) ?_
  refine wl_e rfl ?_; intro K hK
  refine ow_call Try.func29 rfl rfl (evs_cons (tmP rfl rfl) <| evs_cons (ev_cN 16) <| evs_nil) (bytes_c gr A0 A2 _ 16 n _ l false _ _ (hS.enter [1] [2] rfl rfl) hA2 (by omega) hcp2) ?_
  rintro e w ⟨A3, c3, rfl, hS2, hA3, hcp3⟩
  refine ⟨_, rfl, ?_⟩
  replace hS := hS.turn 1 rfl rfl hS2 rfl
  clear hS2
  try replace hS := St.nm (M' := [.blk _ _ [_, _, _, _, _, _, _, _, _, _, _], _, .row _ _ _ _ _, .blk _ _ [_, _, _, _, _, _, _, _, _, _, _], .vw _ _]) hS rfl
  refine hK _ _ ?_; clear hK K
  refine wl_e rfl ?_; intro K hK
  refine ow_call Try.func31 rfl rfl (evs_cons (tmS rfl rfl) <| evs_nil) (ad_of16_c A2 _ _ _ (by have h := (NewV.offb (hS.newv 2 rfl) hl hA2 16).1; exact h) (by rw [List.length_take, List.length_drop]; omega) ((hb.drop _).take 16)) ?_
  rintro e w ⟨rfl, hk⟩
  refine ⟨_, rfl, ?_⟩
  replace hS := hS.kept hk
  clear hk
  refine hK _ _ ?_; clear hK K
  refine wl_v (x_move (tmT rfl rfl)) ?_
  refine wl_v (x_ext (tmT rfl rfl) rfl) ?_
  refine wl_v (x_ext (tmT rfl rfl) rfl) ?_
  refine wl_v (x_fa 8 Try.underlying132 rfl rfl ts_26 (tmP rfl rfl)) ?_
  refine wl_e rfl ?_; intro K hK
  refine ow_storeA hS 0 rfl ts_26 (tmP rfl rfl) (tmA rfl rfl) rfl rfl rfl ?_
  clear hS; intro w hS
  try replace hS := St.nm (M' := [.blk _ _ [_, _, _, _, _, _, _, _, _, _, _], _, .row _ _ _ _ _, .blk _ _ [_, _, _, _, _, _, _, _, _, _, _], .vw _ _]) hS rfl
  refine hK _ _ ?_; clear hK K
  refine wl_nil ?_
  refine then_n (hK11 _ _ ?_); clear hK11 K11
  refine wp_seq_k ?_; intro K12 hK12
  refine wp_seq_k ?_; intro K13 hK13
  refine rg_startk 0 hS mixed_ ?_
  clear hS; intro w hS
  refine rg_take 0 rfl rfl (by kernel_rfl) (by kernel_rfl) (by kernel_rfl) (want_0) (fun w hok => x_move (tmP rfl rfl)) ?_
  refine rg_take 2 rfl rfl (by kernel_rfl) (by kernel_rfl) (by kernel_rfl) (want_0) (fun w hok => x_fa 2 Try.underlying132 rfl rfl ts_3 (tmP rfl rfl)) ?_
  refine rg_take 3 rfl rfl (by kernel_rfl) (by kernel_rfl) (by kernel_rfl) (want_0) (fun w hok => x_load Try.underlying3 rfl (tmP rfl rfl) (cellB hok 0 rfl rfl)) ?_
  refine rg_step 1 rfl (by kernel_rfl) (want_0) (oks_drop hS 0 rfl) ?_; intro K hK
  refine ow_call Try.func71 rfl rfl (evs_cons (tmP rfl rfl) <| evs_nil) (left_c gr _ _ _ _ _ (viewB hS.ok 1 rfl)) ?_
  rintro e w ⟨rfl, hk⟩
  refine ⟨_, rfl, ?_⟩
  replace hS := hS.kept hk
  clear hk
  refine hK _ _ ?_; clear hK K
  refine rg_take 4 rfl rfl (by kernel_rfl) (by kernel_rfl) (by kernel_rfl) (want_0) (fun w hok => x_lss (tmI rfl rfl) (tmI rfl rfl)) ?_
  refine rg_done (oks_drop hS 0 rfl) (by kernel_rfl) ?_
  refine then_n (hK13 _ _ ?_); clear hK13 K13
  refine cnd (tm rfl) (fun hc2 => ?_) (fun hc2 => ?_)
  · exfalso
    simp only [nrm] at hc2
    omega
  try simp only [nrm] at hc2
  refine wp_skip ?_
  refine then_n (hK12 _ _ ?_); clear hK12 K12
  refine wp_seq_k ?_; intro K14 hK14
  replace hS := hS.pick [1, 3, 0, 2] rfl rfl
  try replace hS := St.nm (M' := [_, .blk _ _ [_, _, _, _, _, _, _, _, _, _, _], .blk _ _ [_, _, _, _, _, _, _, _, _, _, _], .row _ _ _ _ _]) hS rfl
  refine rg_startk 2 hS mixed_ ?_
  clear hS; intro w hS
  refine rg_take 0 rfl rfl (by kernel_rfl) (by kernel_rfl) (by kernel_rfl) (want_0) (fun w hok => x_loadA (cs := [_, _, _, _, _, _, _, _, _, _, _]) Try.underlying132 rfl ts_132 (tmP rfl rfl) (rangeB hok 0 rfl rfl)) ?_
  refine rg_take 1 rfl rfl (by kernel_rfl) (by kernel_rfl) (by kernel_rfl) (want_0) (fun w hok => x_move (tmP rfl rfl)) ?_
  refine rg_take 2 rfl rfl (by kernel_rfl) (by kernel_rfl) (by kernel_rfl) (want_0) (fun w hok => x_fa 2 Try.underlying132 rfl rfl ts_3 (tmP rfl rfl)) ?_
  refine rg_take 3 rfl rfl (by kernel_rfl) (by kernel_rfl) (by kernel_rfl) (want_0) (fun w hok => x_load Try.underlying3 rfl (tmP rfl rfl) (cellB hok 0 rfl rfl)) ?_
  refine rg_step 4 rfl (by kernel_rfl) (want_0) (oks_drop hS 2 rfl) ?_; intro K hK
  refine ow_call Try.func29 rfl rfl (evs_cons (tmP rfl rfl) <| evs_cons (tmI rfl rfl) <| evs_nil) (bytes_c gr A0 A3 _ len n _ l false _ _ (hS.enter [0] [3] rfl rfl) hA3 (by omega) hcp3) ?_
  rintro e w ⟨A4, c4, rfl, hS2, hA4, hcp4⟩
  refine ⟨_, rfl, ?_⟩
  replace hS := hS.turn 0 rfl rfl hS2 rfl
  clear hS2
  try replace hS := St.nm (M' := [_, .blk _ _ [_, _, _, _, _, _, _, _, _, _, _], .blk _ _ [_, _, _, _, _, _, _, _, _, _, _], .row _ _ _ _ _]) hS rfl
  refine hK _ _ ?_; clear hK K
  refine rg_step 5 rfl (by kernel_rfl) (want_0) (oks_drop hS 2 rfl) ?_; intro K hK
  refine ow_storeA hS 1 rfl ts_132 (tmP rfl rfl) (tmA rfl rfl) rfl rfl rfl ?_
  clear hS; intro w hS
  try replace hS := St.nm (M' := [_, .blk _ _ [_, _, _, _, _, _, _, _, _, _, _], .blk _ _ [_, _, _, _, _, _, _, _, _, _, _], .row _ _ _ _ _]) hS rfl
  refine hK _ _ ?_; clear hK K
  refine rg_take 6 rfl rfl (by kernel_rfl) (by kernel_rfl) (by kernel_rfl) (want_0) (fun w hok => x_assign (tmS rfl rfl)) ?_
  refine rg_take 7 rfl rfl (by kernel_rfl) (by kernel_rfl) (by kernel_rfl) (want_0) (fun w hok => x_assign (ev_cN 0)) ?_
  refine rg_done (oks_drop hS 2 rfl) (by kernel_rfl) ?_
  refine then_n (hK14 _ _ ?_); clear hK14 K14
  refine wp_ret ?_
  refine ret3 rfl (.cell rfl rfl (load_rowB (cs := [_, _, _, _, _, _, _, _, _, _, _]) hS.ok 1 rfl Try.underlying132 rfl ts_132 rfl)) (.tmp rfl (show _ = Value.slice _ _ _ from rfl)) (.tmp rfl (show _ = Value.int _ _ from rfl)) ?_
  exact ⟨A3, by rw [hlb]; rfl, NewV.offb (hS.newv 3 rfl) hl hA3 len, hS.kp⟩

end Go.Proofs.Ytcobjneobdihkaa
/- ip6: Parse with errors, and the reference's Parse, by contract. Conditions: none but bounds. -/
namespace Go.Proofs.Ytcobjneobdihkaa
open Go.RowKit
theorem getN_split (l : List Nat) (p a b : Nat) (h : p + a + b ≤ l.length) : getN l p (a + b) = getN l p a * 256 ^ b + getN l (p + a) b := by
  unfold getN
  rw [List.take_add, numBE_append, List.drop_drop]
  rw [show ((l.drop (p + a)).take b).length = b by rw [List.length_take, List.length_drop]; omega]
theorem six_first {l : List Nat} (hb : Bytes l) (h : 4 ≤ l.length) : getN l 0 4 / 2 ^ 28 = nth l 0 / 16 := by
  have h1 := getN_split l 0 1 3 (by omega)
  have h2 := getN_lt hb 1 3
  rw [getN_one (by omega)] at h1
  have h3 : getN l 0 4 = nth l 0 * 256 ^ 3 + getN l 1 3 := h1
  omega
def Ip6Bad (l : List Nat) (n : Nat) : Prop := n < 40 ∨ (40 ≤ n ∧ nth l 0 / 16 = 6 ∧ n - 40 < getN l 4 2)
theorem ip6_all (l : List Nat) (hb : Bytes l) (h6 : nth l 0 / 16 = 6) : (∃ len, Ip6Form l l.length len) ∨ Ip6Bad l l.length := by
  by_cases h0 : l.length < 40
  · exact .inr (.inl h0)
  by_cases h1 : l.length - 40 < getN l 4 2
  · exact .inr (.inr ⟨by omega, h6, h1⟩)
  · exact .inl ⟨_, by omega, by rw [six_first hb (by omega)]; exact h6, rfl, by omega⟩
def ad0_ : Ad := ⟨false, 0, 0⟩
set_option maxRecDepth 100000 in
set_option maxHeartbeats 8000000 in
theorem ip6_parse_bad (n : Nat) (A : Option Addr) (c : Nat) (l : List Nat) (w0 : World) (hv : View w0 w0.heap.size A (l.map u8v)) (hl : l.length = n) (hc : n ≤ c) (hb : Bytes l) (hn4 : n ≤ 1000000) (h : Ip6Bad l n) :
    Calls Try.prog 63 #[.slice A n c] w0 fun e w' => e = .returned (.tuple #[.agg (hd6V 0 0 0 0 0 ad0_ ad0_).toArray, .slice none 0 0, .int .i64 20]) ∧ Kp [] w0 w' := by
  have hS := (St.sv w0).vcons rfl hv
  by_cases h20 : n < 40
  · skip
    refine ent (n := 61) Try.func63 rfl rfl ?_
    refine wp_seq_k ?_; intro K1 hK1
    refine wlit ?_
    refine wl_e rfl ?_; intro K hK
    refine ow_alloc hS tz_132 rfl ?_
    clear hS; intro g0_0 w hg0_0 hS
    refine hK _ _ ?_; clear hK K
    refine wl_v (x_assign ev_c) ?_
    refine wl_v (x_assign (ev_cN 0)) ?_
    refine wl_nil ?_
    refine then_n (hK1 _ _ ?_); clear hK1 K1
    refine wp_seq_k ?_; intro K2 hK2
    refine wp_seq_k ?_; intro K3 hK3
    refine wlit ?_
    refine wl_v (x_move (tmS rfl rfl)) ?_
    refine wl_v (x_len Try.underlying22 (tmS rfl rfl)) ?_
    refine wl_v (x_lss (tmI rfl rfl) (ev_cN 40)) ?_
    refine wl_nil ?_
    refine then_n (hK3 _ _ ?_); clear hK3 K3
    refine cnds (tm rfl) (fun hc0 => ?_) (fun hc0 => ?_)
    · exfalso
      simp only [nrm] at hc0
      omega
    try simp only [nrm] at hc0
    refine wp_seq_k ?_; intro K4 hK4
    refine wlit ?_
    refine wl_v (x_build (bc_skip (.int .u8 0) <| bc_skip (.int .u32 0) <| bc_skip (.int .i64 0) <| bc_skip (.int .u8 0) <| bc_skip (.int .u8 0) <| bc_skipL [.bool false, .int .u64 0, .int .u64 0] <| bc_skipL [.bool false, .int .u64 0, .int .u64 0] <| bc_nil) (by kernel_rfl)) ?_
    refine wl_e rfl ?_; intro K hK
    refine ow_storeA hS 0 rfl ts_132 (tmP rfl rfl) (tmA rfl rfl) rfl rfl rfl ?_
    clear hS; intro w hS
    try replace hS := St.nm (M' := [.blk _ _ [_, _, _, _, _, _, _, _, _, _, _], .vw _ _]) hS rfl
    refine hK _ _ ?_; clear hK K
    refine wl_v (x_assign ev_c) ?_
    refine wl_v (x_assign (ev_cN 20)) ?_
    refine wl_nil ?_
    refine then_n (hK4 _ _ ?_); clear hK4 K4
    refine wp_ret ?_
    refine then_r ?_
    refine ret3 rfl (.cell rfl rfl (load_rowB (cs := [_, _, _, _, _, _, _, _, _, _, _]) hS.ok 0 rfl Try.underlying132 rfl ts_132 rfl)) (.tmp rfl (show _ = Value.slice _ _ _ from rfl)) (.tmp rfl (show _ = Value.int _ _ from rfl)) ?_
    exact ⟨rfl, hS.kp⟩
  obtain ⟨n40, six, cut⟩ : 40 ≤ n ∧ nth l 0 / 16 = 6 ∧ n - 40 < getN l 4 2 := by
    rcases h with h | h
    · omega
    · exact h
  rw [← six_first hb (by omega)] at six
  have hF := getN_lt hb 0 4
  obtain ⟨len, hle⟩ : ∃ len, getN l 4 2 = len := ⟨_, rfl⟩
  have hle' : getN l (0 + 4) 2 = len := hle
  have hle2 := getN_lt hb 4 2
  refine ent (n := 61) Try.func63 rfl rfl ?_
  refine wp_seq_k ?_; intro K1 hK1
  refine wlit ?_
  refine wl_e rfl ?_; intro K hK
  refine ow_alloc hS tz_132 rfl ?_
  clear hS; intro g0_0 w hg0_0 hS
  refine hK _ _ ?_; clear hK K
  refine wl_v (x_assign ev_c) ?_
  refine wl_v (x_assign (ev_cN 0)) ?_
  refine wl_nil ?_
  refine then_n (hK1 _ _ ?_); clear hK1 K1
  refine wp_seq_k ?_; intro K2 hK2
  refine wp_seq_k ?_; intro K3 hK3
  refine wlit ?_
  refine wl_v (x_move (tmS rfl rfl)) ?_
  refine wl_v (x_len Try.underlying22 (tmS rfl rfl)) ?_
  refine wl_v (x_lss (tmI rfl rfl) (ev_cN 40)) ?_
  refine wl_nil ?_
  refine then_n (hK3 _ _ ?_); clear hK3 K3
  refine cnd (tm rfl) (fun hc0 => ?_) (fun hc0 => ?_)
  · exfalso
    simp only [nrm] at hc0
    omega
  try simp only [nrm] at hc0
  refine wp_skip ?_
  refine then_n (hK2 _ _ ?_); clear hK2 K2
  refine wp_seq_k ?_; intro K4 hK4
  refine wlit ?_
  refine wl_v (x_move (tmS rfl rfl)) ?_
  refine wl_e rfl ?_; intro K hK
  refine ow_call Try.func14 rfl rfl (evs_cons (tmS rfl rfl) <| evs_nil) (read_c n A c l _ (viewV hS.ok 1 rfl) hl hn4) ?_
  rintro e w ⟨gr, A0, rfl, hS2⟩
  refine ⟨_, rfl, ?_⟩
  replace hS := hS.adds hS2 rfl -- +gr,rowb
  clear hS2
  have hA : Off A0 0 n A0 := off_zero
  have hcp : n - 0 ≤ n := by omega
  refine hK _ _ ?_; clear hK K
  refine wl_v (x_assign (tmP rfl rfl)) ?_
  refine wl_nil ?_
  refine then_n (hK4 _ _ ?_); clear hK4 K4
  refine wp_seq_k ?_; intro K5 hK5
  refine wlit ?_
  refine wl_v (x_move (tmP rfl rfl)) ?_
  refine wl_e rfl ?_; intro K hK
  refine ow_call Try.func25 rfl rfl (evs_cons (tmP rfl rfl) <| evs_nil) (long_c gr A0 _ _ n _ l false _ _ (hS.enter [0] [1] rfl rfl) hA (by omega) hcp hl hb) ?_
  rintro e w ⟨A1, c1, rfl, hS2, hA, hcp⟩
  refine ⟨_, rfl, ?_⟩
  replace hS := hS.turn 0 rfl rfl hS2 rfl
  clear hS2
  try replace hS := St.nm (M' := [_, .row _ _ _ _ _, .blk _ _ [_, _, _, _, _, _, _, _, _, _, _], .vw _ _]) hS rfl
  refine hK _ _ ?_; clear hK K
  refine wl_v (x_assign (tmI rfl rfl)) ?_
  refine wl_nil ?_
  refine then_n (hK5 _ _ ?_); clear hK5 K5
  refine wp_seq_k ?_; intro K6 hK6
  refine wp_seq_k ?_; intro K7 hK7
  refine wlit ?_
  refine wl_v (x_move (tmI rfl rfl)) ?_
  refine wl_v (x_shrN (tmI rfl rfl) (ev_cN 28) (fit_u32 (by omega))) ?_
  refine wl_v (x_neq (tmI rfl rfl) (ev_cN 6)) ?_
  refine wl_nil ?_
  refine then_n (hK7 _ _ ?_); clear hK7 K7
  refine cnd (tm rfl) (fun hc1 => ?_) (fun hc1 => ?_)
  · exfalso
    simp only [nrm] at hc1
    omega
  try simp only [nrm] at hc1
  refine wp_skip ?_
  refine then_n (hK6 _ _ ?_); clear hK6 K6
  refine wp_seq_k ?_; intro K8 hK8
  refine wlit ?_
  refine wl_v (x_move (tmI rfl rfl)) ?_
  refine wl_v (x_shrN (tmI rfl rfl) (ev_cN 20) (fit_u32 (by omega))) ?_
  refine wl_v (x_convU Try.underlying30 Try.underlying5 (tmI rfl rfl) rfl) ?_
  refine wl_v (x_move (tmI rfl rfl)) ?_
  refine wl_v (x_andN (tmI rfl rfl) (ev_cN 1048575) (fit_u32 (by omega)) (fit_u32 (by omega))) ?_
  refine wl_v (x_build (bc_take (tmI rfl rfl) <| bc_take (tmI rfl rfl) <| bc_skip (.int .i64 0) <| bc_skip (.int .u8 0) <| bc_skip (.int .u8 0) <| bc_skipL [.bool false, .int .u64 0, .int .u64 0] <| bc_skipL [.bool false, .int .u64 0, .int .u64 0] <| bc_nil) (by kernel_rfl)) ?_
  refine wl_e rfl ?_; intro K hK
  refine ow_alloc hS tz_132 rfl ?_
  clear hS; intro g7_6 w hg7_6 hS
  refine hK _ _ ?_; clear hK K
  refine wl_e rfl ?_; intro K hK
  refine ow_storeA hS 0 rfl ts_132 (tmP rfl rfl) (tmA rfl rfl) rfl rfl rfl ?_
  clear hS; intro w hS
  try replace hS := St.nm (M' := [.blk _ _ [_, _, _, _, _, _, _, _, _, _, _], _, .row _ _ _ _ _, .blk _ _ [_, _, _, _, _, _, _, _, _, _, _], .vw _ _]) hS rfl
  refine hK _ _ ?_; clear hK K
  refine wl_nil ?_
  refine then_n (hK8 _ _ ?_); clear hK8 K8
  refine wp_seq_k ?_; intro K9 hK9
  refine wlit ?_
  refine wl_v (x_move (tmP rfl rfl)) ?_
  refine wl_e rfl ?_; intro K hK
  refine ow_call Try.func15 rfl rfl (evs_cons (tmP rfl rfl) <| evs_nil) (word_c gr A0 _ _ n _ l false _ _ (hS.enter [1] [2] rfl rfl) hA (by omega) hcp hl hb) ?_
  rintro e w ⟨A1, c1, rfl, hS2, hA, hcp⟩
  refine ⟨_, rfl, ?_⟩
  replace hS := hS.turn 1 rfl rfl hS2 rfl
  clear hS2
  try replace hS := St.nm (M' := [.blk _ _ [_, _, _, _, _, _, _, _, _, _, _], _, .row _ _ _ _ _, .blk _ _ [_, _, _, _, _, _, _, _, _, _, _], .vw _ _]) hS rfl
  refine hK _ _ ?_; clear hK K
  refine wl_v (x_convN Try.underlying27 Try.underlying3 (tmI rfl (congrArg (fun q : Nat => Value.int .u16 (q : Int)) hle')) (fit_i64 (by omega))) ?_
  refine wl_v (x_move (tmP rfl rfl)) ?_
  refine wl_e rfl ?_; intro K hK
  refine ow_call Try.func30 rfl rfl (evs_cons (tmP rfl rfl) <| evs_nil) (byte_c gr A0 _ _ n _ l false _ _ (hS.enter [1] [2] rfl rfl) hA (by omega) hcp hl hb) ?_
  rintro e w ⟨A1, c1, rfl, hS2, hA, hcp⟩
  refine ⟨_, rfl, ?_⟩
  replace hS := hS.turn 1 rfl rfl hS2 rfl
  clear hS2
  try replace hS := St.nm (M' := [.blk _ _ [_, _, _, _, _, _, _, _, _, _, _], _, .row _ _ _ _ _, .blk _ _ [_, _, _, _, _, _, _, _, _, _, _], .vw _ _]) hS rfl
  refine hK _ _ ?_; clear hK K
  refine wl_v (x_move (tmP rfl rfl)) ?_
  refine wl_e rfl ?_; intro K hK
  refine ow_call Try.func30 rfl rfl (evs_cons (tmP rfl rfl) <| evs_nil) (byte_c gr A0 _ _ n _ l false _ _ (hS.enter [1] [2] rfl rfl) hA (by omega) hcp hl hb) ?_
  rintro e w ⟨A1, c1, rfl, hS2, hA, hcp⟩
  refine ⟨_, rfl, ?_⟩
  replace hS := hS.turn 1 rfl rfl hS2 rfl
  clear hS2
  try replace hS := St.nm (M' := [.blk _ _ [_, _, _, _, _, _, _, _, _, _, _], _, .row _ _ _ _ _, .blk _ _ [_, _, _, _, _, _, _, _, _, _, _], .vw _ _]) hS rfl
  refine hK _ _ ?_; clear hK K
  refine wl_v (x_fa 2 Try.underlying132 rfl rfl ts_3 (tmP rfl rfl)) ?_
  refine wl_e rfl ?_; intro K hK
  refine ow_store hS 0 rfl ts_3 (tmP rfl rfl) (tmI rfl rfl) rfl rfl ?_
  clear hS; intro w hS
  try replace hS := St.nm (M' := [.blk _ _ [_, _, _, _, _, _, _, _, _, _, _], _, .row _ _ _ _ _, .blk _ _ [_, _, _, _, _, _, _, _, _, _, _], .vw _ _]) hS rfl
  refine hK _ _ ?_; clear hK K
  refine wl_v (x_fa 3 Try.underlying132 rfl rfl ts_5 (tmP rfl rfl)) ?_
  refine wl_e rfl ?_; intro K hK
  refine ow_store hS 0 rfl ts_5 (tmP rfl rfl) (tmI rfl rfl) rfl rfl ?_
  clear hS; intro w hS
  try replace hS := St.nm (M' := [.blk _ _ [_, _, _, _, _, _, _, _, _, _, _], _, .row _ _ _ _ _, .blk _ _ [_, _, _, _, _, _, _, _, _, _, _], .vw _ _]) hS rfl
  refine hK _ _ ?_; clear hK K
  refine wl_v (x_fa 4 Try.underlying132 rfl rfl ts_5 (tmP rfl rfl)) ?_
  refine wl_e rfl ?_; intro K hK
  refine ow_store hS 0 rfl ts_5 (tmP rfl rfl) (tmI rfl rfl) rfl rfl ?_
  clear hS; intro w hS
  try replace hS := St.nm (M' := [.blk _ _ [_, _, _, _, _, _, _, _, _, _, _], _, .row _ _ _ _ _, .blk _ _ [_, _, _, _, _, _, _, _, _, _, _], .vw _ _]) hS rfl
  refine hK _ _ ?_; clear hK K
  refine wl_nil ?_
  refine then_n (hK9 _ _ ?_); clear hK9 K9
  refine wp_seq_k ?_; intro K10 hK10
  refine wlit ?_
  refine wl_v (x_move (tmP rfl rfl)) ?_
  refine wl_e rfl ?_; intro K hK
  refine ow_call Try.func29 rfl rfl (evs_cons (tmP rfl rfl) <| evs_cons (ev_cN 16) <| evs_nil) (bytes_c gr A0 A1 _ 16 n _ l false _ _ (hS.enter [1] [2] rfl rfl) hA (by omega) hcp) ?_
  rintro e w ⟨A2, c2, rfl, hS2, hA2, hcp2⟩
  refine ⟨_, rfl, ?_⟩
  replace hS := hS.turn 1 rfl rfl hS2 rfl
  clear hS2
  try replace hS := St.nm (M' := [.blk _ _ [_, _, _, _, _, _, _, _, _, _, _], _, .row _ _ _ _ _, .blk _ _ [_, _, _, _, _, _, _, _, _, _, _], .vw _ _]) hS rfl
  refine hK _ _ ?_; clear hK K
  refine wl_e rfl ?_; intro K hK
  refine ow_call Try.func31 rfl rfl (evs_cons (tmS rfl rfl) <| evs_nil) (ad_of16_c A1 _ _ _ (by have h := (NewV.offb (hS.newv 2 rfl) hl hA 16).1; exact h) (by rw [List.length_take, List.length_drop]; omega) ((hb.drop _).take 16)) ?_
  rintro e w ⟨rfl, hk⟩
  refine ⟨_, rfl, ?_⟩
  replace hS := hS.kept hk
  clear hk
  refine hK _ _ ?_; clear hK K
  refine wl_v (x_move (tmT rfl rfl)) ?_
  refine wl_v (x_ext (tmT rfl rfl) rfl) ?_
  refine wl_v (x_ext (tmT rfl rfl) rfl) ?_
  refine wl_v (x_fa 5 Try.underlying132 rfl rfl ts_26 (tmP rfl rfl)) ?_
  refine wl_e rfl ?_; intro K hK
  refine ow_storeA hS 0 rfl ts_26 (tmP rfl rfl) (tmA rfl rfl) rfl rfl rfl ?_
  clear hS; intro w hS
  try replace hS := St.nm (M' := [.blk _ _ [_, _, _, _, _, _, _, _, _, _, _], _, .row _ _ _ _ _, .blk _ _ [_, _, _, _, _, _, _, _, _, _, _], .vw _ _]) hS rfl
  refine hK _ _ ?_; clear hK K
  refine wl_nil ?_
  refine then_n (hK10 _ _ ?_); clear hK10 K10
  refine wp_seq_k ?_; intro K11 hK11
  refine wlit ?_
  refine wl_v (x_move (tmP rfl rfl)) ?_
  refine wl_e rfl ?_; intro K hK
  refine ow_call Try.func29 rfl rfl (evs_cons (tmP rfl rfl) <| evs_cons (ev_cN 16) <| evs_nil) (bytes_c gr A0 A2 _ 16 n _ l false _ _ (hS.enter [1] [2] rfl rfl) hA2 (by omega) hcp2) ?_
  rintro e w ⟨A3, c3, rfl, hS2, hA3, hcp3⟩
  refine ⟨_, rfl, ?_⟩
  replace hS := hS.turn 1 rfl rfl hS2 rfl
  clear hS2
  try replace hS := St.nm (M' := [.blk _ _ [_, _, _, _, _, _, _, _, _, _, _], _, .row _ _ _ _ _, .blk _ _ [_, _, _, _, _, _, _, _, _, _, _], .vw _ _]) hS rfl
  refine hK _ _ ?_; clear hK K
  refine wl_e rfl ?_; intro K hK
  refine ow_call Try.func31 rfl rfl (evs_cons (tmS rfl rfl) <| evs_nil) (ad_of16_c A2 _ _ _ (by have h := (NewV.offb (hS.newv 2 rfl) hl hA2 16).1; exact h) (by rw [List.length_take, List.length_drop]; omega) ((hb.drop _).take 16)) ?_
  rintro e w ⟨rfl, hk⟩
  refine ⟨_, rfl, ?_⟩
  replace hS := hS.kept hk
  clear hk
  refine hK _ _ ?_; clear hK K
  refine wl_v (x_move (tmT rfl rfl)) ?_
  refine wl_v (x_ext (tmT rfl rfl) rfl) ?_
  refine wl_v (x_ext (tmT rfl rfl) rfl) ?_
  refine wl_v (x_fa 8 Try.underlying132 rfl rfl ts_26 (tmP rfl rfl)) ?_
  refine wl_e rfl ?_; intro K hK
  refine ow_storeA hS 0 rfl ts_26 (tmP rfl rfl) (tmA rfl rfl) rfl rfl rfl ?_
  clear hS; intro w hS
  try replace hS := St.nm (M' := [.blk _ _ [_, _, _, _, _, _, _, _, _, _, _], _, .row _ _ _ _ _, .blk _ _ [_, _, _, _, _, _, _, _, _, _, _], .vw _ _]) hS rfl
  refine hK _ _ ?_; clear hK K
  refine wl_nil ?_
  refine then_n (hK11 _ _ ?_); clear hK11 K11
  refine wp_seq_k ?_; intro K12 hK12
  refine wp_seq_k ?_; intro K13 hK13
  refine rg_startk 0 hS mixed_ ?_
  clear hS; intro w hS
  refine rg_take 0 rfl rfl (by kernel_rfl) (by kernel_rfl) (by kernel_rfl) (want_0) (fun w hok => x_move (tmP rfl rfl)) ?_
  refine rg_take 2 rfl rfl (by kernel_rfl) (by kernel_rfl) (by kernel_rfl) (want_0) (fun w hok => x_fa 2 Try.underlying132 rfl rfl ts_3 (tmP rfl rfl)) ?_
  refine rg_take 3 rfl rfl (by kernel_rfl) (by kernel_rfl) (by kernel_rfl) (want_0) (fun w hok => x_load Try.underlying3 rfl (tmP rfl rfl) (cellB hok 0 rfl rfl)) ?_
  refine rg_step 1 rfl (by kernel_rfl) (want_0) (oks_drop hS 0 rfl) ?_; intro K hK
  refine ow_call Try.func71 rfl rfl (evs_cons (tmP rfl rfl) <| evs_nil) (left_c gr _ _ _ _ _ (viewB hS.ok 1 rfl)) ?_
  rintro e w ⟨rfl, hk⟩
  refine ⟨_, rfl, ?_⟩
  replace hS := hS.kept hk
  clear hk
  refine hK _ _ ?_; clear hK K
  refine rg_take 4 rfl rfl (by kernel_rfl) (by kernel_rfl) (by kernel_rfl) (want_0) (fun w hok => x_lss (tmI rfl rfl) (tmI rfl rfl)) ?_
  refine rg_done (oks_drop hS 0 rfl) (by kernel_rfl) ?_
  refine then_n (hK13 _ _ ?_); clear hK13 K13
  refine cnds (tm rfl) (fun hc2 => ?_) (fun hc2 => ?_)
  · exfalso
    simp only [nrm] at hc2
    omega
  try simp only [nrm] at hc2
  refine wp_seq_k ?_; intro K14 hK14
  refine wlit ?_
  refine wl_v (x_build (bc_skip (.int .u8 0) <| bc_skip (.int .u32 0) <| bc_skip (.int .i64 0) <| bc_skip (.int .u8 0) <| bc_skip (.int .u8 0) <| bc_skipL [.bool false, .int .u64 0, .int .u64 0] <| bc_skipL [.bool false, .int .u64 0, .int .u64 0] <| bc_nil) (by kernel_rfl)) ?_
  refine wl_e rfl ?_; intro K hK
  refine ow_storeA hS 3 rfl ts_132 (tmP rfl rfl) (tmA rfl rfl) rfl rfl rfl ?_
  clear hS; intro w hS
  try replace hS := St.nm (M' := [.blk _ _ [_, _, _, _, _, _, _, _, _, _, _], _, .row _ _ _ _ _, .blk _ _ [_, _, _, _, _, _, _, _, _, _, _], .vw _ _]) hS rfl
  refine hK _ _ ?_; clear hK K
  refine wl_v (x_assign ev_c) ?_
  refine wl_v (x_assign (ev_cN 20)) ?_
  refine wl_nil ?_
  refine then_n (hK14 _ _ ?_); clear hK14 K14
  refine wp_ret ?_
  refine then_r ?_
  refine ret3 rfl (.cell rfl rfl (load_rowB (cs := [_, _, _, _, _, _, _, _, _, _, _]) hS.ok 3 rfl Try.underlying132 rfl ts_132 rfl)) (.tmp rfl (show _ = Value.slice _ _ _ from rfl)) (.tmp rfl (show _ = Value.int _ _ from rfl)) ?_
  exact ⟨rfl, hS.kp⟩

set_option maxRecDepth 100000 in
set_option maxHeartbeats 8000000 in
theorem rip6_parse_bad (n : Nat) (A : Option Addr) (c : Nat) (l : List Nat) (w0 : World) (hv : View w0 w0.heap.size A (l.map u8v)) (hl : l.length = n) (hc : n ≤ c) (hb : Bytes l) (hn4 : n ≤ 1000000) (h : Ip6Bad l n) :
    Calls Try.prog 36 #[.slice A n c] w0 fun e w' => e = .returned (.tuple #[.agg (hd6V 0 0 0 0 0 ad0_ ad0_).toArray, .slice none 0 0, .int .i64 20]) ∧ Kp [] w0 w' := by
  have hS := (St.sv w0).vcons rfl hv
  by_cases h20 : n < 40
  · skip
    refine ent (n := 75) Try.func36 rfl rfl ?_
    refine wp_seq_k ?_; intro K1 hK1
    refine wlit ?_
    refine wl_e rfl ?_; intro K hK
    refine ow_alloc hS tz_98 rfl ?_
    clear hS; intro g0_0 w hg0_0 hS
    refine hK _ _ ?_; clear hK K
    refine wl_v (x_assign ev_c) ?_
    refine wl_v (x_assign (ev_cN 0)) ?_
    refine wl_nil ?_
    refine then_n (hK1 _ _ ?_); clear hK1 K1
    refine wp_seq_k ?_; intro K2 hK2
    refine wp_seq_k ?_; intro K3 hK3
    refine wlit ?_
    refine wl_v (x_move (tmS rfl rfl)) ?_
    refine wl_v (x_len Try.underlying22 (tmS rfl rfl)) ?_
    refine wl_v (x_lss (tmI rfl rfl) (ev_cN 40)) ?_
    refine wl_nil ?_
    refine then_n (hK3 _ _ ?_); clear hK3 K3
    refine cnds (tm rfl) (fun hc0 => ?_) (fun hc0 => ?_)
    · exfalso
      simp only [nrm] at hc0
      omega
    try simp only [nrm] at hc0
    refine wp_seq_k ?_; intro K4 hK4
    refine wlit ?_
    refine wl_v (x_build (bc_skip (.int .u8 0) <| bc_skip (.int .u32 0) <| bc_skip (.int .i64 0) <| bc_skip (.int .u8 0) <| bc_skip (.int .u8 0) <| bc_skipL [.bool false, .int .u64 0, .int .u64 0] <| bc_skipL [.bool false, .int .u64 0, .int .u64 0] <| bc_nil) (by kernel_rfl)) ?_
    refine wl_e rfl ?_; intro K hK
    refine ow_storeA hS 0 rfl ts_98 (tmP rfl rfl) (tmA rfl rfl) rfl rfl rfl ?_
    clear hS; intro w hS
    try replace hS := St.nm (M' := [.blk _ _ [_, _, _, _, _, _, _, _, _, _, _], .vw _ _]) hS rfl
    refine hK _ _ ?_; clear hK K
    refine wl_v (x_assign ev_c) ?_
    refine wl_v (x_assign (ev_cN 20)) ?_
    refine wl_nil ?_
    refine then_n (hK4 _ _ ?_); clear hK4 K4
    refine wp_ret ?_
    refine then_r ?_
    refine ret3 rfl (.cell rfl rfl (load_rowB (cs := [_, _, _, _, _, _, _, _, _, _, _]) hS.ok 0 rfl Try.underlying98 rfl ts_98 rfl)) (.tmp rfl (show _ = Value.slice _ _ _ from rfl)) (.tmp rfl (show _ = Value.int _ _ from rfl)) ?_
    exact ⟨rfl, hS.kp⟩
  obtain ⟨n40, six, cut⟩ : 40 ≤ n ∧ nth l 0 / 16 = 6 ∧ n - 40 < getN l 4 2 := by
    rcases h with h | h
    · omega
    · exact h
  obtain ⟨b4, o4, rfl⟩ := view_some hv (by rw [List.length_map]; omega)
  have hq : l.getD 0 0 = nth l 0 := rfl
  have hq1 : l.getD 1 0 = nth l 1 := rfl
  have hqb := nth_lt hb 0
  have hqb1 := nth_lt hb 1
  obtain ⟨len, hle⟩ : ∃ len, getN l 4 2 = len := ⟨_, rfl⟩
  have hle2 := getN_lt hb 4 2
  have h2_ := getN_lt hb 2 2
  refine ent (n := 75) Try.func36 rfl rfl ?_
  refine wp_seq_k ?_; intro K1 hK1
  refine wlit ?_
  refine wl_e rfl ?_; intro K hK
  refine ow_alloc hS tz_98 rfl ?_
  clear hS; intro g0_0 w hg0_0 hS
  refine hK _ _ ?_; clear hK K
  refine wl_v (x_assign ev_c) ?_
  refine wl_v (x_assign (ev_cN 0)) ?_
  refine wl_nil ?_
  refine then_n (hK1 _ _ ?_); clear hK1 K1
  refine wp_seq_k ?_; intro K2 hK2
  refine wp_seq_k ?_; intro K3 hK3
  refine wlit ?_
  refine wl_v (x_move (tmS rfl rfl)) ?_
  refine wl_v (x_len Try.underlying22 (tmS rfl rfl)) ?_
  refine wl_v (x_lss (tmI rfl rfl) (ev_cN 40)) ?_
  refine wl_nil ?_
  refine then_n (hK3 _ _ ?_); clear hK3 K3
  refine cnd (tm rfl) (fun hc0 => ?_) (fun hc0 => ?_)
  · exfalso
    simp only [nrm] at hc0
    omega
  try simp only [nrm] at hc0
  refine wp_skip ?_
  refine then_n (hK2 _ _ ?_); clear hK2 K2
  refine wp_seq_k ?_; intro K4 hK4
  refine wp_seq_k ?_; intro K5 hK5
  refine wlit ?_
  refine wl_v (x_move (tmS rfl rfl)) ?_
  refine wl_v (x_ixs1 Try.underlying22 ts_5 (tmS rfl rfl) (ev_cN 0) (by omega)) ?_
  refine wl_v (x_load Try.underlying5 rfl (tmP rfl rfl) (cellV hS.ok 1 rfl (getm (by omega)))) ?_
  refine wl_v (x_quoN (tmI rfl rfl) (ev_cN 16) (by omega) (fit_u8 (by omega))) ?_
  refine wl_v (x_neq (tmI rfl rfl) (ev_cN 6)) ?_
  refine wl_nil ?_
  refine then_n (hK5 _ _ ?_); clear hK5 K5
  refine cnd (tm rfl) (fun hc1 => ?_) (fun hc1 => ?_)
  · exfalso
    simp only [nrm] at hc1
    omega
  try simp only [nrm] at hc1
  refine wp_skip ?_
  refine then_n (hK4 _ _ ?_); clear hK4 K4
  refine wp_seq_k ?_; intro K6 hK6
  refine rg_startk 0 hS mixed_ ?_
  clear hS; intro w hS
  refine rg_take 0 rfl rfl (by kernel_rfl) (by kernel_rfl) (by kernel_rfl) (want_0) (fun w hok => x_move (tmS rfl rfl)) ?_
  refine rg_take 1 rfl rfl (by kernel_rfl) (by kernel_rfl) (by kernel_rfl) (want_0) (fun w hok => x_ixs1 Try.underlying22 ts_5 (tmS rfl rfl) (ev_cN 0) (by omega)) ?_
  refine rg_take 2 rfl rfl (by kernel_rfl) (by kernel_rfl) (by kernel_rfl) (want_0) (fun w hok => x_load Try.underlying5 rfl (tmP rfl rfl) (cellV hok 1 rfl (getm (by omega)))) ?_
  refine rg_take 3 rfl rfl (by kernel_rfl) (by kernel_rfl) (by kernel_rfl) (want_0) (fun w hok => x_remN (tmI rfl rfl) (ev_cN 16) (by omega)) ?_
  refine rg_take 4 rfl rfl (by kernel_rfl) (by kernel_rfl) (by kernel_rfl) (want_0) (fun w hok => x_mulN (tmI rfl rfl) (ev_cN 16) (fit_u8 (by omega))) ?_
  refine rg_take 5 rfl rfl (by kernel_rfl) (by kernel_rfl) (by kernel_rfl) (want_0) (fun w hok => x_move (tmS rfl rfl)) ?_
  refine rg_take 6 rfl rfl (by kernel_rfl) (by kernel_rfl) (by kernel_rfl) (want_0) (fun w hok => x_ixs1 Try.underlying22 ts_5 (tmS rfl rfl) (ev_cN 1) (by omega)) ?_
  refine rg_take 7 rfl rfl (by kernel_rfl) (by kernel_rfl) (by kernel_rfl) (want_0) (fun w hok => x_load Try.underlying5 rfl (tmP rfl rfl) (cellV hok 1 rfl (getm (by omega)))) ?_
  refine rg_take 8 rfl rfl (by kernel_rfl) (by kernel_rfl) (by kernel_rfl) (want_0) (fun w hok => x_quoN (tmI rfl rfl) (ev_cN 16) (by omega) (fit_u8 (by omega))) ?_
  refine rg_take 9 rfl rfl (by kernel_rfl) (by kernel_rfl) (by kernel_rfl) (want_0) (fun w hok => x_addN (tmI rfl rfl) (tmI rfl rfl) (fit_u8 (by omega))) ?_
  refine rg_take 10 rfl rfl (by kernel_rfl) (by kernel_rfl) (by kernel_rfl) (want_0) (fun w hok => x_move (tmS rfl rfl)) ?_
  refine rg_take 11 rfl rfl (by kernel_rfl) (by kernel_rfl) (by kernel_rfl) (want_0) (fun w hok => x_ixs1 Try.underlying22 ts_5 (tmS rfl rfl) (ev_cN 1) (by omega)) ?_
  refine rg_take 12 rfl rfl (by kernel_rfl) (by kernel_rfl) (by kernel_rfl) (want_0) (fun w hok => x_load Try.underlying5 rfl (tmP rfl rfl) (cellV hok 1 rfl (getm (by omega)))) ?_
  refine rg_take 13 rfl rfl (by kernel_rfl) (by kernel_rfl) (by kernel_rfl) (want_0) (fun w hok => x_remN (tmI rfl rfl) (ev_cN 16) (by omega)) ?_
  refine rg_take 14 rfl rfl (by kernel_rfl) (by kernel_rfl) (by kernel_rfl) (want_0) (fun w hok => x_convN Try.underlying5 Try.underlying30 (tmI rfl rfl) (fit_u32 (by omega))) ?_
  refine rg_take 15 rfl rfl (by kernel_rfl) (by kernel_rfl) (by kernel_rfl) (want_0) (fun w hok => x_mulN (tmI rfl rfl) (ev_cN 65536) (fit_u32 (by omega))) ?_
  refine rg_take 16 rfl rfl (by kernel_rfl) (by kernel_rfl) (by kernel_rfl) (want_0) (fun w hok => x_move (tmS rfl rfl)) ?_
  refine rg_take 20 rfl rfl (by kernel_rfl) (by kernel_rfl) (by kernel_rfl) (want_0) (fun w hok => x_move (tmS rfl rfl)) ?_
  refine rg_take 23 rfl rfl (by kernel_rfl) (by kernel_rfl) (by kernel_rfl) (want_0) (fun w hok => x_move (tmS rfl rfl)) ?_
  refine rg_take 24 rfl rfl (by kernel_rfl) (by kernel_rfl) (by kernel_rfl) (want_0) (fun w hok => x_ixs1 Try.underlying22 ts_5 (tmS rfl rfl) (ev_cN 6) (by omega)) ?_
  refine rg_take 25 rfl rfl (by kernel_rfl) (by kernel_rfl) (by kernel_rfl) (want_0) (fun w hok => x_load Try.underlying5 rfl (tmP rfl rfl) (cellV hok 1 rfl (getm (by omega)))) ?_
  refine rg_take 26 rfl rfl (by kernel_rfl) (by kernel_rfl) (by kernel_rfl) (want_0) (fun w hok => x_move (tmS rfl rfl)) ?_
  refine rg_take 27 rfl rfl (by kernel_rfl) (by kernel_rfl) (by kernel_rfl) (want_0) (fun w hok => x_ixs1 Try.underlying22 ts_5 (tmS rfl rfl) (ev_cN 7) (by omega)) ?_
  refine rg_take 28 rfl rfl (by kernel_rfl) (by kernel_rfl) (by kernel_rfl) (want_0) (fun w hok => x_load Try.underlying5 rfl (tmP rfl rfl) (cellV hok 1 rfl (getm (by omega)))) ?_
  refine rg_step2 17 30 rfl rfl (by kernel_rfl) (want_0) (want_0) (oks_drop hS 0 rfl) ?_ ?_
  · intro K hK
    refine ow_call Try.func17 rfl rfl (evs_cons (tmS rfl rfl) <| evs_cons (ev_cN 2) <| evs_cons (ev_cN 2) <| evs_nil) (get_c n _ c l _ _ _ (viewV hS.ok 1 rfl) hl hc hn4 hb (by omega) (by omega)) ?_
    rintro e w ⟨rfl, hk⟩
    refine ⟨_, rfl, ?_⟩
    replace hS := hS.kept hk
    clear hk
    refine hK _ _ ?_; clear hK K
    refine rg_take 18 rfl rfl (by kernel_rfl) (by kernel_rfl) (by kernel_rfl) (want_0) (fun w hok => x_convN Try.underlying24 Try.underlying30 (tmI rfl rfl) (fit_u32 (by omega))) ?_
    refine rg_take 19 rfl rfl (by kernel_rfl) (by kernel_rfl) (by kernel_rfl) (want_0) (fun w hok => x_addN (tmI rfl rfl) (tmI rfl rfl) (fit_u32 (by omega))) ?_
    refine rg_step2 21 30 rfl rfl (by kernel_rfl) (want_0) (want_0) (oks_drop hS 0 rfl) ?_ ?_
    · intro K hK
      refine ow_call Try.func17 rfl rfl (evs_cons (tmS rfl rfl) <| evs_cons (ev_cN 4) <| evs_cons (ev_cN 2) <| evs_nil) (get_c n _ c l _ _ _ (viewV hS.ok 1 rfl) hl hc hn4 hb (by omega) (by omega)) ?_
      rintro e w ⟨rfl, hk⟩
      refine ⟨_, rfl, ?_⟩
      replace hS := hS.kept hk
      clear hk
      refine hK _ _ ?_; clear hK K
      refine rg_take 22 rfl rfl (by kernel_rfl) (by kernel_rfl) (by kernel_rfl) (want_0) (fun w hok => x_convN Try.underlying24 Try.underlying3 (tmI rfl (congrArg (fun q : Nat => Value.int .u64 (q : Int)) hle)) (fit_i64 (by omega))) ?_
      refine rg_take 29 rfl rfl (by kernel_rfl) (by kernel_rfl) (by kernel_rfl) (want_0) (fun w hok => x_build (bc_take (tmI rfl rfl) <| bc_take (tmI rfl rfl) <| bc_take (tmI rfl rfl) <| bc_take (tmI rfl rfl) <| bc_take (tmI rfl rfl) <| bc_skipL [.bool false, .int .u64 0, .int .u64 0] <| bc_skipL [.bool false, .int .u64 0, .int .u64 0] <| bc_nil) (by kernel_rfl)) ?_
      refine rg_step 30 rfl (by kernel_rfl) (want_0) (oks_drop hS 0 rfl) ?_; intro K hK
      refine ow_alloc hS tz_98 rfl ?_
      clear hS; intro g5_30 w hg5_30 hS
      refine hK _ _ ?_; clear hK K
      refine rg_step 31 rfl (by kernel_rfl) (want_0) (oks_drop hS 1 rfl) ?_; intro K hK
      refine ow_storeA hS 0 rfl ts_98 (tmP rfl rfl) (tmA rfl rfl) rfl rfl rfl ?_
      clear hS; intro w hS
      try replace hS := St.nm (M' := [.blk _ _ [_, _, _, _, _, _, _, _, _, _, _], .blk _ _ [_, _, _, _, _, _, _, _, _, _, _], .vw _ _]) hS rfl
      refine hK _ _ ?_; clear hK K
      refine rg_done (oks_drop hS 1 rfl) (by kernel_rfl) ?_
      refine then_n (hK6 _ _ ?_); clear hK6 K6
      refine wp_seq_k ?_; intro K7 hK7
      refine wlit ?_
      refine wl_v (x_move (tmS rfl rfl)) ?_
      refine wl_v (x_sliceLH Try.underlying22 ts_5 (tmS rfl rfl) (ev_cN 8) (ev_cN 24) (by omega)) ?_
      replace hS := hS.cutb 2 8 16 rfl (by omega : l.length ≤ c)
      refine wl_e rfl ?_; intro K hK
      refine ow_call Try.func18 rfl rfl (evs_cons (tmS rfl rfl) <| evs_nil) (rad_of16_c _ _ _ _ (viewV hS.ok 0 rfl) (by rw [List.length_take, List.length_drop]; omega) (by omega) ((hb.drop _).take 16)) ?_
      rintro e w ⟨rfl, hk⟩
      refine ⟨_, rfl, ?_⟩
      replace hS := hS.kept hk
      clear hk
      refine hK _ _ ?_; clear hK K
      refine wl_v (x_move (tmT rfl rfl)) ?_
      refine wl_v (x_ext (tmT rfl rfl) rfl) ?_
      refine wl_v (x_ext (tmT rfl rfl) rfl) ?_
      refine wl_v (x_fa 5 Try.underlying98 rfl rfl ts_26 (tmP rfl rfl)) ?_
      refine wl_e rfl ?_; intro K hK
      refine ow_storeA hS 1 rfl ts_26 (tmP rfl rfl) (tmA rfl rfl) rfl rfl rfl ?_
      clear hS; intro w hS
      try replace hS := St.nm (M' := [.vw _ _, .blk _ _ [_, _, _, _, _, _, _, _, _, _, _], .blk _ _ [_, _, _, _, _, _, _, _, _, _, _], .vw _ _]) hS rfl
      refine hK _ _ ?_; clear hK K
      refine wl_nil ?_
      refine then_n (hK7 _ _ ?_); clear hK7 K7
      refine wp_seq_k ?_; intro K8 hK8
      refine wlit ?_
      refine wl_v (x_move (tmS rfl rfl)) ?_
      refine wl_v (x_sliceLH Try.underlying22 ts_5 (tmS rfl rfl) (ev_cN 24) (ev_cN 40) (by omega)) ?_
      replace hS := hS.cutb 3 24 16 rfl (by omega : l.length ≤ c)
      refine wl_e rfl ?_; intro K hK
      refine ow_call Try.func18 rfl rfl (evs_cons (tmS rfl rfl) <| evs_nil) (rad_of16_c _ _ _ _ (viewV hS.ok 0 rfl) (by rw [List.length_take, List.length_drop]; omega) (by omega) ((hb.drop _).take 16)) ?_
      rintro e w ⟨rfl, hk⟩
      refine ⟨_, rfl, ?_⟩
      replace hS := hS.kept hk
      clear hk
      refine hK _ _ ?_; clear hK K
      refine wl_v (x_move (tmT rfl rfl)) ?_
      refine wl_v (x_ext (tmT rfl rfl) rfl) ?_
      refine wl_v (x_ext (tmT rfl rfl) rfl) ?_
      refine wl_v (x_fa 8 Try.underlying98 rfl rfl ts_26 (tmP rfl rfl)) ?_
      refine wl_e rfl ?_; intro K hK
      refine ow_storeA hS 2 rfl ts_26 (tmP rfl rfl) (tmA rfl rfl) rfl rfl rfl ?_
      clear hS; intro w hS
      try replace hS := St.nm (M' := [.vw _ _, .vw _ _, .blk _ _ [_, _, _, _, _, _, _, _, _, _, _], .blk _ _ [_, _, _, _, _, _, _, _, _, _, _], .vw _ _]) hS rfl
      refine hK _ _ ?_; clear hK K
      refine wl_nil ?_
      refine then_n (hK8 _ _ ?_); clear hK8 K8
      refine wp_seq_k ?_; intro K9 hK9
      refine wp_seq_k ?_; intro K10 hK10
      refine wlit ?_
      refine wl_v (x_fa 2 Try.underlying98 rfl rfl ts_3 (tmP rfl rfl)) ?_
      refine wl_v (x_load Try.underlying3 rfl (tmP rfl rfl) (cellB hS.ok 2 rfl rfl)) ?_
      refine wl_v (x_move (tmS rfl rfl)) ?_
      refine wl_v (x_len Try.underlying22 (tmS rfl rfl)) ?_
      refine wl_v (x_subN (tmI rfl rfl) (ev_cN 40) (fit_i64 (by omega)) (by omega)) ?_
      refine wl_v (x_gtr (tmI rfl rfl) (tmI rfl rfl)) ?_
      refine wl_nil ?_
      refine then_n (hK10 _ _ ?_); clear hK10 K10
      refine cnds (tm rfl) (fun hc2 => ?_) (fun hc2 => ?_)
      · exfalso
        simp only [nrm] at hc2
        omega
      try simp only [nrm] at hc2
      refine wp_seq_k ?_; intro K11 hK11
      refine wlit ?_
      refine wl_v (x_build (bc_skip (.int .u8 0) <| bc_skip (.int .u32 0) <| bc_skip (.int .i64 0) <| bc_skip (.int .u8 0) <| bc_skip (.int .u8 0) <| bc_skipL [.bool false, .int .u64 0, .int .u64 0] <| bc_skipL [.bool false, .int .u64 0, .int .u64 0] <| bc_nil) (by kernel_rfl)) ?_
      refine wl_e rfl ?_; intro K hK
      refine ow_storeA hS 3 rfl ts_98 (tmP rfl rfl) (tmA rfl rfl) rfl rfl rfl ?_
      clear hS; intro w hS
      try replace hS := St.nm (M' := [.vw _ _, .vw _ _, .blk _ _ [_, _, _, _, _, _, _, _, _, _, _], .blk _ _ [_, _, _, _, _, _, _, _, _, _, _], .vw _ _]) hS rfl
      refine hK _ _ ?_; clear hK K
      refine wl_v (x_assign ev_c) ?_
      refine wl_v (x_assign (ev_cN 20)) ?_
      refine wl_nil ?_
      refine then_n (hK11 _ _ ?_); clear hK11 K11
      refine wp_ret ?_
      refine then_r ?_
      refine ret3 rfl (.cell rfl rfl (load_rowB (cs := [_, _, _, _, _, _, _, _, _, _, _]) hS.ok 3 rfl Try.underlying98 rfl ts_98 rfl)) (.tmp rfl (show _ = Value.slice _ _ _ from rfl)) (.tmp rfl (show _ = Value.int _ _ from rfl)) ?_
      exact ⟨rfl, hS.kp⟩
    · intro K hK
      refine ow_alloc hS tz_98 rfl ?_
      clear hS; intro g5_30 w hg5_30 hS
      refine hK _ _ ?_; clear hK K
      refine rg_step 21 rfl (by kernel_rfl) (want_0) (oks_drop hS 1 rfl) ?_; intro K hK
      refine ow_call Try.func17 rfl rfl (evs_cons (tmS rfl rfl) <| evs_cons (ev_cN 4) <| evs_cons (ev_cN 2) <| evs_nil) (get_c n _ c l _ _ _ (viewV hS.ok 2 rfl) hl hc hn4 hb (by omega) (by omega)) ?_
      rintro e w ⟨rfl, hk⟩
      refine ⟨_, rfl, ?_⟩
      replace hS := hS.kept hk
      clear hk
      refine hK _ _ ?_; clear hK K
      refine rg_take 22 rfl rfl (by kernel_rfl) (by kernel_rfl) (by kernel_rfl) (want_0) (fun w hok => x_convN Try.underlying24 Try.underlying3 (tmI rfl (congrArg (fun q : Nat => Value.int .u64 (q : Int)) hle)) (fit_i64 (by omega))) ?_
      refine rg_take 29 rfl rfl (by kernel_rfl) (by kernel_rfl) (by kernel_rfl) (want_0) (fun w hok => x_build (bc_take (tmI rfl rfl) <| bc_take (tmI rfl rfl) <| bc_take (tmI rfl rfl) <| bc_take (tmI rfl rfl) <| bc_take (tmI rfl rfl) <| bc_skipL [.bool false, .int .u64 0, .int .u64 0] <| bc_skipL [.bool false, .int .u64 0, .int .u64 0] <| bc_nil) (by kernel_rfl)) ?_
      refine rg_step 31 rfl (by kernel_rfl) (want_0) (oks_drop hS 1 rfl) ?_; intro K hK
      refine ow_storeA hS 0 rfl ts_98 (tmP rfl rfl) (tmA rfl rfl) rfl rfl rfl ?_
      clear hS; intro w hS
      try replace hS := St.nm (M' := [.blk _ _ [_, _, _, _, _, _, _, _, _, _, _], .blk _ _ [_, _, _, _, _, _, _, _, _, _, _], .vw _ _]) hS rfl
      refine hK _ _ ?_; clear hK K
      refine rg_done (oks_drop hS 1 rfl) (by kernel_rfl) ?_
      refine then_n (hK6 _ _ ?_); clear hK6 K6
      refine wp_seq_k ?_; intro K13 hK13
      refine wlit ?_
      refine wl_v (x_move (tmS rfl rfl)) ?_
      refine wl_v (x_sliceLH Try.underlying22 ts_5 (tmS rfl rfl) (ev_cN 8) (ev_cN 24) (by omega)) ?_
      replace hS := hS.cutb 2 8 16 rfl (by omega : l.length ≤ c)
      refine wl_e rfl ?_; intro K hK
      refine ow_call Try.func18 rfl rfl (evs_cons (tmS rfl rfl) <| evs_nil) (rad_of16_c _ _ _ _ (viewV hS.ok 0 rfl) (by rw [List.length_take, List.length_drop]; omega) (by omega) ((hb.drop _).take 16)) ?_
      rintro e w ⟨rfl, hk⟩
      refine ⟨_, rfl, ?_⟩
      replace hS := hS.kept hk
      clear hk
      refine hK _ _ ?_; clear hK K
      refine wl_v (x_move (tmT rfl rfl)) ?_
      refine wl_v (x_ext (tmT rfl rfl) rfl) ?_
      refine wl_v (x_ext (tmT rfl rfl) rfl) ?_
      refine wl_v (x_fa 5 Try.underlying98 rfl rfl ts_26 (tmP rfl rfl)) ?_
      refine wl_e rfl ?_; intro K hK
      refine ow_storeA hS 1 rfl ts_26 (tmP rfl rfl) (tmA rfl rfl) rfl rfl rfl ?_
      clear hS; intro w hS
      try replace hS := St.nm (M' := [.vw _ _, .blk _ _ [_, _, _, _, _, _, _, _, _, _, _], .blk _ _ [_, _, _, _, _, _, _, _, _, _, _], .vw _ _]) hS rfl
      refine hK _ _ ?_; clear hK K
      refine wl_nil ?_
      refine then_n (hK13 _ _ ?_); clear hK13 K13
      refine wp_seq_k ?_; intro K14 hK14
      refine wlit ?_
      refine wl_v (x_move (tmS rfl rfl)) ?_
      refine wl_v (x_sliceLH Try.underlying22 ts_5 (tmS rfl rfl) (ev_cN 24) (ev_cN 40) (by omega)) ?_
      replace hS := hS.cutb 3 24 16 rfl (by omega : l.length ≤ c)
      refine wl_e rfl ?_; intro K hK
      refine ow_call Try.func18 rfl rfl (evs_cons (tmS rfl rfl) <| evs_nil) (rad_of16_c _ _ _ _ (viewV hS.ok 0 rfl) (by rw [List.length_take, List.length_drop]; omega) (by omega) ((hb.drop _).take 16)) ?_
      rintro e w ⟨rfl, hk⟩
      refine ⟨_, rfl, ?_⟩
      replace hS := hS.kept hk
      clear hk
      refine hK _ _ ?_; clear hK K
      refine wl_v (x_move (tmT rfl rfl)) ?_
      refine wl_v (x_ext (tmT rfl rfl) rfl) ?_
      refine wl_v (x_ext (tmT rfl rfl) rfl) ?_
      refine wl_v (x_fa 8 Try.underlying98 rfl rfl ts_26 (tmP rfl rfl)) ?_
      refine wl_e rfl ?_; intro K hK
      refine ow_storeA hS 2 rfl ts_26 (tmP rfl rfl) (tmA rfl rfl) rfl rfl rfl ?_
      clear hS; intro w hS
      try replace hS := St.nm (M' := [.vw _ _, .vw _ _, .blk _ _ [_, _, _, _, _, _, _, _, _, _, _], .blk _ _ [_, _, _, _, _, _, _, _, _, _, _], .vw _ _]) hS rfl
      refine hK _ _ ?_; clear hK K
      refine wl_nil ?_
      refine then_n (hK14 _ _ ?_); clear hK14 K14
      refine wp_seq_k ?_; intro K15 hK15
      refine wp_seq_k ?_; intro K16 hK16
      refine wlit ?_
      refine wl_v (x_fa 2 Try.underlying98 rfl rfl ts_3 (tmP rfl rfl)) ?_
      refine wl_v (x_load Try.underlying3 rfl (tmP rfl rfl) (cellB hS.ok 2 rfl rfl)) ?_
      refine wl_v (x_move (tmS rfl rfl)) ?_
      refine wl_v (x_len Try.underlying22 (tmS rfl rfl)) ?_
      refine wl_v (x_subN (tmI rfl rfl) (ev_cN 40) (fit_i64 (by omega)) (by omega)) ?_
      refine wl_v (x_gtr (tmI rfl rfl) (tmI rfl rfl)) ?_
      refine wl_nil ?_
      refine then_n (hK16 _ _ ?_); clear hK16 K16
      refine cnds (tm rfl) (fun hc2 => ?_) (fun hc2 => ?_)
      · exfalso
        simp only [nrm] at hc2
        omega
      try simp only [nrm] at hc2
      refine wp_seq_k ?_; intro K17 hK17
      refine wlit ?_
      refine wl_v (x_build (bc_skip (.int .u8 0) <| bc_skip (.int .u32 0) <| bc_skip (.int .i64 0) <| bc_skip (.int .u8 0) <| bc_skip (.int .u8 0) <| bc_skipL [.bool false, .int .u64 0, .int .u64 0] <| bc_skipL [.bool false, .int .u64 0, .int .u64 0] <| bc_nil) (by kernel_rfl)) ?_
      refine wl_e rfl ?_; intro K hK
      refine ow_storeA hS 3 rfl ts_98 (tmP rfl rfl) (tmA rfl rfl) rfl rfl rfl ?_
      clear hS; intro w hS
      try replace hS := St.nm (M' := [.vw _ _, .vw _ _, .blk _ _ [_, _, _, _, _, _, _, _, _, _, _], .blk _ _ [_, _, _, _, _, _, _, _, _, _, _], .vw _ _]) hS rfl
      refine hK _ _ ?_; clear hK K
      refine wl_v (x_assign ev_c) ?_
      refine wl_v (x_assign (ev_cN 20)) ?_
      refine wl_nil ?_
      refine then_n (hK17 _ _ ?_); clear hK17 K17
      refine wp_ret ?_
      refine then_r ?_
      refine ret3 rfl (.cell rfl rfl (load_rowB (cs := [_, _, _, _, _, _, _, _, _, _, _]) hS.ok 3 rfl Try.underlying98 rfl ts_98 rfl)) (.tmp rfl (show _ = Value.slice _ _ _ from rfl)) (.tmp rfl (show _ = Value.int _ _ from rfl)) ?_
      exact ⟨rfl, hS.kp⟩
  · intro K hK
    refine ow_alloc hS tz_98 rfl ?_
    clear hS; intro g5_30 w hg5_30 hS
    refine hK _ _ ?_; clear hK K
    refine rg_step 17 rfl (by kernel_rfl) (want_0) (oks_drop hS 1 rfl) ?_; intro K hK
    refine ow_call Try.func17 rfl rfl (evs_cons (tmS rfl rfl) <| evs_cons (ev_cN 2) <| evs_cons (ev_cN 2) <| evs_nil) (get_c n _ c l _ _ _ (viewV hS.ok 2 rfl) hl hc hn4 hb (by omega) (by omega)) ?_
    rintro e w ⟨rfl, hk⟩
    refine ⟨_, rfl, ?_⟩
    replace hS := hS.kept hk
    clear hk
    refine hK _ _ ?_; clear hK K
    refine rg_take 18 rfl rfl (by kernel_rfl) (by kernel_rfl) (by kernel_rfl) (want_0) (fun w hok => x_convN Try.underlying24 Try.underlying30 (tmI rfl rfl) (fit_u32 (by omega))) ?_
    refine rg_take 19 rfl rfl (by kernel_rfl) (by kernel_rfl) (by kernel_rfl) (want_0) (fun w hok => x_addN (tmI rfl rfl) (tmI rfl rfl) (fit_u32 (by omega))) ?_
    refine rg_step 21 rfl (by kernel_rfl) (want_0) (oks_drop hS 1 rfl) ?_; intro K hK
    refine ow_call Try.func17 rfl rfl (evs_cons (tmS rfl rfl) <| evs_cons (ev_cN 4) <| evs_cons (ev_cN 2) <| evs_nil) (get_c n _ c l _ _ _ (viewV hS.ok 2 rfl) hl hc hn4 hb (by omega) (by omega)) ?_
    rintro e w ⟨rfl, hk⟩
    refine ⟨_, rfl, ?_⟩
    replace hS := hS.kept hk
    clear hk
    refine hK _ _ ?_; clear hK K
    refine rg_take 22 rfl rfl (by kernel_rfl) (by kernel_rfl) (by kernel_rfl) (want_0) (fun w hok => x_convN Try.underlying24 Try.underlying3 (tmI rfl (congrArg (fun q : Nat => Value.int .u64 (q : Int)) hle)) (fit_i64 (by omega))) ?_
    refine rg_take 29 rfl rfl (by kernel_rfl) (by kernel_rfl) (by kernel_rfl) (want_0) (fun w hok => x_build (bc_take (tmI rfl rfl) <| bc_take (tmI rfl rfl) <| bc_take (tmI rfl rfl) <| bc_take (tmI rfl rfl) <| bc_take (tmI rfl rfl) <| bc_skipL [.bool false, .int .u64 0, .int .u64 0] <| bc_skipL [.bool false, .int .u64 0, .int .u64 0] <| bc_nil) (by kernel_rfl)) ?_
    refine rg_step 31 rfl (by kernel_rfl) (want_0) (oks_drop hS 1 rfl) ?_; intro K hK
    refine ow_storeA hS 0 rfl ts_98 (tmP rfl rfl) (tmA rfl rfl) rfl rfl rfl ?_
    clear hS; intro w hS
    try replace hS := St.nm (M' := [.blk _ _ [_, _, _, _, _, _, _, _, _, _, _], .blk _ _ [_, _, _, _, _, _, _, _, _, _, _], .vw _ _]) hS rfl
    refine hK _ _ ?_; clear hK K
    refine rg_done (oks_drop hS 1 rfl) (by kernel_rfl) ?_
    refine then_n (hK6 _ _ ?_); clear hK6 K6
    refine wp_seq_k ?_; intro K19 hK19
    refine wlit ?_
    refine wl_v (x_move (tmS rfl rfl)) ?_
    refine wl_v (x_sliceLH Try.underlying22 ts_5 (tmS rfl rfl) (ev_cN 8) (ev_cN 24) (by omega)) ?_
    replace hS := hS.cutb 2 8 16 rfl (by omega : l.length ≤ c)
    refine wl_e rfl ?_; intro K hK
    refine ow_call Try.func18 rfl rfl (evs_cons (tmS rfl rfl) <| evs_nil) (rad_of16_c _ _ _ _ (viewV hS.ok 0 rfl) (by rw [List.length_take, List.length_drop]; omega) (by omega) ((hb.drop _).take 16)) ?_
    rintro e w ⟨rfl, hk⟩
    refine ⟨_, rfl, ?_⟩
    replace hS := hS.kept hk
    clear hk
    refine hK _ _ ?_; clear hK K
    refine wl_v (x_move (tmT rfl rfl)) ?_
    refine wl_v (x_ext (tmT rfl rfl) rfl) ?_
    refine wl_v (x_ext (tmT rfl rfl) rfl) ?_
    refine wl_v (x_fa 5 Try.underlying98 rfl rfl ts_26 (tmP rfl rfl)) ?_
    refine wl_e rfl ?_; intro K hK
    refine ow_storeA hS 1 rfl ts_26 (tmP rfl rfl) (tmA rfl rfl) rfl rfl rfl ?_
    clear hS; intro w hS
    try replace hS := St.nm (M' := [.vw _ _, .blk _ _ [_, _, _, _, _, _, _, _, _, _, _], .blk _ _ [_, _, _, _, _, _, _, _, _, _, _], .vw _ _]) hS rfl
    refine hK _ _ ?_; clear hK K
    refine wl_nil ?_
    refine then_n (hK19 _ _ ?_); clear hK19 K19
    refine wp_seq_k ?_; intro K20 hK20
    refine wlit ?_
    refine wl_v (x_move (tmS rfl rfl)) ?_
    refine wl_v (x_sliceLH Try.underlying22 ts_5 (tmS rfl rfl) (ev_cN 24) (ev_cN 40) (by omega)) ?_
    replace hS := hS.cutb 3 24 16 rfl (by omega : l.length ≤ c)
    refine wl_e rfl ?_; intro K hK
    refine ow_call Try.func18 rfl rfl (evs_cons (tmS rfl rfl) <| evs_nil) (rad_of16_c _ _ _ _ (viewV hS.ok 0 rfl) (by rw [List.length_take, List.length_drop]; omega) (by omega) ((hb.drop _).take 16)) ?_
    rintro e w ⟨rfl, hk⟩
    refine ⟨_, rfl, ?_⟩
    replace hS := hS.kept hk
    clear hk
    refine hK _ _ ?_; clear hK K
    refine wl_v (x_move (tmT rfl rfl)) ?_
    refine wl_v (x_ext (tmT rfl rfl) rfl) ?_
    refine wl_v (x_ext (tmT rfl rfl) rfl) ?_
    refine wl_v (x_fa 8 Try.underlying98 rfl rfl ts_26 (tmP rfl rfl)) ?_
    refine wl_e rfl ?_; intro K hK
    refine ow_storeA hS 2 rfl ts_26 (tmP rfl rfl) (tmA rfl rfl) rfl rfl rfl ?_
    clear hS; intro w hS
    try replace hS := St.nm (M' := [.vw _ _, .vw _ _, .blk _ _ [_, _, _, _, _, _, _, _, _, _, _], .blk _ _ [_, _, _, _, _, _, _, _, _, _, _], .vw _ _]) hS rfl
    refine hK _ _ ?_; clear hK K
    refine wl_nil ?_
    refine then_n (hK20 _ _ ?_); clear hK20 K20
    refine wp_seq_k ?_; intro K21 hK21
    refine wp_seq_k ?_; intro K22 hK22
    refine wlit ?_
    refine wl_v (x_fa 2 Try.underlying98 rfl rfl ts_3 (tmP rfl rfl)) ?_
    refine wl_v (x_load Try.underlying3 rfl (tmP rfl rfl) (cellB hS.ok 2 rfl rfl)) ?_
    refine wl_v (x_move (tmS rfl rfl)) ?_
    refine wl_v (x_len Try.underlying22 (tmS rfl rfl)) ?_
    refine wl_v (x_subN (tmI rfl rfl) (ev_cN 40) (fit_i64 (by omega)) (by omega)) ?_
    refine wl_v (x_gtr (tmI rfl rfl) (tmI rfl rfl)) ?_
    refine wl_nil ?_
    refine then_n (hK22 _ _ ?_); clear hK22 K22
    refine cnds (tm rfl) (fun hc2 => ?_) (fun hc2 => ?_)
    · exfalso
      simp only [nrm] at hc2
      omega
    try simp only [nrm] at hc2
    refine wp_seq_k ?_; intro K23 hK23
    refine wlit ?_
    refine wl_v (x_build (bc_skip (.int .u8 0) <| bc_skip (.int .u32 0) <| bc_skip (.int .i64 0) <| bc_skip (.int .u8 0) <| bc_skip (.int .u8 0) <| bc_skipL [.bool false, .int .u64 0, .int .u64 0] <| bc_skipL [.bool false, .int .u64 0, .int .u64 0] <| bc_nil) (by kernel_rfl)) ?_
    refine wl_e rfl ?_; intro K hK
    refine ow_storeA hS 3 rfl ts_98 (tmP rfl rfl) (tmA rfl rfl) rfl rfl rfl ?_
    clear hS; intro w hS
    try replace hS := St.nm (M' := [.vw _ _, .vw _ _, .blk _ _ [_, _, _, _, _, _, _, _, _, _, _], .blk _ _ [_, _, _, _, _, _, _, _, _, _, _], .vw _ _]) hS rfl
    refine hK _ _ ?_; clear hK K
    refine wl_v (x_assign ev_c) ?_
    refine wl_v (x_assign (ev_cN 20)) ?_
    refine wl_nil ?_
    refine then_n (hK23 _ _ ?_); clear hK23 K23
    refine wp_ret ?_
    refine then_r ?_
    refine ret3 rfl (.cell rfl rfl (load_rowB (cs := [_, _, _, _, _, _, _, _, _, _, _]) hS.ok 3 rfl Try.underlying98 rfl ts_98 rfl)) (.tmp rfl (show _ = Value.slice _ _ _ from rfl)) (.tmp rfl (show _ = Value.int _ _ from rfl)) ?_
    exact ⟨rfl, hS.kp⟩

end Go.Proofs.Ytcobjneobdihkaa
/- sum: Of, Right and the reference's Of, by contract. Conditions: none but bounds. -/
namespace Go.Proofs.Ytcobjneobdihkaa
open Go.RowKit

def foldN (n : Nat) : Nat := if n = 0 then 0 else (n - 1) % 65535 + 1
theorem foldN_step (m : Nat) (h : 65535 < m) : foldN (m % 65536 + m / 65536) = foldN m := by
  unfold foldN; rw [if_neg (by omega), if_neg (by omega)]; omega
theorem foldN_small (m : Nat) (h : m ≤ 65535) : foldN m = m := by unfold foldN; split <;> omega
theorem foldN_bd (m : Nat) : foldN m ≤ 65535 := by unfold foldN; split <;> omega
theorem foldN_add (x b : Nat) (hb : b ≤ 65535) : (if 65535 < foldN x + b then foldN x + b - 65535 else foldN x + b) = foldN (x + b) := by
  unfold foldN; split <;> split <;> split <;> omega
theorem xor_ones (n x : Nat) (h : x < 2 ^ n) : (2 ^ n - 1) ^^^ x = 2 ^ n - 1 - x := by
  have h1 : (BitVec.allOnes n ^^^ BitVec.ofNat n x).toNat = (2 ^ n - 1) ^^^ x := by
    rw [BitVec.toNat_xor, BitVec.toNat_allOnes, BitVec.toNat_ofNat, Nat.mod_eq_of_lt h]
  rw [← h1, BitVec.allOnes_xor, BitVec.toNat_not, BitVec.toNat_ofNat, Nat.mod_eq_of_lt h]
theorem x_not16 {P : Program} {a : Act} {w : World} {x : Operand} {d : Option Tmp} {t ty : TypeId} {pos : String} {aft : Array Edge} {g : Option (Nat × Bool)} {m : Nat} (hx : a.eval x = .int .u16 (m : Int)) (hm : m ≤ 65535) : (execOp a.eval ⟨d, .unOp .xor t x, ty, pos, aft, g⟩).run P w = .ok (.value (.int .u16 ((65535 - m : Nat) : Int))) w := by
  have e : (if IntKind.u16.signed = true then (-1 : Int) else IntKind.u16.max) = ((65535 : Nat) : Int) := by decide
  unfold execOp
  simp only [hx, Op.unary, Sem.run_bind, Sem.run_pure, Result.andThen_ok]
  rw [e]
  simp only [Op.intBits, BitVec.toNat_xor, ofInt_nat (fit_u16 (by omega) : fitsN .u16 65535), ofInt_nat (fit_u16 hm)]
  rw [show (65535 ^^^ m : Nat) = 65535 - m from xor_ones 16 m (by omega)]
  rw [show IntKind.u16.wrap ((65535 - m : Nat) : Int) = ((65535 - m : Nat) : Int) from fit_u16 (by omega)]
  rfl

theorem St.vadd {F : List Nat} {w0 w : World} {M : List Ent} (h : St F w0 M w) (hro : M.all (·.ro) = true) {A : Option Addr} {xs : List Value} (hv : View w w.heap.size A xs) : St F w0 (.vw A xs :: M) w :=
  h.addv hv fun e' he' => .inl (by rw [List.all_eq_true.1 hro e' he']; rfl)
/-- The words of l up to place k, added up. -/
def psum (l : List Nat) : Nat → Nat
  | 0 => 0
  | k + 1 => psum l k + (if k % 2 = 0 then nth l k * 2 ^ 8 else nth l k)
theorem psum_bd {l : List Nat} (h : Bytes l) (k : Nat) : psum l k ≤ 65280 * k := by
  induction k with
  | zero => simp [psum]
  | succ k ih =>
    have := nth_lt h k
    simp only [psum]
    split <;> omega
def rsum (rows : List (Option Addr × List Nat × Nat)) : Nat → Nat
  | 0 => 0
  | k + 1 => rsum rows k + psum (rows.getD k default).2.1 (rows.getD k default).2.1.length
def BytesRows (rows : List (Option Addr × List Nat × Nat)) : Prop := ∀ k, k < rows.length → Bytes (rows.getD k default).2.1
theorem brows_nil : BytesRows [] := fun k hk => by simp at hk
theorem brows_cons {A : Option Addr} {l : List Nat} {c : Nat} {rows : List (Option Addr × List Nat × Nat)} (h : Bytes l) (hs : BytesRows rows) : BytesRows ((A, l, c) :: rows) := fun k hk => by
  cases k with
  | zero => exact h
  | succ k => exact hs k (by simpa using hk)
theorem rsum_bd {rows : List (Option Addr × List Nat × Nat)} (h : BytesRows rows) (k : Nat) (hk : k ≤ rows.length) : rsum rows k ≤ 65280 * (joined (rows.take k)).length := by
  induction k with
  | zero => simp [rsum]
  | succ k ih =>
    have h1 := psum_bd (h k (by omega)) (rows.getD k default).2.1.length
    rw [joined_snoc rows k (by omega), List.length_append]
    simp only [rsum]
    have := ih (by omega)
    omega

set_option maxRecDepth 100000 in
set_option maxHeartbeats 4000000 in
theorem fold_c (n : Nat) (w0 : World) (hn : n ≤ 1000000000000) :
    Calls Try.prog 70 #[.int .u64 (n : Int)] w0 fun e w' => e = .returned (.int .u16 ((foldN n : Nat) : Int)) ∧ Kp [] w0 w' := by
  have hS := St.sv w0
  refine ent (n := 12) Try.func70 rfl rfl ?_
  refine wp_seq_k ?_; intro K1 hK1
  refine wlit ?_
  refine wl_v (x_assign (ev_cN 0)) ?_
  refine wl_nil ?_
  refine then_n (hK1 _ _ ?_); clear hK1 K1
  refine wp_seq_k ?_; intro K2 hK2
  refine wp_block ?_
  refine lp [0, 3, 4, 5, 6, 7, 8, 9] (fun mz g w => ∃ (m : Nat), mz = 2 * m ∧ g 0 = .int .u64 (m : Int) ∧ St [] w0 [] w ∧ (m ≤ 1000000000000) ∧ (foldN m = foldN n)) ?_ ?_
  · exact ⟨_, n, rfl, (by first | rfl | go_num | exact congrArg (Value.int _) (by first | omega | (simp; done) | (simp; omega))), hS, (by omega), (by first | rfl | (rw [← hf]; exact foldN_step m (by omega)))⟩
  · clear hS; intro mz g w hI
    obtain ⟨m, rfl, hs0, hS, hm, hf⟩ := hI
    refine fr_know (d := 0) hs0 ?_; clear hs0
    refine wp_seq_k ?_; intro K3 hK3
    refine wp_seq_k ?_; intro K4 hK4
    refine wlit ?_
    refine wl_v (x_move (tmI rfl rfl)) ?_
    refine wl_v (x_gtr (tmI rfl rfl) (ev_cN 65535)) ?_
    refine wl_nil ?_
    refine then_n (hK4 _ _ ?_); clear hK4 K4
    refine cnd (tm rfl) (fun hc0 => ?_) (fun hc0 => ?_)
    · skip
      try simp only [nrm] at hc0
      have hand : m &&& 65535 = m % 65536 := Nat.and_two_pow_sub_one_eq_mod _ 16
      have hle : m &&& 65535 ≤ 65535 := Nat.and_le_right
      refine wp_skip ?_
      refine then_n (hK3 _ _ ?_); clear hK3 K3
      refine wp_block ?_
      refine wlit ?_
      refine wl_v (x_move (tmI rfl rfl)) ?_
      refine wl_v (x_andN (tmI rfl rfl) (ev_cN 65535) (fit_u64 (by omega)) (fit_u64 (by omega))) ?_
      refine wl_v (x_move (tmI rfl rfl)) ?_
      refine wl_v (x_shrN (tmI rfl rfl) (ev_cN 16) (fit_u64 (by omega))) ?_
      refine wl_v (x_addN (tmI rfl rfl) (tmI rfl rfl) (fit_u64 (by omega))) ?_
      refine wl_v (x_assign (tmI rfl rfl)) ?_
      refine wl_nil ?_
      refine inb_n ?_
      exact then_n ⟨_, _, rfl, (by show _ < _; omega), (by repeat (first | exact agree_self | exact agree_refl | refine agree_upd rfl ?_ | refine agree_mix rfl ?_)), m % 65536 + m / 65536, rfl, (by first | rfl | (rw [hand]; done) | (rw [hand]; rfl) | (rw [hand]; go_num)), hS, (by omega), (by first | rfl | (rw [← hf]; exact foldN_step m (by omega)))⟩
    try simp only [nrm] at hc0
    refine wp_exit ?_
    refine then_x ?_; clear hK3 K3
    refine then_x ?_
    refine inb_x ?_
    refine then_n (hK2 _ _ ?_); clear hK2 K2
    refine wp_seq_k ?_; intro K5 hK5
    refine wlit ?_
    refine wl_v (x_move (tmI rfl rfl)) ?_
    refine wl_v (x_convN Try.underlying24 Try.underlying27 (tmI rfl rfl) (fit_u16 (by omega))) ?_
    refine wl_v (x_assign (tmI rfl rfl)) ?_
    refine wl_nil ?_
    refine then_n (hK5 _ _ ?_); clear hK5 K5
    refine wp_ret ?_
    refine ret1 rfl (.tmp rfl (show _ = Value.int _ _ from rfl)) ?_
    rw [← hf, foldN_small m (by omega)]
    exact ⟨rfl, hS.kp⟩

set_option maxRecDepth 100000 in
set_option maxHeartbeats 4000000 in
theorem sum_of_c (n : Nat) (A : Option Addr) (c : Nat) (rows : List (Option Addr × List Nat × Nat)) (w0 : World) (hv : View w0 w0.heap.size A (rows.map rowV)) (hr : SeenRows w0 rows) (hb : BytesRows rows) (hl : rows.length = n) (hn4 : n ≤ 1000000) (hj4 : (joined rows).length ≤ 1000000) :
    Calls Try.prog 52 #[.slice A n c] w0 fun e w' => e = .returned (.int .u16 ((65535 - foldN (rsum rows n) : Nat) : Int)) ∧ Kp [] w0 w' := by
  have hS := (St.sv w0).vcons rfl hv
  have hbd : ∀ k, k ≤ n → rsum rows k ≤ 65280000000 := fun k hk => by
    have := rsum_bd hb k (by omega)
    have := joined_le rows k
    omega
  have hfb := foldN_bd (rsum rows n)
  refine ent (n := 38) Try.func52 rfl rfl ?_
  refine wp_seq_k ?_; intro K1 hK1
  refine wlit ?_
  refine wl_v (x_assign (ev_cN 0)) ?_
  refine wl_nil ?_
  refine then_n (hK1 _ _ ?_); clear hK1 K1
  refine wp_seq_k ?_; intro K2 hK2
  refine wlit ?_
  refine wl_v (x_assign (ev_cN 0)) ?_
  refine wl_nil ?_
  refine then_n (hK2 _ _ ?_); clear hK2 K2
  refine wp_seq_k ?_; intro K3 hK3
  refine wp_seq_k ?_; intro K4 hK4
  refine wlit ?_
  refine wl_v (x_move (tmS rfl rfl)) ?_
  refine wl_v (x_len Try.underlying126 (tmS rfl rfl)) ?_
  refine wl_v (x_move (ev_cN 0)) ?_
  refine wl_nil ?_
  refine then_n (hK4 _ _ ?_); clear hK4 K4
  refine wp_block ?_
  refine lp [3, 5, 6, 7, 10, 11, 12, 13, 14, 15, 16, 17, 18, 19, 20, 21, 22, 23, 24, 25, 26, 27, 28, 29, 30, 31, 32, 33, 34] (fun mz g w => ∃ (k : Nat), mz = n - k ∧ g 10 = .int .i64 (k : Int) ∧ g 3 = .int .u64 ((rsum rows k : Nat) : Int) ∧ St [] w0 [.vw A (rows.map rowV)] w ∧ (k ≤ n)) ?_ ?_
  · exact ⟨_, 0, rfl, (by first | rfl | go_num | exact congrArg (Value.int _) (by first | omega | (simp; done) | (simp; omega))), (by first | rfl | go_num | exact congrArg (Value.int _) (by first | omega | (simp; done) | (simp; omega))), hS, (by omega)⟩
  · clear hS; intro mz g w hI
    obtain ⟨k, rfl, hs10, hs3, hS, hk⟩ := hI
    refine fr_know (d := 10) hs10 ?_; clear hs10
    refine fr_know (d := 3) hs3 ?_; clear hs3
    refine wp_seq_k ?_; intro K5 hK5
    refine wlit ?_
    refine wl_v (x_lss (tmI rfl rfl) (tmI rfl rfl)) ?_
    refine wl_nil ?_
    refine then_n (hK5 _ _ ?_); clear hK5 K5
    refine wp_seq_k ?_; intro K6 hK6
    refine cnd (tm rfl) (fun hc0 => ?_) (fun hc0 => ?_)
    · skip
      try simp only [nrm] at hc0
      obtain ⟨b4, o4, rfl⟩ := view_some hv (by rw [List.length_map]; omega)
      have hvk := hr.kept hS.kp k (by omega)
      have hbk := hb k (by omega)
      have hxk : rsum rows (k + 1) = rsum rows k + psum (rows.getD k default).2.1 (rows.getD k default).2.1.length := rfl
      have hbk1 := hbd (k + 1) (by omega)
      have hrow : (rows.map rowV)[0 + k]? = some (.slice (rows.getD k default).1 (rows.getD k default).2.1.length (rows.getD k default).2.2) := by
        rw [Nat.zero_add, List.getElem?_map, List.getD_eq_getElem?_getD, List.getElem?_eq_getElem (by omega)]; rfl
      have hjk := joined_snoc rows k (by omega)
      have hjj := joined_le rows (k + 1)
      rw [hjk, List.length_append] at hjj
      clear hjk
      generalize (rows.getD k default).1 = ra at *
      generalize (rows.getD k default).2.1 = rl at *
      generalize (rows.getD k default).2.2 = rc at *
      refine wp_skip ?_
      refine then_n (hK6 _ _ ?_); clear hK6 K6
      refine wp_seq_k ?_; intro K7 hK7
      refine wp_block ?_
      refine wp_seq_k ?_; intro K8 hK8
      refine wlit ?_
      refine wl_v (x_ixs1 Try.underlying126 ts_22 (tmS rfl rfl) (tmI rfl rfl) (by omega)) ?_
      refine wl_v (x_load Try.underlying22 rfl (tmP rfl rfl) (cellV hS.ok 0 rfl (by rw [← hrow, Nat.zero_add]))) ?_
      refine wl_v (x_assign (tmS rfl rfl)) ?_
      refine wl_nil ?_
      refine then_n (hK8 _ _ ?_); clear hK8 K8
      refine wp_seq_k ?_; intro K9 hK9
      refine wlit ?_
      refine wl_v (x_move (tmS rfl rfl)) ?_
      refine wl_v (x_len Try.underlying22 (tmS rfl rfl)) ?_
      refine wl_v (x_move (ev_cN 0)) ?_
      refine wl_nil ?_
      refine then_n (hK9 _ _ ?_); clear hK9 K9
      refine wp_block ?_
      replace hS := hS.vadd rfl (hvk : View _ _ ra (rl.map u8v))
      refine lp [3, 6, 7, 16, 17, 18, 19, 20, 21, 22, 23, 24, 25, 26, 27, 28, 29, 30, 31, 32, 33] (fun mz g w => ∃ (j : Nat), mz = rl.length - j ∧ g 16 = .int .i64 (j : Int) ∧ g 3 = .int .u64 ((rsum rows k + psum rl j : Nat) : Int) ∧ St [] w0 [.vw ra (rl.map u8v), .vw (some ⟨b4, o4, none⟩) (rows.map rowV)] w ∧ (j ≤ rl.length)) ?_ ?_
      · exact ⟨_, 0, rfl, (by first | rfl | go_num | exact congrArg (Value.int _) (by first | omega | (simp; done) | (simp; omega))), (by first | rfl | go_num | exact congrArg (Value.int _) (by first | omega | (simp; done) | (simp; omega))), hS, (by omega)⟩
      · clear hS; intro mz g w hI
        obtain ⟨j, rfl, hs16, hs3, hS, hj⟩ := hI
        refine fr_know (d := 16) hs16 ?_; clear hs16
        refine fr_know (d := 3) hs3 ?_; clear hs3
        refine wp_seq_k ?_; intro K10 hK10
        refine wlit ?_
        refine wl_v (x_lss (tmI rfl rfl) (tmI rfl rfl)) ?_
        refine wl_nil ?_
        refine then_n (hK10 _ _ ?_); clear hK10 K10
        refine wp_seq_k ?_; intro K11 hK11
        refine cnd (tm rfl) (fun hc1 => ?_) (fun hc1 => ?_)
        · skip
          try simp only [nrm] at hc1
          obtain ⟨b5, o5, e5⟩ := view_some (viewV hS.ok 0 rfl) (by rw [List.length_map]; omega)
          have hpj := psum_bd hbk j
          have hbj : rl.getD j 0 < 256 := nth_lt hbk j
          have hnj : nth rl j = rl.getD j 0 := rfl
          have hpj2 : psum rl (j + 1) ≤ 65280 * (j + 1) := psum_bd hbk (j + 1)
          subst e5
          refine wp_skip ?_
          refine then_n (hK11 _ _ ?_); clear hK11 K11
          refine wp_seq_k ?_; intro K12 hK12
          refine wp_block ?_
          refine wp_seq_k ?_; intro K13 hK13
          refine wlit ?_
          refine wl_v (x_move (tmI rfl rfl)) ?_
          refine wl_v (x_ixs1 Try.underlying22 ts_5 (tmS rfl rfl) (tmI rfl rfl) (by omega)) ?_
          refine wl_v (x_load Try.underlying5 rfl (tmP rfl rfl) (cellV hS.ok 0 rfl (getm (by omega)))) ?_
          refine wl_v (x_assign (tmI rfl rfl)) ?_
          refine wl_v (x_assign (tmI rfl rfl)) ?_
          refine wl_nil ?_
          refine then_n (hK13 _ _ ?_); clear hK13 K13
          refine wp_seq_k ?_; intro K14 hK14
          refine wlit ?_
          refine wl_v (x_move (tmI rfl rfl)) ?_
          refine wl_v (x_remN (tmI rfl rfl) (ev_cN 2) (by omega)) ?_
          refine wl_v (x_eql (tmI rfl rfl) (ev_cN 0)) ?_
          refine wl_nil ?_
          refine then_n (hK14 _ _ ?_); clear hK14 K14
          refine cnd (tm rfl) (fun hc2 => ?_) (fun hc2 => ?_)
          · skip
            try simp only [nrm] at hc2
            have hxj : rsum rows k + psum rl (j + 1) = rsum rows k + psum rl j + rl.getD j 0 * 2 ^ 8 := by simp only [psum]; rw [if_pos (by omega), hnj]; omega
            refine wlit ?_
            refine wl_v (x_move (tmI rfl rfl)) ?_
            refine wl_v (x_move (tmI rfl rfl)) ?_
            refine wl_v (x_convN Try.underlying5 Try.underlying24 (tmI rfl rfl) (fit_u64 (by omega))) ?_
            refine wl_v (x_shlN (tmI rfl rfl) (ev_cN 8) (by decide) (fit_u64 (by omega))) ?_
            refine wl_v (x_addN (tmI rfl rfl) (tmI rfl rfl) (fit_u64 (by omega))) ?_
            refine wl_v (x_assign (tmI rfl rfl)) ?_
            refine wl_nil ?_
            refine inb_n ?_
            refine then_n (hK12 _ _ ?_); clear hK12 K12
            refine wlit ?_
            refine wl_v (x_addN (tmI rfl rfl) (ev_cN 1) (fit_i64 (by omega))) ?_
            refine wl_v (x_move (tmI rfl rfl)) ?_
            refine wl_nil ?_
            exact then_n ⟨_, _, rfl, (by show _ < _; omega), (by repeat (first | exact agree_self | exact agree_refl | refine agree_upd rfl ?_ | refine agree_mix rfl ?_)), j + 1, rfl, (by first | rfl | go_num | exact congrArg (Value.int _) (by first | omega | (simp; done) | (simp; omega))), (by first | rfl | (rw [hxj]; done) | (rw [hxj]; rfl) | (rw [hxj]; go_num)), hS, (by omega)⟩
          try simp only [nrm] at hc2
          have hxj : rsum rows k + psum rl (j + 1) = rsum rows k + psum rl j + rl.getD j 0 := by simp only [psum]; rw [if_neg (by omega), hnj]; omega
          refine wlit ?_
          refine wl_v (x_move (tmI rfl rfl)) ?_
          refine wl_v (x_move (tmI rfl rfl)) ?_
          refine wl_v (x_convN Try.underlying5 Try.underlying24 (tmI rfl rfl) (fit_u64 (by omega))) ?_
          refine wl_v (x_addN (tmI rfl rfl) (tmI rfl rfl) (fit_u64 (by omega))) ?_
          refine wl_v (x_assign (tmI rfl rfl)) ?_
          refine wl_nil ?_
          refine inb_n ?_
          refine then_n (hK12 _ _ ?_); clear hK12 K12
          refine wlit ?_
          refine wl_v (x_addN (tmI rfl rfl) (ev_cN 1) (fit_i64 (by omega))) ?_
          refine wl_v (x_move (tmI rfl rfl)) ?_
          refine wl_nil ?_
          exact then_n ⟨_, _, rfl, (by show _ < _; omega), (by repeat (first | exact agree_self | exact agree_refl | refine agree_upd rfl ?_ | refine agree_mix rfl ?_)), j + 1, rfl, (by first | rfl | go_num | exact congrArg (Value.int _) (by first | omega | (simp; done) | (simp; omega))), (by first | rfl | (rw [hxj]; done) | (rw [hxj]; rfl) | (rw [hxj]; go_num)), hS, (by omega)⟩
        try simp only [nrm] at hc1
        obtain rfl : rl.length = j := by omega
        refine wp_exit ?_
        refine then_x ?_; clear hK11 K11
        refine then_x ?_
        refine inb_x ?_
        refine inb_n ?_
        refine then_n (hK7 _ _ ?_); clear hK7 K7
        refine wlit ?_
        refine wl_v (x_addN (tmI rfl rfl) (ev_cN 1) (fit_i64 (by omega))) ?_
        refine wl_v (x_move (tmI rfl rfl)) ?_
        refine wl_nil ?_
        exact then_n ⟨_, _, rfl, (by show _ < _; omega), (by repeat (first | exact agree_self | exact agree_refl | refine agree_upd rfl ?_ | refine agree_mix rfl ?_)), k + 1, rfl, (by first | rfl | go_num | exact congrArg (Value.int _) (by first | omega | (simp; done) | (simp; omega))), (by first | rfl | (rw [hxk]; done) | (rw [hxk]; rfl) | (rw [hxk]; go_num)), (hS.pick [1] rfl rfl), (by omega)⟩
    try simp only [nrm] at hc0
    refine wp_exit ?_
    refine then_x ?_; clear hK6 K6
    refine then_x ?_
    refine inb_x ?_
    refine then_n (hK3 _ _ ?_); clear hK3 K3
    refine wp_seq_k ?_; intro K15 hK15
    obtain rfl : k = n := by omega
    refine wlit ?_
    refine wl_v (x_move (tmI rfl rfl)) ?_
    refine wl_e rfl ?_; intro K hK
    refine ow_call Try.func70 rfl rfl (evs_cons (tmI rfl rfl) <| evs_nil) (fold_c _ _ (by have := hbd k (by omega); omega)) ?_
    rintro e w ⟨rfl, hk⟩
    refine ⟨_, rfl, ?_⟩
    replace hS := hS.kept hk
    clear hk
    refine hK _ _ ?_; clear hK K
    refine wl_v (x_not16 (tmI rfl rfl) hfb) ?_
    refine wl_v (x_assign (tmI rfl rfl)) ?_
    refine wl_nil ?_
    refine then_n (hK15 _ _ ?_); clear hK15 K15
    refine wp_ret ?_
    refine ret1 rfl (.tmp rfl (show _ = Value.int _ _ from rfl)) ?_
    exact ⟨rfl, hS.kp⟩

set_option maxRecDepth 100000 in
set_option maxHeartbeats 4000000 in
theorem plus_c (x y : Nat) (w0 : World) (hx : x ≤ 65535) (hy : y ≤ 65535) :
    Calls Try.prog 72 #[.int .u32 (x : Int), .int .u32 (y : Int)] w0 fun e w' => e = .returned (.int .u32 ((if 65535 < x + y then x + y - 65535 else x + y : Nat) : Int)) ∧ Kp [] w0 w' := by
  have hS := St.sv w0
  refine ent (n := 14) Try.func72 rfl rfl ?_
  refine wp_seq_k ?_; intro K1 hK1
  refine wlit ?_
  refine wl_v (x_assign (ev_cN 0)) ?_
  refine wl_nil ?_
  refine then_n (hK1 _ _ ?_); clear hK1 K1
  refine wp_seq_k ?_; intro K2 hK2
  refine wlit ?_
  refine wl_v (x_move (tmI rfl rfl)) ?_
  refine wl_v (x_move (tmI rfl rfl)) ?_
  refine wl_v (x_addN (tmI rfl rfl) (tmI rfl rfl) (fit_u32 (by omega))) ?_
  refine wl_v (x_assign (tmI rfl rfl)) ?_
  refine wl_nil ?_
  refine then_n (hK2 _ _ ?_); clear hK2 K2
  refine wp_seq_k ?_; intro K3 hK3
  refine wp_seq_k ?_; intro K4 hK4
  refine wlit ?_
  refine wl_v (x_move (tmI rfl rfl)) ?_
  refine wl_v (x_gtr (tmI rfl rfl) (ev_cN 65535)) ?_
  refine wl_nil ?_
  refine then_n (hK4 _ _ ?_); clear hK4 K4
  refine cnd (tm rfl) (fun hc0 => ?_) (fun hc0 => ?_)
  · skip
    try simp only [nrm] at hc0
    have hx1 : (if 65535 < x + y then x + y - 65535 else x + y) = x + y - 65535 := if_pos hc0
    refine wlit ?_
    refine wl_v (x_move (tmI rfl rfl)) ?_
    refine wl_v (x_subN (tmI rfl rfl) (ev_cN 65535) (fit_u32 (by omega)) (by omega)) ?_
    refine wl_v (x_assign (tmI rfl rfl)) ?_
    refine wl_nil ?_
    refine then_n (hK3 _ _ ?_); clear hK3 K3
    refine wp_seq_k ?_; intro K5 hK5
    refine wlit ?_
    refine wl_v (x_move (tmI rfl rfl)) ?_
    refine wl_v (x_assign (tmI rfl rfl)) ?_
    refine wl_nil ?_
    refine then_n (hK5 _ _ ?_); clear hK5 K5
    refine wp_ret ?_
    refine ret1 rfl (.tmp rfl (show _ = Value.int _ _ from rfl)) ?_
    rw [hx1]
    exact ⟨rfl, hS.kp⟩
  try simp only [nrm] at hc0
  have hx1 : (if 65535 < x + y then x + y - 65535 else x + y) = x + y := if_neg (by omega)
  refine wp_skip ?_
  refine then_n (hK3 _ _ ?_); clear hK3 K3
  refine wp_seq_k ?_; intro K6 hK6
  refine wlit ?_
  refine wl_v (x_move (tmI rfl rfl)) ?_
  refine wl_v (x_assign (tmI rfl rfl)) ?_
  refine wl_nil ?_
  refine then_n (hK6 _ _ ?_); clear hK6 K6
  refine wp_ret ?_
  refine ret1 rfl (.tmp rfl (show _ = Value.int _ _ from rfl)) ?_
  rw [hx1]
  exact ⟨rfl, hS.kp⟩

theorem psum_step2 (l : List Nat) (i : Nat) (he : i % 2 = 0) : psum l (i + 2) = psum l i + (nth l i * 256 + nth l (i + 1)) := by
  simp only [psum]; rw [if_pos he, if_neg (by omega)]; omega
theorem nth_out {l : List Nat} {i : Nat} (h : l.length ≤ i) : nth l i = 0 := by
  unfold nth; rw [List.getD_eq_getElem?_getD, List.getElem?_eq_none h]; rfl
theorem psum_out (l : List Nat) (k : Nat) : psum l (l.length + k) = psum l l.length := by
  induction k with
  | zero => rfl
  | succ k ih =>
    rw [← Nat.add_assoc]
    simp only [psum]
    rw [ih, nth_out (by omega)]
    split <;> omega
set_option maxRecDepth 100000 in
set_option maxHeartbeats 4000000 in
theorem rsum_of_c (n : Nat) (A : Option Addr) (c : Nat) (l : List Nat) (w0 : World) (hv : View w0 w0.heap.size A (l.map u8v)) (hl : l.length = n) (hb : Bytes l) (hn4 : n ≤ 1000000) :
    Calls Try.prog 56 #[.slice A n c] w0 fun e w' => e = .returned (.int .u16 ((65535 - foldN (psum l n) : Nat) : Int)) ∧ Kp [] w0 w' := by
  have hS := (St.sv w0).vcons rfl hv
  refine ent (n := 37) Try.func56 rfl rfl ?_
  refine wp_seq_k ?_; intro K1 hK1
  refine wlit ?_
  refine wl_v (x_assign (ev_cN 0)) ?_
  refine wl_nil ?_
  refine then_n (hK1 _ _ ?_); clear hK1 K1
  refine wp_seq_k ?_; intro K2 hK2
  refine wlit ?_
  refine wl_v (x_assign (ev_cN 0)) ?_
  refine wl_nil ?_
  refine then_n (hK2 _ _ ?_); clear hK2 K2
  refine wp_seq_k ?_; intro K3 hK3
  refine wp_seq_k ?_; intro K4 hK4
  refine wlit ?_
  refine wl_v (x_assign (ev_cN 0)) ?_
  refine wl_nil ?_
  refine then_n (hK4 _ _ ?_); clear hK4 K4
  refine wp_block ?_
  refine lp [3, 4, 5, 6, 7, 8, 9, 10, 11, 12, 13, 14, 15, 16, 17, 18, 19, 20, 21, 22, 23, 24, 25, 26, 27, 28, 29, 30, 31, 32, 33] (fun mz g w => ∃ (j : Nat), mz = n + 2 - 2 * j ∧ g 4 = .int .i64 ((2 * j : Nat) : Int) ∧ g 3 = .int .u32 ((foldN (psum l (2 * j)) : Nat) : Int) ∧ St [] w0 [.vw A (l.map u8v)] w ∧ (2 * j ≤ n + 1)) ?_ ?_
  · exact ⟨_, 0, rfl, (by first | rfl | go_num | exact congrArg (Value.int _) (by first | omega | (simp; done) | (simp; omega))), (by first | rfl | go_num | exact congrArg (Value.int _) (by first | omega | (simp; done) | (simp; omega))), hS, (by omega)⟩
  · clear hS; intro mz g w hI
    obtain ⟨j, rfl, hs4, hs3, hS, hj⟩ := hI
    refine fr_know (d := 4) hs4 ?_; clear hs4
    refine fr_know (d := 3) hs3 ?_; clear hs3
    refine wp_seq_k ?_; intro K5 hK5
    refine wp_seq_k ?_; intro K6 hK6
    refine wlit ?_
    refine wl_v (x_move (tmI rfl rfl)) ?_
    refine wl_v (x_move (tmS rfl rfl)) ?_
    refine wl_v (x_len Try.underlying22 (tmS rfl rfl)) ?_
    refine wl_v (x_lss (tmI rfl rfl) (tmI rfl rfl)) ?_
    refine wl_nil ?_
    refine then_n (hK6 _ _ ?_); clear hK6 K6
    refine cnd (tm rfl) (fun hc0 => ?_) (fun hc0 => ?_)
    · skip
      try simp only [nrm] at hc0
      obtain ⟨b4, o4, rfl⟩ := view_some hv (by rw [List.length_map]; omega)
      have h1 : l.getD (2 * j) 0 < 256 := nth_lt hb (2 * j)
      have h2 : l.getD (2 * j + 1) 0 < 256 := nth_lt hb (2 * j + 1)
      have hf := foldN_bd (psum l (2 * j))
      refine wp_skip ?_
      refine then_n (hK5 _ _ ?_); clear hK5 K5
      refine wp_seq_k ?_; intro K7 hK7
      refine wp_block ?_
      refine wp_seq_k ?_; intro K8 hK8
      refine wlit ?_
      refine wl_v (x_move (tmS rfl rfl)) ?_
      refine wl_v (x_move (tmI rfl rfl)) ?_
      refine wl_v (x_ixs1 Try.underlying22 ts_5 (tmS rfl rfl) (tmI rfl rfl) (by omega)) ?_
      refine wl_v (x_load Try.underlying5 rfl (tmP rfl rfl) (cellV hS.ok 0 rfl (getm (by omega)))) ?_
      refine wl_v (x_convN Try.underlying5 Try.underlying30 (tmI rfl rfl) (fit_u32 (by omega))) ?_
      refine wl_v (x_mulN (tmI rfl rfl) (ev_cN 256) (fit_u32 (by omega))) ?_
      refine wl_v (x_assign (tmI rfl rfl)) ?_
      refine wl_nil ?_
      refine then_n (hK8 _ _ ?_); clear hK8 K8
      refine wp_seq_k ?_; intro K9 hK9
      refine wp_seq_k ?_; intro K10 hK10
      refine wlit ?_
      refine wl_v (x_move (tmI rfl rfl)) ?_
      refine wl_v (x_addN (tmI rfl rfl) (ev_cN 1) (fit_i64 (by omega))) ?_
      refine wl_v (x_move (tmS rfl rfl)) ?_
      refine wl_v (x_len Try.underlying22 (tmS rfl rfl)) ?_
      refine wl_v (x_lss (tmI rfl rfl) (tmI rfl rfl)) ?_
      refine wl_nil ?_
      refine then_n (hK10 _ _ ?_); clear hK10 K10
      refine cnd (tm rfl) (fun hc1 => ?_) (fun hc1 => ?_)
      · skip
        try simp only [nrm] at hc1
        have hx : foldN (psum l (2 * (j + 1))) = if 65535 < foldN (psum l (2 * j)) + (l.getD (2 * j) 0 * 256 + l.getD (2 * j + 1) 0) then foldN (psum l (2 * j)) + (l.getD (2 * j) 0 * 256 + l.getD (2 * j + 1) 0) - 65535 else foldN (psum l (2 * j)) + (l.getD (2 * j) 0 * 256 + l.getD (2 * j + 1) 0) := by
          rw [foldN_add _ _ (by omega), show 2 * (j + 1) = 2 * j + 2 by omega, psum_step2 l _ (by omega)]; rfl
        refine wlit ?_
        refine wl_v (x_move (tmI rfl rfl)) ?_
        refine wl_v (x_move (tmS rfl rfl)) ?_
        refine wl_v (x_move (tmI rfl rfl)) ?_
        refine wl_v (x_addN (tmI rfl rfl) (ev_cN 1) (fit_i64 (by omega))) ?_
        refine wl_v (x_ixs1 Try.underlying22 ts_5 (tmS rfl rfl) (tmI rfl rfl) (by omega)) ?_
        refine wl_v (x_load Try.underlying5 rfl (tmP rfl rfl) (cellV hS.ok 0 rfl (getm (by omega)))) ?_
        refine wl_v (x_convN Try.underlying5 Try.underlying30 (tmI rfl rfl) (fit_u32 (by omega))) ?_
        refine wl_v (x_addN (tmI rfl rfl) (tmI rfl rfl) (fit_u32 (by omega))) ?_
        refine wl_v (x_assign (tmI rfl rfl)) ?_
        refine wl_nil ?_
        refine then_n (hK9 _ _ ?_); clear hK9 K9
        refine wlit ?_
        refine wl_v (x_move (tmI rfl rfl)) ?_
        refine wl_v (x_move (tmI rfl rfl)) ?_
        refine wl_e rfl ?_; intro K hK
        refine ow_call Try.func72 rfl rfl (evs_cons (tmI rfl rfl) <| evs_cons (tmI rfl rfl) <| evs_nil) (plus_c _ _ _ hf (by omega)) ?_
        rintro e w ⟨rfl, hk⟩
        refine ⟨_, rfl, ?_⟩
        replace hS := hS.kept hk
        clear hk
        refine hK _ _ ?_; clear hK K
        refine wl_v (x_assign (tmI rfl rfl)) ?_
        refine wl_nil ?_
        refine inb_n ?_
        refine then_n (hK7 _ _ ?_); clear hK7 K7
        refine wlit ?_
        refine wl_v (x_move (tmI rfl rfl)) ?_
        refine wl_v (x_addN (tmI rfl rfl) (ev_cN 2) (fit_i64 (by omega))) ?_
        refine wl_v (x_assign (tmI rfl rfl)) ?_
        refine wl_nil ?_
        exact then_n ⟨_, _, rfl, (by show _ < _; omega), (by repeat (first | exact agree_self | exact agree_refl | refine agree_upd rfl ?_ | refine agree_mix rfl ?_)), j + 1, rfl, (by first | rfl | go_num | exact congrArg (Value.int _) (by first | omega | (simp; done) | (simp; omega))), (by first | rfl | (rw [hx]; done) | (rw [hx]; rfl) | (rw [hx]; go_num)), hS, (by omega)⟩
      try simp only [nrm] at hc1
      have hx : foldN (psum l (2 * (j + 1))) = if 65535 < foldN (psum l (2 * j)) + l.getD (2 * j) 0 * 256 then foldN (psum l (2 * j)) + l.getD (2 * j) 0 * 256 - 65535 else foldN (psum l (2 * j)) + l.getD (2 * j) 0 * 256 := by
        rw [foldN_add _ _ (by omega), show 2 * (j + 1) = 2 * j + 2 by omega, psum_step2 l _ (by omega), nth_out (l := l) (i := 2 * j + 1) (by omega)]; rfl
      refine wp_skip ?_
      refine then_n (hK9 _ _ ?_); clear hK9 K9
      refine wlit ?_
      refine wl_v (x_move (tmI rfl rfl)) ?_
      refine wl_v (x_move (tmI rfl rfl)) ?_
      refine wl_e rfl ?_; intro K hK
      refine ow_call Try.func72 rfl rfl (evs_cons (tmI rfl rfl) <| evs_cons (tmI rfl rfl) <| evs_nil) (plus_c _ _ _ hf (by omega)) ?_
      rintro e w ⟨rfl, hk⟩
      refine ⟨_, rfl, ?_⟩
      replace hS := hS.kept hk
      clear hk
      refine hK _ _ ?_; clear hK K
      refine wl_v (x_assign (tmI rfl rfl)) ?_
      refine wl_nil ?_
      refine inb_n ?_
      refine then_n (hK7 _ _ ?_); clear hK7 K7
      refine wlit ?_
      refine wl_v (x_move (tmI rfl rfl)) ?_
      refine wl_v (x_addN (tmI rfl rfl) (ev_cN 2) (fit_i64 (by omega))) ?_
      refine wl_v (x_assign (tmI rfl rfl)) ?_
      refine wl_nil ?_
      exact then_n ⟨_, _, rfl, (by show _ < _; omega), (by repeat (first | exact agree_self | exact agree_refl | refine agree_upd rfl ?_ | refine agree_mix rfl ?_)), j + 1, rfl, (by first | rfl | go_num | exact congrArg (Value.int _) (by first | omega | (simp; done) | (simp; omega))), (by first | rfl | (rw [hx]; done) | (rw [hx]; rfl) | (rw [hx]; go_num)), hS, (by omega)⟩
    try simp only [nrm] at hc0
    refine wp_exit ?_
    refine then_x ?_; clear hK5 K5
    refine then_x ?_
    refine inb_x ?_
    refine then_n (hK3 _ _ ?_); clear hK3 K3
    refine wp_seq_k ?_; intro K11 hK11
    have hf := foldN_bd (psum l (2 * j))
    refine wlit ?_
    refine wl_v (x_move (tmI rfl rfl)) ?_
    refine wl_v (x_subN (ev_cN 65535) (tmI rfl rfl) (fit_u32 (by omega)) (by omega)) ?_
    refine wl_v (x_convN Try.underlying30 Try.underlying27 (tmI rfl rfl) (fit_u16 (by omega))) ?_
    refine wl_v (x_assign (tmI rfl rfl)) ?_
    refine wl_nil ?_
    refine then_n (hK11 _ _ ?_); clear hK11 K11
    refine wp_ret ?_
    refine ret1 rfl (.tmp rfl (show _ = Value.int _ _ from rfl)) ?_
    have hps : psum l (2 * j) = psum l n := by
      rw [← hl, show 2 * j = l.length + (2 * j - l.length) by omega, psum_out]
    rw [hps]
    exact ⟨rfl, hS.kp⟩
end Go.Proofs.Ytcobjneobdihkaa
/- ip4: Parse, by contract. Conditions: none but bounds. -/
namespace Go.Proofs.Ytcobjneobdihkaa
open Go.RowKit

def hdV (tos : Nat) (len : Int) (id : Nat) (stay more : Bool) (off : Int) (ttl proto sum : Nat) (src dst : Ad) (O : Option Addr) (m c : Nat) : List Value :=
  [.int .u8 (tos : Int), .int .i64 len, .int .u16 (id : Int), .bool stay, .bool more, .int .i64 off, .int .u8 (ttl : Int), .int .u8 (proto : Int), .int .u16 (sum : Int), .bool src.six, .int .u64 (src.high : Int), .int .u64 (src.low : Int), .bool dst.six, .int .u64 (dst.high : Int), .int .u64 (dst.low : Int), .slice O m c]
def ad0 : Ad := ⟨false, 0, 0⟩
/-- The form of a header that may be read. -/
structure Ip4Form (l : List Nat) (n sz len : Nat) : Prop where
  n20 : 20 ≤ n
  four : nth l 0 / 16 = 4
  size : nth l 0 % 16 * 4 = sz
  sz20 : 20 ≤ sz
  flags : getN l 6 2 < 32768
  len_ : getN l 2 2 = len
  szlen : sz ≤ len
theorem and_bit (n i : Nat) : n &&& 2 ^ i = n / 2 ^ i % 2 * 2 ^ i := by
  have hb : n.testBit i = decide (n / 2 ^ i % 2 = 1) := Nat.testBit_eq_decide_div_mod_eq
  apply Nat.eq_of_testBit_eq
  intro j
  have h2 : n / 2 ^ i % 2 = 0 ∨ n / 2 ^ i % 2 = 1 := by omega
  rw [Nat.testBit_and, Nat.testBit_two_pow]
  by_cases hij : i = j
  · subst hij
    rcases h2 with h | h <;> simp [hb, h]
  · rcases h2 with h | h <;> simp [h, hij]
theorem seen_one {w : World} {A : Option Addr} {l : List Nat} {c : Nat} (h : View w w.heap.size A (l.map u8v)) : SeenRows w [(A, l, c)] := seen_cons h seen_nil
theorem joined_one (A : Option Addr) (l : List Nat) (c : Nat) : joined [(A, l, c)] = l := by simp [joined]
theorem rsum_one (A : Option Addr) (l : List Nat) (c : Nat) : rsum [(A, l, c)] 1 = psum l l.length := by simp [rsum]
def SumOk (l : List Nat) (sz : Nat) : Prop := foldN (psum (l.take sz) sz) = 65535

set_option maxRecDepth 100000 in
set_option maxHeartbeats 4000000 in
theorem sum_right_c (A : Option Addr) (n c : Nat) (l : List Nat) (B : Option Addr) (w0 : World) (hv : View w0 w0.heap.size B [.slice A n c]) (hv1 : View w0 w0.heap.size A (l.map u8v)) (hl : l.length = n) (hb : Bytes l) (hn : n ≤ 1000000) (cb : Nat) :
    Calls Try.prog 76 #[.slice B 1 cb] w0 fun e w' => e = .returned (.bool (decide (foldN (psum l n) = 65535))) ∧ Kp [] w0 w' := by
  have hS := ((St.sv w0).vcons rfl hv1).vcons rfl hv
  have hfb := foldN_bd (psum l n)
  refine ent (n := 6) Try.func76 rfl rfl ?_
  refine wp_seq_k ?_; intro K1 hK1
  refine wlit ?_
  refine wl_v (x_assign ev_c) ?_
  refine wl_nil ?_
  refine then_n (hK1 _ _ ?_); clear hK1 K1
  refine wp_seq_k ?_; intro K2 hK2
  refine wlit ?_
  refine wl_v (x_move (tmS rfl rfl)) ?_
  refine wl_e rfl ?_; intro K hK
  refine ow_call Try.func52 rfl rfl (evs_cons (tmS rfl rfl) <| evs_nil) (sum_of_c 1 B cb [(A, l, c)] _ (by have h := viewV hS.ok 0 rfl; rw [← hl] at h; exact h) (seen_one (viewV hS.ok 1 rfl)) (brows_cons hb brows_nil) rfl (by omega) (by rw [joined_one]; omega)) ?_
  rintro e w ⟨rfl, hk⟩
  refine ⟨_, rfl, ?_⟩
  rw [rsum_one, hl]
  replace hS := hS.kept hk
  clear hk
  refine hK _ _ ?_; clear hK K
  refine wl_v (x_eql (tmI rfl rfl) (ev_cN 0)) ?_
  refine wl_v (x_assign (tmB rfl rfl)) ?_
  refine wl_nil ?_
  refine then_n (hK2 _ _ ?_); clear hK2 K2
  refine wp_ret ?_
  refine ret1 rfl (.tmp rfl (show _ = Value.bool _ from rfl)) ?_
  refine ⟨ret_bool (decide_eq_decide.2 ?_), hS.kp⟩
  omega

set_option maxRecDepth 100000 in
set_option maxHeartbeats 8000000 in
theorem ip4_parse_c (n : Nat) (A : Option Addr) (c : Nat) (l : List Nat) (w0 : World) (hv : View w0 w0.heap.size A (l.map u8v)) (hl : l.length = n) (hc : n ≤ c) (hb : Bytes l) (hn4 : n ≤ 1000000)
    (sz len : Nat) (hf : Ip4Form l n sz len) (hlen : len ≤ n) (hsum : SumOk l sz) :
    Calls Try.prog 64 #[.slice A n c] w0 fun e w' => ∃ O L, e = .returned (.tuple #[.agg (hdV (getN l 1 1) (len : Int) (getN l 4 2) (decide (getN l 6 2 / 2 ^ 14 % 2 = 1)) (decide (getN l 6 2 / 2 ^ 13 % 2 = 1)) ((getN l 6 2 % 8192 : Nat) : Int) (getN l 8 1) (getN l 9 1) (getN l 10 2) ⟨false, 0, getN l 12 4⟩ ⟨false, 0, getN l 16 4⟩ O (sz - 20) (sz - 20)).toArray, .slice L (len - sz) (len - sz), .int .i64 0]) ∧
      NewV w0 w' O (((l.drop 20).take (sz - 20)).map u8v) ∧ NewV w0 w' L (((l.drop sz).take (len - sz)).map u8v) ∧ Kp [] w0 w' := by
  obtain ⟨n20, four, size, sz20, flags, hle, szlen⟩ := hf
  have hS := (St.sv w0).vcons rfl hv
  have hq : getN l 0 1 = nth l 0 := getN_one (by omega)
  have hqb := nth_lt hb 0
  have h15 : getN l 0 1 &&& 15 = getN l 0 1 % 16 := Nat.and_two_pow_sub_one_eq_mod _ 4
  have hz : (getN l 0 1 &&& 15) * 4 = sz := by rw [h15, hq]; exact size
  have hfl := getN_lt hb 6 2
  have hfl' : getN l (0 + 1 + 1 + 2 + 2) 2 < 256 ^ 2 := hfl
  have h32 : getN l 6 2 &&& 32768 = getN l 6 2 / 2 ^ 15 % 2 * 2 ^ 15 := and_bit _ 15
  have h32' : getN l (0 + 1 + 1 + 2 + 2) 2 &&& 32768 = getN l 6 2 / 2 ^ 15 % 2 * 2 ^ 15 := and_bit _ 15
  have h14 : getN l (0 + 1 + 1 + 2 + 2) 2 &&& 16384 = getN l 6 2 / 2 ^ 14 % 2 * 2 ^ 14 := and_bit _ 14
  have h13 : getN l (0 + 1 + 1 + 2 + 2) 2 &&& 8192 = getN l 6 2 / 2 ^ 13 % 2 * 2 ^ 13 := and_bit _ 13
  have h81 : getN l (0 + 1 + 1 + 2 + 2) 2 &&& 8191 = getN l 6 2 % 8192 := Nat.and_two_pow_sub_one_eq_mod _ 13
  have hle' : getN l (0 + 1 + 1) 2 = len := hle
  have e14 : (!decide (((getN l (0 + 1 + 1 + 2 + 2) 2 &&& 16384 : Nat) : Int) = ((0 : Nat) : Int))) = decide (getN l 6 2 / 2 ^ 14 % 2 = 1) := by
    rw [Bool.eq_iff_iff]; simp only [nrm, decide_eq_true_eq, Bool.not_eq_true']; omega
  have e13 : (!decide (((getN l (0 + 1 + 1 + 2 + 2) 2 &&& 8192 : Nat) : Int) = ((0 : Nat) : Int))) = decide (getN l 6 2 / 2 ^ 13 % 2 = 1) := by
    rw [Bool.eq_iff_iff]; simp only [nrm, decide_eq_true_eq, Bool.not_eq_true']; omega
  have htl : (l.take sz).length = sz := by rw [List.length_take]; omega
  refine ent (n := 111) Try.func64 rfl rfl ?_
  refine wp_seq_k ?_; intro K1 hK1
  refine wlit ?_
  refine wl_e rfl ?_; intro K hK
  refine ow_alloc hS tz_64 rfl ?_
  clear hS; intro g0_0 w hg0_0 hS
  refine hK _ _ ?_; clear hK K
  refine wl_v (x_assign ev_c) ?_
  refine wl_v (x_assign (ev_cN 0)) ?_
  refine wl_nil ?_
  refine then_n (hK1 _ _ ?_); clear hK1 K1
  refine wp_seq_k ?_; intro K2 hK2
  refine wp_seq_k ?_; intro K3 hK3
  refine wlit ?_
  refine wl_v (x_move (tmS rfl rfl)) ?_
  refine wl_v (x_len Try.underlying22 (tmS rfl rfl)) ?_
  refine wl_v (x_lss (tmI rfl rfl) (ev_cN 20)) ?_
  refine wl_nil ?_
  refine then_n (hK3 _ _ ?_); clear hK3 K3
  refine cnd (tm rfl) (fun hc0 => ?_) (fun hc0 => ?_)
  · exfalso
    simp only [nrm] at hc0
    omega
  try simp only [nrm] at hc0
  refine wp_skip ?_
  refine then_n (hK2 _ _ ?_); clear hK2 K2
  refine wp_seq_k ?_; intro K4 hK4
  refine wlit ?_
  refine wl_v (x_move (tmS rfl rfl)) ?_
  refine wl_e rfl ?_; intro K hK
  refine ow_call Try.func14 rfl rfl (evs_cons (tmS rfl rfl) <| evs_nil) (read_c n A c l _ (viewV hS.ok 1 rfl) hl hn4) ?_
  rintro e w ⟨gr, A0, rfl, hS2⟩
  refine ⟨_, rfl, ?_⟩
  replace hS := hS.adds hS2 rfl -- +gr,rowb
  clear hS2
  have hA : Off A0 0 n A0 := off_zero
  have hcp : n - 0 ≤ n := by omega
  refine hK _ _ ?_; clear hK K
  refine wl_v (x_assign (tmP rfl rfl)) ?_
  refine wl_nil ?_
  refine then_n (hK4 _ _ ?_); clear hK4 K4
  refine wp_seq_k ?_; intro K5 hK5
  refine wlit ?_
  refine wl_v (x_move (tmP rfl rfl)) ?_
  refine wl_e rfl ?_; intro K hK
  refine ow_call Try.func30 rfl rfl (evs_cons (tmP rfl rfl) <| evs_nil) (byte_c gr A0 _ _ n _ l false _ _ (hS.enter [0] [1] rfl rfl) hA (by omega) hcp hl hb) ?_
  rintro e w ⟨A1, c1, rfl, hS2, hA, hcp⟩
  refine ⟨_, rfl, ?_⟩
  replace hS := hS.turn 0 rfl rfl hS2 rfl
  clear hS2
  try replace hS := St.nm (M' := [_, .row _ _ _ _ _, .blk _ _ [_, _, _, _, _, _, _, _, _, _, _, _, _, _, _, _], .vw _ _]) hS rfl
  refine hK _ _ ?_; clear hK K
  refine wl_v (x_assign (tmI rfl rfl)) ?_
  refine wl_nil ?_
  refine then_n (hK5 _ _ ?_); clear hK5 K5
  refine wp_seq_k ?_; intro K6 hK6
  refine wlit ?_
  refine wl_v (x_move (tmI rfl rfl)) ?_
  refine wl_v (x_andN (tmI rfl rfl) (ev_cN 15) (fit_u8 (by omega)) (fit_u8 (by omega))) ?_
  refine wl_v (x_convN Try.underlying5 Try.underlying3 (tmI rfl rfl) (fit_i64 (by omega))) ?_
  refine wl_v (x_mulN (tmI rfl rfl) (ev_cN 4) (fit_i64 (by omega))) ?_
  refine wl_v (x_assign (tmI rfl (congrArg (fun q : Nat => Value.int .i64 (q : Int)) hz))) ?_
  refine wl_nil ?_
  refine then_n (hK6 _ _ ?_); clear hK6 K6
  refine wp_seq_k ?_; intro K7 hK7
  refine wlit ?_
  refine wl_v (x_move (tmP rfl rfl)) ?_
  refine wl_e rfl ?_; intro K hK
  refine ow_call Try.func30 rfl rfl (evs_cons (tmP rfl rfl) <| evs_nil) (byte_c gr A0 _ _ n _ l false _ _ (hS.enter [0] [1] rfl rfl) hA (by omega) hcp hl hb) ?_
  rintro e w ⟨A1, c1, rfl, hS2, hA, hcp⟩
  refine ⟨_, rfl, ?_⟩
  replace hS := hS.turn 0 rfl rfl hS2 rfl
  clear hS2
  try replace hS := St.nm (M' := [_, .row _ _ _ _ _, .blk _ _ [_, _, _, _, _, _, _, _, _, _, _, _, _, _, _, _], .vw _ _]) hS rfl
  refine hK _ _ ?_; clear hK K
  refine wl_v (x_move (tmP rfl rfl)) ?_
  refine wl_e rfl ?_; intro K hK
  refine ow_call Try.func15 rfl rfl (evs_cons (tmP rfl rfl) <| evs_nil) (word_c gr A0 _ _ n _ l false _ _ (hS.enter [0] [1] rfl rfl) hA (by omega) hcp hl hb) ?_
  rintro e w ⟨A1, c1, rfl, hS2, hA, hcp⟩
  refine ⟨_, rfl, ?_⟩
  replace hS := hS.turn 0 rfl rfl hS2 rfl
  clear hS2
  try replace hS := St.nm (M' := [_, .row _ _ _ _ _, .blk _ _ [_, _, _, _, _, _, _, _, _, _, _, _, _, _, _, _], .vw _ _]) hS rfl
  refine hK _ _ ?_; clear hK K
  refine wl_v (x_convN Try.underlying27 Try.underlying3 (tmI rfl (congrArg (fun q : Nat => Value.int .u16 (q : Int)) hle')) (fit_i64 (by omega))) ?_
  refine wl_v (x_move (tmP rfl rfl)) ?_
  refine wl_e rfl ?_; intro K hK
  refine ow_call Try.func15 rfl rfl (evs_cons (tmP rfl rfl) <| evs_nil) (word_c gr A0 _ _ n _ l false _ _ (hS.enter [0] [1] rfl rfl) hA (by omega) hcp hl hb) ?_
  rintro e w ⟨A1, c1, rfl, hS2, hA, hcp⟩
  refine ⟨_, rfl, ?_⟩
  replace hS := hS.turn 0 rfl rfl hS2 rfl
  clear hS2
  try replace hS := St.nm (M' := [_, .row _ _ _ _ _, .blk _ _ [_, _, _, _, _, _, _, _, _, _, _, _, _, _, _, _], .vw _ _]) hS rfl
  refine hK _ _ ?_; clear hK K
  refine wl_v (x_build (bc_take (tmI rfl rfl) <| bc_take (tmI rfl rfl) <| bc_take (tmI rfl rfl) <| bc_skip (.bool false) <| bc_skip (.bool false) <| bc_skip (.int .i64 0) <| bc_skip (.int .u8 0) <| bc_skip (.int .u8 0) <| bc_skip (.int .u16 0) <| bc_skipL [.bool false, .int .u64 0, .int .u64 0] <| bc_skipL [.bool false, .int .u64 0, .int .u64 0] <| bc_skip (.slice none 0 0) <| bc_nil) (by kernel_rfl)) ?_
  refine wl_e rfl ?_; intro K hK
  refine ow_alloc hS tz_64 rfl ?_
  clear hS; intro g6_8 w hg6_8 hS
  refine hK _ _ ?_; clear hK K
  refine wl_e rfl ?_; intro K hK
  refine ow_storeA hS 0 rfl ts_64 (tmP rfl rfl) (tmA rfl rfl) rfl rfl rfl ?_
  clear hS; intro w hS
  try replace hS := St.nm (M' := [.blk _ _ [_, _, _, _, _, _, _, _, _, _, _, _, _, _, _, _], _, .row _ _ _ _ _, .blk _ _ [_, _, _, _, _, _, _, _, _, _, _, _, _, _, _, _], .vw _ _]) hS rfl
  refine hK _ _ ?_; clear hK K
  refine wl_nil ?_
  refine then_n (hK7 _ _ ?_); clear hK7 K7
  refine wp_seq_k ?_; intro K8 hK8
  refine wlit ?_
  refine wl_v (x_move (tmP rfl rfl)) ?_
  refine wl_e rfl ?_; intro K hK
  refine ow_call Try.func15 rfl rfl (evs_cons (tmP rfl rfl) <| evs_nil) (word_c gr A0 _ _ n _ l false _ _ (hS.enter [1] [2] rfl rfl) hA (by omega) hcp hl hb) ?_
  rintro e w ⟨A1, c1, rfl, hS2, hA, hcp⟩
  refine ⟨_, rfl, ?_⟩
  replace hS := hS.turn 1 rfl rfl hS2 rfl
  clear hS2
  try replace hS := St.nm (M' := [.blk _ _ [_, _, _, _, _, _, _, _, _, _, _, _, _, _, _, _], _, .row _ _ _ _ _, .blk _ _ [_, _, _, _, _, _, _, _, _, _, _, _, _, _, _, _], .vw _ _]) hS rfl
  refine hK _ _ ?_; clear hK K
  refine wl_v (x_assign (tmI rfl rfl)) ?_
  refine wl_nil ?_
  refine then_n (hK8 _ _ ?_); clear hK8 K8
  refine wp_seq_k ?_; intro K9 hK9
  refine wp_seq_k ?_; intro K10 hK10
  refine wlit ?_
  refine wl_v (x_move (tmI rfl rfl)) ?_
  refine wl_v (x_shrN (tmI rfl rfl) (ev_cN 4) (fit_u8 (by omega))) ?_
  refine wl_v (x_neq (tmI rfl rfl) (ev_cN 4)) ?_
  refine wl_v (x_move (tmB rfl rfl)) ?_
  refine gs_wl (tm (t := 35) rfl) (fun hg8_3 => ?_) (fun hg8_3 => ?_)
  · have hg8_3' := hg8_3; (try simp only [nrm] at hg8_3'); try (exfalso; first | with_reducible exact absurd hg8_3 Bool.false_ne_true | with_reducible exact absurd hg8_3.symm Bool.false_ne_true | omega | (simp at hg8_3; done))
  have hg8_3' := hg8_3; (try simp only [nrm] at hg8_3')
  refine wl_gv (want_y rfl rfl rfl rfl (by rw [hg8_3]; rfl)) (x_move (tmI rfl rfl)) ?_
  refine wl_gv (want_y rfl rfl rfl rfl (by rw [hg8_3]; rfl)) (x_lss (tmI rfl rfl) (ev_cN 20)) ?_
  refine wl_v (x_pickF (tmB rfl rfl) hg8_3 (tmB rfl rfl)) ?_
  refine wl_v (x_move (tmB rfl rfl)) ?_
  refine gs_wl (tm (t := 39) rfl) (fun hg8_7 => ?_) (fun hg8_7 => ?_)
  · have hg8_7' := hg8_7; (try simp only [nrm] at hg8_7'); try (exfalso; first | with_reducible exact absurd hg8_7 Bool.false_ne_true | with_reducible exact absurd hg8_7.symm Bool.false_ne_true | omega | (simp at hg8_7; done))
  have hg8_7' := hg8_7; (try simp only [nrm] at hg8_7')
  refine wl_gv (want_y rfl rfl rfl rfl (by rw [hg8_7]; rfl)) (x_move (tmI rfl rfl)) ?_
  refine wl_gv (want_y rfl rfl rfl rfl (by rw [hg8_7]; rfl)) (x_andN (tmI rfl rfl) (ev_cN 32768) (fit_u16 (by omega)) (fit_u16 (by omega))) ?_
  refine wl_gv (want_y rfl rfl rfl rfl (by rw [hg8_7]; rfl)) (x_neq (tmI rfl rfl) (ev_cN 0)) ?_
  refine wl_v (x_pickF (tmB rfl rfl) hg8_7 (tmB rfl rfl)) ?_
  refine wl_v (x_move (tmB rfl rfl)) ?_
  refine gs_wl (tm (t := 44) rfl) (fun hg8_12 => ?_) (fun hg8_12 => ?_)
  · have hg8_12' := hg8_12; (try simp only [nrm] at hg8_12'); try (exfalso; first | with_reducible exact absurd hg8_12 Bool.false_ne_true | with_reducible exact absurd hg8_12.symm Bool.false_ne_true | omega | (simp at hg8_12; done))
  have hg8_12' := hg8_12; (try simp only [nrm] at hg8_12')
  refine wl_gv (want_y rfl rfl rfl rfl (by rw [hg8_12]; rfl)) (x_fa 1 Try.underlying64 rfl rfl ts_3 (tmP rfl rfl)) ?_
  refine wl_gv (want_y rfl rfl rfl rfl (by rw [hg8_12]; rfl)) (x_load Try.underlying3 rfl (tmP rfl rfl) (cellB hS.ok 0 rfl rfl)) ?_
  refine wl_gv (want_y rfl rfl rfl rfl (by rw [hg8_12]; rfl)) (x_move (tmI rfl rfl)) ?_
  refine wl_gv (want_y rfl rfl rfl rfl (by rw [hg8_12]; rfl)) (x_lss (tmI rfl rfl) (tmI rfl rfl)) ?_
  refine wl_v (x_pickF (tmB rfl rfl) hg8_12 (tmB rfl rfl)) ?_
  refine wl_nil ?_
  refine then_n (hK10 _ _ ?_); clear hK10 K10
  refine cnd (tm rfl) (fun hc1 => ?_) (fun hc1 => ?_)
  · exfalso
    simp only [nrm] at hc1
    omega
  try simp only [nrm] at hc1
  refine wp_skip ?_
  refine then_n (hK9 _ _ ?_); clear hK9 K9
  refine wp_seq_k ?_; intro K17 hK17
  refine wp_seq_k ?_; intro K18 hK18
  refine wlit ?_
  refine wl_v (x_move (tmS rfl rfl)) ?_
  refine wl_v (x_len Try.underlying22 (tmS rfl rfl)) ?_
  refine wl_v (x_fa 1 Try.underlying64 rfl rfl ts_3 (tmP rfl rfl)) ?_
  refine wl_v (x_load Try.underlying3 rfl (tmP rfl rfl) (cellB hS.ok 0 rfl rfl)) ?_
  refine wl_v (x_lss (tmI rfl rfl) (tmI rfl rfl)) ?_
  refine wl_nil ?_
  refine then_n (hK18 _ _ ?_); clear hK18 K18
  refine cnd (tm rfl) (fun hc2 => ?_) (fun hc2 => ?_)
  · exfalso
    simp only [nrm] at hc2
    omega
  try simp only [nrm] at hc2
  refine wp_skip ?_
  refine then_n (hK17 _ _ ?_); clear hK17 K17
  refine wp_seq_k ?_; intro K19 hK19
  refine wp_seq_k ?_; intro K20 hK20
  refine wlit ?_
  refine wl_v (x_move (tmS rfl rfl)) ?_
  refine wl_v (x_move (tmI rfl rfl)) ?_
  refine wl_v (x_sliceH Try.underlying22 ts_5 (tmS rfl rfl) (tmI rfl rfl) (by omega)) ?_
  replace hS := hS.cutb 4 0 sz rfl (by omega : l.length ≤ c)
  refine wl_e rfl ?_; intro K hK
  refine ow_build hS Try.underlying126 tz_22 (bc_take (tmS rfl rfl) <| bc_nil) rfl rfl (by kernel_rfl) ?_
  clear hS; intro g12_3 w hg12_3 hS
  refine hK _ _ ?_; clear hK K
  refine wl_e rfl ?_; intro K hK
  refine ow_call Try.func76 rfl rfl (evs_cons (tmS rfl rfl) <| evs_nil) (sum_right_c _ sz _ (l.take sz) _ _ (viewB hS.ok 0 rfl) (viewV hS.ok 1 rfl) htl (hb.take sz) (by omega) _) ?_
  rintro e w ⟨rfl, hk⟩
  refine ⟨_, rfl, ?_⟩
  replace hS := hS.kept hk
  clear hk
  refine hK _ _ ?_; clear hK K
  refine wl_v (x_not (tmB rfl rfl)) ?_
  refine wl_nil ?_
  refine then_n (hK20 _ _ ?_); clear hK20 K20
  refine cnd (tm rfl) (fun hc3 => ?_) (fun hc3 => ?_)
  · exfalso
    simp at hc3
    exact hc3 hsum
  try simp only [nrm] at hc3
  refine wp_skip ?_
  refine then_n (hK19 _ _ ?_); clear hK19 K19
  refine wp_seq_k ?_; intro K21 hK21
  refine wlit ?_
  refine wl_v (x_move (tmI rfl rfl)) ?_
  refine wl_v (x_andN (tmI rfl rfl) (ev_cN 16384) (fit_u16 (by omega)) (fit_u16 (by omega))) ?_
  refine wl_v ((congrArg (fun q : Bool => Value.bool q) e14) ▸ x_neq (tmI rfl rfl) (ev_cN 0)) ?_
  refine wl_v (x_move (tmI rfl rfl)) ?_
  refine wl_v (x_andN (tmI rfl rfl) (ev_cN 8192) (fit_u16 (by omega)) (fit_u16 (by omega))) ?_
  refine wl_v ((congrArg (fun q : Bool => Value.bool q) e13) ▸ x_neq (tmI rfl rfl) (ev_cN 0)) ?_
  refine wl_v (x_move (tmI rfl rfl)) ?_
  refine wl_v (x_andN (tmI rfl rfl) (ev_cN 8191) (fit_u16 (by omega)) (fit_u16 (by omega))) ?_
  refine wl_v (x_convN Try.underlying27 Try.underlying3 (tmI rfl (congrArg (fun q : Nat => Value.int .u16 (q : Int)) h81)) (fit_i64 (by omega))) ?_
  refine wl_v (x_fa 3 Try.underlying64 rfl rfl ts_4 (tmP rfl rfl)) ?_
  refine wl_e rfl ?_; intro K hK
  refine ow_store hS 2 rfl ts_4 (tmP rfl rfl) (tmB rfl rfl) rfl rfl ?_
  clear hS; intro w hS
  try replace hS := St.nm (M' := [_, .vw _ _, .blk _ _ [_, _, _, _, _, _, _, _, _, _, _, _, _, _, _, _], _, .row _ _ _ _ _, .blk _ _ [_, _, _, _, _, _, _, _, _, _, _, _, _, _, _, _], .vw _ _]) hS rfl
  refine hK _ _ ?_; clear hK K
  refine wl_v (x_fa 4 Try.underlying64 rfl rfl ts_4 (tmP rfl rfl)) ?_
  refine wl_e rfl ?_; intro K hK
  refine ow_store hS 2 rfl ts_4 (tmP rfl rfl) (tmB rfl rfl) rfl rfl ?_
  clear hS; intro w hS
  try replace hS := St.nm (M' := [_, .vw _ _, .blk _ _ [_, _, _, _, _, _, _, _, _, _, _, _, _, _, _, _], _, .row _ _ _ _ _, .blk _ _ [_, _, _, _, _, _, _, _, _, _, _, _, _, _, _, _], .vw _ _]) hS rfl
  refine hK _ _ ?_; clear hK K
  refine wl_v (x_fa 5 Try.underlying64 rfl rfl ts_3 (tmP rfl rfl)) ?_
  refine wl_e rfl ?_; intro K hK
  refine ow_store hS 2 rfl ts_3 (tmP rfl rfl) (tmI rfl rfl) rfl rfl ?_
  clear hS; intro w hS
  try replace hS := St.nm (M' := [_, .vw _ _, .blk _ _ [_, _, _, _, _, _, _, _, _, _, _, _, _, _, _, _], _, .row _ _ _ _ _, .blk _ _ [_, _, _, _, _, _, _, _, _, _, _, _, _, _, _, _], .vw _ _]) hS rfl
  refine hK _ _ ?_; clear hK K
  refine wl_nil ?_
  refine then_n (hK21 _ _ ?_); clear hK21 K21
  refine wp_seq_k ?_; intro K22 hK22
  refine wlit ?_
  refine wl_v (x_move (tmP rfl rfl)) ?_
  refine wl_e rfl ?_; intro K hK
  refine ow_call Try.func30 rfl rfl (evs_cons (tmP rfl rfl) <| evs_nil) (byte_c gr A0 _ _ n _ l false _ _ (hS.enter [3] [4] rfl rfl) hA (by omega) hcp hl hb) ?_
  rintro e w ⟨A1, c1, rfl, hS2, hA, hcp⟩
  refine ⟨_, rfl, ?_⟩
  replace hS := hS.turn 3 rfl rfl hS2 rfl
  clear hS2
  try replace hS := St.nm (M' := [_, .vw _ _, .blk _ _ [_, _, _, _, _, _, _, _, _, _, _, _, _, _, _, _], _, .row _ _ _ _ _, .blk _ _ [_, _, _, _, _, _, _, _, _, _, _, _, _, _, _, _], .vw _ _]) hS rfl
  refine hK _ _ ?_; clear hK K
  refine wl_v (x_move (tmP rfl rfl)) ?_
  refine wl_e rfl ?_; intro K hK
  refine ow_call Try.func30 rfl rfl (evs_cons (tmP rfl rfl) <| evs_nil) (byte_c gr A0 _ _ n _ l false _ _ (hS.enter [3] [4] rfl rfl) hA (by omega) hcp hl hb) ?_
  rintro e w ⟨A1, c1, rfl, hS2, hA, hcp⟩
  refine ⟨_, rfl, ?_⟩
  replace hS := hS.turn 3 rfl rfl hS2 rfl
  clear hS2
  try replace hS := St.nm (M' := [_, .vw _ _, .blk _ _ [_, _, _, _, _, _, _, _, _, _, _, _, _, _, _, _], _, .row _ _ _ _ _, .blk _ _ [_, _, _, _, _, _, _, _, _, _, _, _, _, _, _, _], .vw _ _]) hS rfl
  refine hK _ _ ?_; clear hK K
  refine wl_v (x_move (tmP rfl rfl)) ?_
  refine wl_e rfl ?_; intro K hK
  refine ow_call Try.func15 rfl rfl (evs_cons (tmP rfl rfl) <| evs_nil) (word_c gr A0 _ _ n _ l false _ _ (hS.enter [3] [4] rfl rfl) hA (by omega) hcp hl hb) ?_
  rintro e w ⟨A1, c1, rfl, hS2, hA, hcp⟩
  refine ⟨_, rfl, ?_⟩
  replace hS := hS.turn 3 rfl rfl hS2 rfl
  clear hS2
  try replace hS := St.nm (M' := [_, .vw _ _, .blk _ _ [_, _, _, _, _, _, _, _, _, _, _, _, _, _, _, _], _, .row _ _ _ _ _, .blk _ _ [_, _, _, _, _, _, _, _, _, _, _, _, _, _, _, _], .vw _ _]) hS rfl
  refine hK _ _ ?_; clear hK K
  refine wl_v (x_fa 6 Try.underlying64 rfl rfl ts_5 (tmP rfl rfl)) ?_
  refine wl_e rfl ?_; intro K hK
  refine ow_store hS 2 rfl ts_5 (tmP rfl rfl) (tmI rfl rfl) rfl rfl ?_
  clear hS; intro w hS
  try replace hS := St.nm (M' := [_, .vw _ _, .blk _ _ [_, _, _, _, _, _, _, _, _, _, _, _, _, _, _, _], _, .row _ _ _ _ _, .blk _ _ [_, _, _, _, _, _, _, _, _, _, _, _, _, _, _, _], .vw _ _]) hS rfl
  refine hK _ _ ?_; clear hK K
  refine wl_v (x_fa 7 Try.underlying64 rfl rfl ts_5 (tmP rfl rfl)) ?_
  refine wl_e rfl ?_; intro K hK
  refine ow_store hS 2 rfl ts_5 (tmP rfl rfl) (tmI rfl rfl) rfl rfl ?_
  clear hS; intro w hS
  try replace hS := St.nm (M' := [_, .vw _ _, .blk _ _ [_, _, _, _, _, _, _, _, _, _, _, _, _, _, _, _], _, .row _ _ _ _ _, .blk _ _ [_, _, _, _, _, _, _, _, _, _, _, _, _, _, _, _], .vw _ _]) hS rfl
  refine hK _ _ ?_; clear hK K
  refine wl_v (x_fa 8 Try.underlying64 rfl rfl ts_27 (tmP rfl rfl)) ?_
  refine wl_e rfl ?_; intro K hK
  refine ow_store hS 2 rfl ts_27 (tmP rfl rfl) (tmI rfl rfl) rfl rfl ?_
  clear hS; intro w hS
  try replace hS := St.nm (M' := [_, .vw _ _, .blk _ _ [_, _, _, _, _, _, _, _, _, _, _, _, _, _, _, _], _, .row _ _ _ _ _, .blk _ _ [_, _, _, _, _, _, _, _, _, _, _, _, _, _, _, _], .vw _ _]) hS rfl
  refine hK _ _ ?_; clear hK K
  refine wl_nil ?_
  refine then_n (hK22 _ _ ?_); clear hK22 K22
  refine wp_seq_k ?_; intro K23 hK23
  refine wlit ?_
  refine wl_v (x_move (tmP rfl rfl)) ?_
  refine wl_e rfl ?_; intro K hK
  refine ow_call Try.func29 rfl rfl (evs_cons (tmP rfl rfl) <| evs_cons (ev_cN 4) <| evs_nil) (bytes_c gr A0 A1 _ 4 n _ l false _ _ (hS.enter [3] [4] rfl rfl) hA (by omega) hcp) ?_
  rintro e w ⟨A2, c2, rfl, hS2, hA2, hcp2⟩
  refine ⟨_, rfl, ?_⟩
  replace hS := hS.turn 3 rfl rfl hS2 rfl
  clear hS2
  try replace hS := St.nm (M' := [_, .vw _ _, .blk _ _ [_, _, _, _, _, _, _, _, _, _, _, _, _, _, _, _], _, .row _ _ _ _ _, .blk _ _ [_, _, _, _, _, _, _, _, _, _, _, _, _, _, _, _], .vw _ _]) hS rfl
  refine hK _ _ ?_; clear hK K
  refine wl_e rfl ?_; intro K hK
  refine ow_call Try.func31 rfl rfl (evs_cons (tmS rfl rfl) <| evs_nil) (ad_of4_c A1 _ _ _ (by have h := (NewV.offb (hS.newv 4 rfl) hl hA 4).1; exact h) (by rw [List.length_take, List.length_drop]; omega) ((hb.drop _).take 4)) ?_
  rintro e w ⟨rfl, hk⟩
  refine ⟨_, rfl, ?_⟩
  replace hS := hS.kept hk
  clear hk
  refine hK _ _ ?_; clear hK K
  refine wl_v (x_move (tmT rfl rfl)) ?_
  refine wl_v (x_ext (tmT rfl rfl) rfl) ?_
  refine wl_v (x_ext (tmT rfl rfl) rfl) ?_
  refine wl_v (x_fa 9 Try.underlying64 rfl rfl ts_26 (tmP rfl rfl)) ?_
  refine wl_e rfl ?_; intro K hK
  refine ow_storeA hS 2 rfl ts_26 (tmP rfl rfl) (tmA rfl rfl) rfl rfl rfl ?_
  clear hS; intro w hS
  try replace hS := St.nm (M' := [_, .vw _ _, .blk _ _ [_, _, _, _, _, _, _, _, _, _, _, _, _, _, _, _], _, .row _ _ _ _ _, .blk _ _ [_, _, _, _, _, _, _, _, _, _, _, _, _, _, _, _], .vw _ _]) hS rfl
  refine hK _ _ ?_; clear hK K
  refine wl_nil ?_
  refine then_n (hK23 _ _ ?_); clear hK23 K23
  refine wp_seq_k ?_; intro K24 hK24
  refine wlit ?_
  refine wl_v (x_move (tmP rfl rfl)) ?_
  refine wl_e rfl ?_; intro K hK
  refine ow_call Try.func29 rfl rfl (evs_cons (tmP rfl rfl) <| evs_cons (ev_cN 4) <| evs_nil) (bytes_c gr A0 A2 _ 4 n _ l false _ _ (hS.enter [3] [4] rfl rfl) hA2 (by omega) hcp2) ?_
  rintro e w ⟨A3, c3, rfl, hS2, hA3, hcp3⟩
  refine ⟨_, rfl, ?_⟩
  replace hS := hS.turn 3 rfl rfl hS2 rfl
  clear hS2
  try replace hS := St.nm (M' := [_, .vw _ _, .blk _ _ [_, _, _, _, _, _, _, _, _, _, _, _, _, _, _, _], _, .row _ _ _ _ _, .blk _ _ [_, _, _, _, _, _, _, _, _, _, _, _, _, _, _, _], .vw _ _]) hS rfl
  refine hK _ _ ?_; clear hK K
  refine wl_e rfl ?_; intro K hK
  refine ow_call Try.func31 rfl rfl (evs_cons (tmS rfl rfl) <| evs_nil) (ad_of4_c A2 _ _ _ (by have h := (NewV.offb (hS.newv 4 rfl) hl hA2 4).1; exact h) (by rw [List.length_take, List.length_drop]; omega) ((hb.drop _).take 4)) ?_
  rintro e w ⟨rfl, hk⟩
  refine ⟨_, rfl, ?_⟩
  replace hS := hS.kept hk
  clear hk
  refine hK _ _ ?_; clear hK K
  refine wl_v (x_move (tmT rfl rfl)) ?_
  refine wl_v (x_ext (tmT rfl rfl) rfl) ?_
  refine wl_v (x_ext (tmT rfl rfl) rfl) ?_
  refine wl_v (x_fa 12 Try.underlying64 rfl rfl ts_26 (tmP rfl rfl)) ?_
  refine wl_e rfl ?_; intro K hK
  refine ow_storeA hS 2 rfl ts_26 (tmP rfl rfl) (tmA rfl rfl) rfl rfl rfl ?_
  clear hS; intro w hS
  try replace hS := St.nm (M' := [_, .vw _ _, .blk _ _ [_, _, _, _, _, _, _, _, _, _, _, _, _, _, _, _], _, .row _ _ _ _ _, .blk _ _ [_, _, _, _, _, _, _, _, _, _, _, _, _, _, _, _], .vw _ _]) hS rfl
  refine hK _ _ ?_; clear hK K
  refine wl_nil ?_
  refine then_n (hK24 _ _ ?_); clear hK24 K24
  refine wp_seq_k ?_; intro K25 hK25
  refine wlit ?_
  refine wl_v (x_move (tmP rfl rfl)) ?_
  refine wl_v (x_move (tmI rfl rfl)) ?_
  refine wl_v (x_subN (tmI rfl rfl) (ev_cN 20) (fit_i64 (by omega)) (by omega)) ?_
  refine wl_e rfl ?_; intro K hK
  refine ow_call Try.func29 rfl rfl (evs_cons (tmP rfl rfl) <| evs_cons (tmI rfl rfl) <| evs_nil) (bytes_c gr A0 A3 _ (sz - 20) n _ l false _ _ (hS.enter [3] [4] rfl rfl) hA3 (by omega) hcp3) ?_
  rintro e w ⟨A4, c4, rfl, hS2, hA4, hcp4⟩
  refine ⟨_, rfl, ?_⟩
  replace hS := hS.turn 3 rfl rfl hS2 rfl
  clear hS2
  try replace hS := St.nm (M' := [_, .vw _ _, .blk _ _ [_, _, _, _, _, _, _, _, _, _, _, _, _, _, _, _], _, .row _ _ _ _ _, .blk _ _ [_, _, _, _, _, _, _, _, _, _, _, _, _, _, _, _], .vw _ _]) hS rfl
  refine hK _ _ ?_; clear hK K
  refine wl_v (x_fa 15 Try.underlying64 rfl rfl ts_22 (tmP rfl rfl)) ?_
  refine wl_e rfl ?_; intro K hK
  refine ow_store hS 2 rfl ts_22 (tmP rfl rfl) (tmS rfl rfl) rfl rfl ?_
  clear hS; intro w hS
  try replace hS := St.nm (M' := [_, .vw _ _, .blk _ _ [_, _, _, _, _, _, _, _, _, _, _, _, _, _, _, _], _, .row _ _ _ _ _, .blk _ _ [_, _, _, _, _, _, _, _, _, _, _, _, _, _, _, _], .vw _ _]) hS rfl
  refine hK _ _ ?_; clear hK K
  refine wl_nil ?_
  refine then_n (hK25 _ _ ?_); clear hK25 K25
  refine wp_seq_k ?_; intro K26 hK26
  replace hS := hS.pick [3, 5, 2, 4] rfl rfl
  try replace hS := St.nm (M' := [_, .blk _ _ [_, _, _, _, _, _, _, _, _, _, _, _, _, _, _, _], .blk _ _ [_, _, _, _, _, _, _, _, _, _, _, _, _, _, _, _], .row _ _ _ _ _]) hS rfl
  refine rg_startk 2 hS mixed_ ?_
  clear hS; intro w hS
  refine rg_take 0 rfl rfl (by kernel_rfl) (by kernel_rfl) (by kernel_rfl) (want_0) (fun w hok => x_loadA (cs := [_, _, _, _, _, _, _, _, _, _, _, _, _, _, _, _]) Try.underlying64 rfl ts_64 (tmP rfl rfl) (rangeB hok 0 rfl rfl)) ?_
  refine rg_take 1 rfl rfl (by kernel_rfl) (by kernel_rfl) (by kernel_rfl) (want_0) (fun w hok => x_move (tmP rfl rfl)) ?_
  refine rg_take 2 rfl rfl (by kernel_rfl) (by kernel_rfl) (by kernel_rfl) (want_0) (fun w hok => x_fa 1 Try.underlying64 rfl rfl ts_3 (tmP rfl rfl)) ?_
  refine rg_take 3 rfl rfl (by kernel_rfl) (by kernel_rfl) (by kernel_rfl) (want_0) (fun w hok => x_load Try.underlying3 rfl (tmP rfl rfl) (cellB hok 0 rfl rfl)) ?_
  refine rg_take 4 rfl rfl (by kernel_rfl) (by kernel_rfl) (by kernel_rfl) (want_0) (fun w hok => x_move (tmI rfl rfl)) ?_
  refine rg_take 5 rfl rfl (by kernel_rfl) (by kernel_rfl) (by kernel_rfl) (want_0) (fun w hok => x_subN (tmI rfl rfl) (tmI rfl rfl) (fit_i64 (by omega)) (by omega)) ?_
  refine rg_step 6 rfl (by kernel_rfl) (want_0) (oks_drop hS 2 rfl) ?_; intro K hK
  refine ow_call Try.func29 rfl rfl (evs_cons (tmP rfl rfl) <| evs_cons (tmI rfl rfl) <| evs_nil) (bytes_c gr A0 A4 _ (len - sz) n _ l false _ _ (hS.enter [0] [3] rfl rfl) hA4 (by omega) hcp4) ?_
  rintro e w ⟨A5, c5, rfl, hS2, hA5, hcp5⟩
  refine ⟨_, rfl, ?_⟩
  replace hS := hS.turn 0 rfl rfl hS2 rfl
  clear hS2
  try replace hS := St.nm (M' := [_, .blk _ _ [_, _, _, _, _, _, _, _, _, _, _, _, _, _, _, _], .blk _ _ [_, _, _, _, _, _, _, _, _, _, _, _, _, _, _, _], .row _ _ _ _ _]) hS rfl
  refine hK _ _ ?_; clear hK K
  refine rg_step 7 rfl (by kernel_rfl) (want_0) (oks_drop hS 2 rfl) ?_; intro K hK
  refine ow_storeA hS 1 rfl ts_64 (tmP rfl rfl) (tmA rfl rfl) rfl rfl rfl ?_
  clear hS; intro w hS
  try replace hS := St.nm (M' := [_, .blk _ _ [_, _, _, _, _, _, _, _, _, _, _, _, _, _, _, _], .blk _ _ [_, _, _, _, _, _, _, _, _, _, _, _, _, _, _, _], .row _ _ _ _ _]) hS rfl
  refine hK _ _ ?_; clear hK K
  refine rg_take 8 rfl rfl (by kernel_rfl) (by kernel_rfl) (by kernel_rfl) (want_0) (fun w hok => x_assign (tmS rfl rfl)) ?_
  refine rg_take 9 rfl rfl (by kernel_rfl) (by kernel_rfl) (by kernel_rfl) (want_0) (fun w hok => x_assign (ev_cN 0)) ?_
  refine rg_done (oks_drop hS 2 rfl) (by kernel_rfl) ?_
  refine then_n (hK26 _ _ ?_); clear hK26 K26
  refine wp_ret ?_
  refine ret3 rfl (.cell rfl rfl (load_rowB (cs := [_, _, _, _, _, _, _, _, _, _, _, _, _, _, _, _]) hS.ok 1 rfl Try.underlying64 rfl ts_64 rfl)) (.tmp rfl (show _ = Value.slice _ _ _ from rfl)) (.tmp rfl (show _ = Value.int _ _ from rfl)) ?_
  refine ⟨A3, A4, rfl, NewV.offb (hS.newv 3 rfl) hl hA3 (sz - 20), ?_, hS.kp⟩
  have h4 := NewV.offb (hS.newv 3 rfl) hl hA4 (len - sz)
  rw [show 0 + 1 + 1 + 2 + 2 + 2 + 1 + 1 + 2 + 4 + 4 + (sz - 20) = sz by omega] at h4
  exact h4

/-- Why a header may not be read. -/
inductive Ip4Bad (l : List Nat) (n : Nat) : Nat → Prop
  | short (h : n < 20) : Ip4Bad l n 20
  | form (h : 20 ≤ n) (h2 : nth l 0 / 16 ≠ 4 ∨ nth l 0 % 16 * 4 < 20 ∨ 32768 ≤ getN l 6 2 ∨ getN l 2 2 < nth l 0 % 16 * 4) : Ip4Bad l n 21
  | cut {sz len : Nat} (hf : Ip4Form l n sz len) (h : n < len) : Ip4Bad l n 20
  | sum {sz len : Nat} (hf : Ip4Form l n sz len) (h : len ≤ n) (hs : ¬ SumOk l sz) : Ip4Bad l n 22
theorem ip4_all (l : List Nat) (n : Nat) : (∃ sz len, Ip4Form l n sz len ∧ len ≤ n ∧ SumOk l sz) ∨ ∃ er, Ip4Bad l n er := by
  by_cases h0 : n < 20
  · exact .inr ⟨20, .short h0⟩
  by_cases h1 : nth l 0 / 16 ≠ 4 ∨ nth l 0 % 16 * 4 < 20 ∨ 32768 ≤ getN l 6 2 ∨ getN l 2 2 < nth l 0 % 16 * 4
  · exact .inr ⟨21, .form (by omega) h1⟩
  have hf : Ip4Form l n (nth l 0 % 16 * 4) (getN l 2 2) := ⟨by omega, by omega, rfl, by omega, by omega, rfl, by omega⟩
  by_cases h2 : n < getN l 2 2
  · exact .inr ⟨20, .cut hf h2⟩
  by_cases h3 : SumOk l (nth l 0 % 16 * 4)
  · exact .inl ⟨_, _, hf, by omega, h3⟩
  · exact .inr ⟨22, .sum hf (by omega) h3⟩
end Go.Proofs.Ytcobjneobdihkaa
/- ip4: Parse with errors, by contract. Conditions: none but bounds. -/
namespace Go.Proofs.Ytcobjneobdihkaa
open Go.RowKit
set_option maxRecDepth 100000 in
set_option maxHeartbeats 8000000 in
theorem ip4_parse_bad (n : Nat) (A : Option Addr) (c : Nat) (l : List Nat) (w0 : World) (hv : View w0 w0.heap.size A (l.map u8v)) (hl : l.length = n) (hc : n ≤ c) (hb : Bytes l) (hn4 : n ≤ 1000000) (er : Nat) (h : Ip4Bad l n er) :
    Calls Try.prog 64 #[.slice A n c] w0 fun e w' => e = .returned (.tuple #[.agg (hdV 0 0 0 false false 0 0 0 0 ad0 ad0 none 0 0).toArray, .slice none 0 0, .int .i64 (er : Int)]) ∧ Kp [] w0 w' := by
  have hS := (St.sv w0).vcons rfl hv
  by_cases h20 : n < 20
  · obtain rfl : er = 20 := by
      cases h with
      | short _ => rfl
      | form h1 _ => omega
      | cut hf _ => have := hf.n20; omega
      | sum hf _ _ => have := hf.n20; omega
    refine ent (n := 111) Try.func64 rfl rfl ?_
    refine wp_seq_k ?_; intro K1 hK1
    refine wlit ?_
    refine wl_e rfl ?_; intro K hK
    refine ow_alloc hS tz_64 rfl ?_
    clear hS; intro g0_0 w hg0_0 hS
    refine hK _ _ ?_; clear hK K
    refine wl_v (x_assign ev_c) ?_
    refine wl_v (x_assign (ev_cN 0)) ?_
    refine wl_nil ?_
    refine then_n (hK1 _ _ ?_); clear hK1 K1
    refine wp_seq_k ?_; intro K2 hK2
    refine wp_seq_k ?_; intro K3 hK3
    refine wlit ?_
    refine wl_v (x_move (tmS rfl rfl)) ?_
    refine wl_v (x_len Try.underlying22 (tmS rfl rfl)) ?_
    refine wl_v (x_lss (tmI rfl rfl) (ev_cN 20)) ?_
    refine wl_nil ?_
    refine then_n (hK3 _ _ ?_); clear hK3 K3
    refine cnds (tm rfl) (fun hc0 => ?_) (fun hc0 => ?_)
    · exfalso
      simp only [nrm] at hc0
      omega
    try simp only [nrm] at hc0
    refine wp_seq_k ?_; intro K4 hK4
    refine wlit ?_
    refine wl_v (x_build (bc_skip (.int .u8 0) <| bc_skip (.int .i64 0) <| bc_skip (.int .u16 0) <| bc_skip (.bool false) <| bc_skip (.bool false) <| bc_skip (.int .i64 0) <| bc_skip (.int .u8 0) <| bc_skip (.int .u8 0) <| bc_skip (.int .u16 0) <| bc_skipL [.bool false, .int .u64 0, .int .u64 0] <| bc_skipL [.bool false, .int .u64 0, .int .u64 0] <| bc_skip (.slice none 0 0) <| bc_nil) (by kernel_rfl)) ?_
    refine wl_e rfl ?_; intro K hK
    refine ow_storeA hS 0 rfl ts_64 (tmP rfl rfl) (tmA rfl rfl) rfl rfl rfl ?_
    clear hS; intro w hS
    try replace hS := St.nm (M' := [.blk _ _ [_, _, _, _, _, _, _, _, _, _, _, _, _, _, _, _], .vw _ _]) hS rfl
    refine hK _ _ ?_; clear hK K
    refine wl_v (x_assign ev_c) ?_
    refine wl_v (x_assign (ev_cN 20)) ?_
    refine wl_nil ?_
    refine then_n (hK4 _ _ ?_); clear hK4 K4
    refine wp_ret ?_
    refine then_r ?_
    refine ret3 rfl (.cell rfl rfl (load_rowB (cs := [_, _, _, _, _, _, _, _, _, _, _, _, _, _, _, _]) hS.ok 0 rfl Try.underlying64 rfl ts_64 rfl)) (.tmp rfl (show _ = Value.slice _ _ _ from rfl)) (.tmp rfl (show _ = Value.int _ _ from rfl)) ?_
    exact ⟨rfl, hS.kp⟩
  have hq : getN l 0 1 = nth l 0 := getN_one (by omega)
  have hqb := nth_lt hb 0
  have h15 : getN l 0 1 &&& 15 = getN l 0 1 % 16 := Nat.and_two_pow_sub_one_eq_mod _ 4
  obtain ⟨sz, hsz⟩ : ∃ sz, nth l 0 % 16 * 4 = sz := ⟨_, rfl⟩
  obtain ⟨len, hle⟩ : ∃ len, getN l 2 2 = len := ⟨_, rfl⟩
  have hz : (getN l 0 1 &&& 15) * 4 = sz := by rw [h15, hq]; exact hsz
  have hfl := getN_lt hb 6 2
  have hfl' : getN l (0 + 1 + 1 + 2 + 2) 2 < 256 ^ 2 := hfl
  have hle2 := getN_lt hb 2 2
  have h32 : getN l 6 2 &&& 32768 = getN l 6 2 / 2 ^ 15 % 2 * 2 ^ 15 := and_bit _ 15
  have h32' : getN l (0 + 1 + 1 + 2 + 2) 2 &&& 32768 = getN l 6 2 / 2 ^ 15 % 2 * 2 ^ 15 := and_bit _ 15
  have hle' : getN l (0 + 1 + 1) 2 = len := hle
  have htl : sz ≤ n → (l.take sz).length = sz := fun h => by rw [List.length_take]; omega
  refine ent (n := 111) Try.func64 rfl rfl ?_
  refine wp_seq_k ?_; intro K1 hK1
  refine wlit ?_
  refine wl_e rfl ?_; intro K hK
  refine ow_alloc hS tz_64 rfl ?_
  clear hS; intro g0_0 w hg0_0 hS
  refine hK _ _ ?_; clear hK K
  refine wl_v (x_assign ev_c) ?_
  refine wl_v (x_assign (ev_cN 0)) ?_
  refine wl_nil ?_
  refine then_n (hK1 _ _ ?_); clear hK1 K1
  refine wp_seq_k ?_; intro K2 hK2
  refine wp_seq_k ?_; intro K3 hK3
  refine wlit ?_
  refine wl_v (x_move (tmS rfl rfl)) ?_
  refine wl_v (x_len Try.underlying22 (tmS rfl rfl)) ?_
  refine wl_v (x_lss (tmI rfl rfl) (ev_cN 20)) ?_
  refine wl_nil ?_
  refine then_n (hK3 _ _ ?_); clear hK3 K3
  refine cnd (tm rfl) (fun hc0 => ?_) (fun hc0 => ?_)
  · exfalso
    simp only [nrm] at hc0
    omega
  try simp only [nrm] at hc0
  refine wp_skip ?_
  refine then_n (hK2 _ _ ?_); clear hK2 K2
  refine wp_seq_k ?_; intro K4 hK4
  refine wlit ?_
  refine wl_v (x_move (tmS rfl rfl)) ?_
  refine wl_e rfl ?_; intro K hK
  refine ow_call Try.func14 rfl rfl (evs_cons (tmS rfl rfl) <| evs_nil) (read_c n A c l _ (viewV hS.ok 1 rfl) hl hn4) ?_
  rintro e w ⟨gr, A0, rfl, hS2⟩
  refine ⟨_, rfl, ?_⟩
  replace hS := hS.adds hS2 rfl -- +gr,rowb
  clear hS2
  have hA : Off A0 0 n A0 := off_zero
  have hcp : n - 0 ≤ n := by omega
  refine hK _ _ ?_; clear hK K
  refine wl_v (x_assign (tmP rfl rfl)) ?_
  refine wl_nil ?_
  refine then_n (hK4 _ _ ?_); clear hK4 K4
  refine wp_seq_k ?_; intro K5 hK5
  refine wlit ?_
  refine wl_v (x_move (tmP rfl rfl)) ?_
  refine wl_e rfl ?_; intro K hK
  refine ow_call Try.func30 rfl rfl (evs_cons (tmP rfl rfl) <| evs_nil) (byte_c gr A0 _ _ n _ l false _ _ (hS.enter [0] [1] rfl rfl) hA (by omega) hcp hl hb) ?_
  rintro e w ⟨A1, c1, rfl, hS2, hA, hcp⟩
  refine ⟨_, rfl, ?_⟩
  replace hS := hS.turn 0 rfl rfl hS2 rfl
  clear hS2
  try replace hS := St.nm (M' := [_, .row _ _ _ _ _, .blk _ _ [_, _, _, _, _, _, _, _, _, _, _, _, _, _, _, _], .vw _ _]) hS rfl
  refine hK _ _ ?_; clear hK K
  refine wl_v (x_assign (tmI rfl rfl)) ?_
  refine wl_nil ?_
  refine then_n (hK5 _ _ ?_); clear hK5 K5
  refine wp_seq_k ?_; intro K6 hK6
  refine wlit ?_
  refine wl_v (x_move (tmI rfl rfl)) ?_
  refine wl_v (x_andN (tmI rfl rfl) (ev_cN 15) (fit_u8 (by omega)) (fit_u8 (by omega))) ?_
  refine wl_v (x_convN Try.underlying5 Try.underlying3 (tmI rfl rfl) (fit_i64 (by omega))) ?_
  refine wl_v (x_mulN (tmI rfl rfl) (ev_cN 4) (fit_i64 (by omega))) ?_
  refine wl_v (x_assign (tmI rfl (congrArg (fun q : Nat => Value.int .i64 (q : Int)) hz))) ?_
  refine wl_nil ?_
  refine then_n (hK6 _ _ ?_); clear hK6 K6
  refine wp_seq_k ?_; intro K7 hK7
  refine wlit ?_
  refine wl_v (x_move (tmP rfl rfl)) ?_
  refine wl_e rfl ?_; intro K hK
  refine ow_call Try.func30 rfl rfl (evs_cons (tmP rfl rfl) <| evs_nil) (byte_c gr A0 _ _ n _ l false _ _ (hS.enter [0] [1] rfl rfl) hA (by omega) hcp hl hb) ?_
  rintro e w ⟨A1, c1, rfl, hS2, hA, hcp⟩
  refine ⟨_, rfl, ?_⟩
  replace hS := hS.turn 0 rfl rfl hS2 rfl
  clear hS2
  try replace hS := St.nm (M' := [_, .row _ _ _ _ _, .blk _ _ [_, _, _, _, _, _, _, _, _, _, _, _, _, _, _, _], .vw _ _]) hS rfl
  refine hK _ _ ?_; clear hK K
  refine wl_v (x_move (tmP rfl rfl)) ?_
  refine wl_e rfl ?_; intro K hK
  refine ow_call Try.func15 rfl rfl (evs_cons (tmP rfl rfl) <| evs_nil) (word_c gr A0 _ _ n _ l false _ _ (hS.enter [0] [1] rfl rfl) hA (by omega) hcp hl hb) ?_
  rintro e w ⟨A1, c1, rfl, hS2, hA, hcp⟩
  refine ⟨_, rfl, ?_⟩
  replace hS := hS.turn 0 rfl rfl hS2 rfl
  clear hS2
  try replace hS := St.nm (M' := [_, .row _ _ _ _ _, .blk _ _ [_, _, _, _, _, _, _, _, _, _, _, _, _, _, _, _], .vw _ _]) hS rfl
  refine hK _ _ ?_; clear hK K
  refine wl_v (x_convN Try.underlying27 Try.underlying3 (tmI rfl (congrArg (fun q : Nat => Value.int .u16 (q : Int)) hle')) (fit_i64 (by omega))) ?_
  refine wl_v (x_move (tmP rfl rfl)) ?_
  refine wl_e rfl ?_; intro K hK
  refine ow_call Try.func15 rfl rfl (evs_cons (tmP rfl rfl) <| evs_nil) (word_c gr A0 _ _ n _ l false _ _ (hS.enter [0] [1] rfl rfl) hA (by omega) hcp hl hb) ?_
  rintro e w ⟨A1, c1, rfl, hS2, hA, hcp⟩
  refine ⟨_, rfl, ?_⟩
  replace hS := hS.turn 0 rfl rfl hS2 rfl
  clear hS2
  try replace hS := St.nm (M' := [_, .row _ _ _ _ _, .blk _ _ [_, _, _, _, _, _, _, _, _, _, _, _, _, _, _, _], .vw _ _]) hS rfl
  refine hK _ _ ?_; clear hK K
  refine wl_v (x_build (bc_take (tmI rfl rfl) <| bc_take (tmI rfl rfl) <| bc_take (tmI rfl rfl) <| bc_skip (.bool false) <| bc_skip (.bool false) <| bc_skip (.int .i64 0) <| bc_skip (.int .u8 0) <| bc_skip (.int .u8 0) <| bc_skip (.int .u16 0) <| bc_skipL [.bool false, .int .u64 0, .int .u64 0] <| bc_skipL [.bool false, .int .u64 0, .int .u64 0] <| bc_skip (.slice none 0 0) <| bc_nil) (by kernel_rfl)) ?_
  refine wl_e rfl ?_; intro K hK
  refine ow_alloc hS tz_64 rfl ?_
  clear hS; intro g6_8 w hg6_8 hS
  refine hK _ _ ?_; clear hK K
  refine wl_e rfl ?_; intro K hK
  refine ow_storeA hS 0 rfl ts_64 (tmP rfl rfl) (tmA rfl rfl) rfl rfl rfl ?_
  clear hS; intro w hS
  try replace hS := St.nm (M' := [.blk _ _ [_, _, _, _, _, _, _, _, _, _, _, _, _, _, _, _], _, .row _ _ _ _ _, .blk _ _ [_, _, _, _, _, _, _, _, _, _, _, _, _, _, _, _], .vw _ _]) hS rfl
  refine hK _ _ ?_; clear hK K
  refine wl_nil ?_
  refine then_n (hK7 _ _ ?_); clear hK7 K7
  refine wp_seq_k ?_; intro K8 hK8
  refine wlit ?_
  refine wl_v (x_move (tmP rfl rfl)) ?_
  refine wl_e rfl ?_; intro K hK
  refine ow_call Try.func15 rfl rfl (evs_cons (tmP rfl rfl) <| evs_nil) (word_c gr A0 _ _ n _ l false _ _ (hS.enter [1] [2] rfl rfl) hA (by omega) hcp hl hb) ?_
  rintro e w ⟨A1, c1, rfl, hS2, hA, hcp⟩
  refine ⟨_, rfl, ?_⟩
  replace hS := hS.turn 1 rfl rfl hS2 rfl
  clear hS2
  try replace hS := St.nm (M' := [.blk _ _ [_, _, _, _, _, _, _, _, _, _, _, _, _, _, _, _], _, .row _ _ _ _ _, .blk _ _ [_, _, _, _, _, _, _, _, _, _, _, _, _, _, _, _], .vw _ _]) hS rfl
  refine hK _ _ ?_; clear hK K
  refine wl_v (x_assign (tmI rfl rfl)) ?_
  refine wl_nil ?_
  refine then_n (hK8 _ _ ?_); clear hK8 K8
  refine wp_seq_k ?_; intro K9 hK9
  refine wp_seq_k ?_; intro K10 hK10
  refine wlit ?_
  refine wl_v (x_move (tmI rfl rfl)) ?_
  refine wl_v (x_shrN (tmI rfl rfl) (ev_cN 4) (fit_u8 (by omega))) ?_
  refine wl_v (x_neq (tmI rfl rfl) (ev_cN 4)) ?_
  refine wl_v (x_move (tmB rfl rfl)) ?_
  refine gs_wl (tm (t := 35) rfl) (fun hg8_3 => ?_) (fun hg8_3 => ?_)
  · have hg8_3' := hg8_3; (try simp only [nrm] at hg8_3')
    refine wl_s rfl (want_n rfl rfl rfl rfl (by rw [hg8_3]; rfl)) ?_
    refine wl_s rfl (want_n rfl rfl rfl rfl (by rw [hg8_3]; rfl)) ?_
    refine wl_v (x_pickT (tmB rfl rfl) hg8_3 ev_c) ?_
    refine wl_v (x_move (tmB rfl rfl)) ?_
    refine wl_s rfl (want_n rfl rfl rfl rfl rfl) ?_
    refine wl_s rfl (want_n rfl rfl rfl rfl rfl) ?_
    refine wl_s rfl (want_n rfl rfl rfl rfl rfl) ?_
    refine wl_v (x_pickT (tmB rfl rfl) rfl ev_c) ?_
    refine wl_v (x_move (tmB rfl rfl)) ?_
    refine wl_s rfl (want_n rfl rfl rfl rfl rfl) ?_
    refine wl_s rfl (want_n rfl rfl rfl rfl rfl) ?_
    refine wl_s rfl (want_n rfl rfl rfl rfl rfl) ?_
    refine wl_s rfl (want_n rfl rfl rfl rfl rfl) ?_
    refine wl_v (x_pickT (tmB rfl rfl) rfl ev_c) ?_
    refine wl_nil ?_
    refine then_n (hK10 _ _ ?_); clear hK10 K10
    refine cnd_t (tmB rfl rfl) rfl ?_
    refine wp_seq_k ?_; intro K11 hK11
    refine wlit ?_
    refine wl_v (x_build (bc_skip (.int .u8 0) <| bc_skip (.int .i64 0) <| bc_skip (.int .u16 0) <| bc_skip (.bool false) <| bc_skip (.bool false) <| bc_skip (.int .i64 0) <| bc_skip (.int .u8 0) <| bc_skip (.int .u8 0) <| bc_skip (.int .u16 0) <| bc_skipL [.bool false, .int .u64 0, .int .u64 0] <| bc_skipL [.bool false, .int .u64 0, .int .u64 0] <| bc_skip (.slice none 0 0) <| bc_nil) (by kernel_rfl)) ?_
    refine wl_e rfl ?_; intro K hK
    refine ow_storeA hS 3 rfl ts_64 (tmP rfl rfl) (tmA rfl rfl) rfl rfl rfl ?_
    clear hS; intro w hS
    try replace hS := St.nm (M' := [.blk _ _ [_, _, _, _, _, _, _, _, _, _, _, _, _, _, _, _], _, .row _ _ _ _ _, .blk _ _ [_, _, _, _, _, _, _, _, _, _, _, _, _, _, _, _], .vw _ _]) hS rfl
    refine hK _ _ ?_; clear hK K
    refine wl_v (x_assign ev_c) ?_
    refine wl_v (x_assign (ev_cN 21)) ?_
    refine wl_nil ?_
    refine then_n (hK11 _ _ ?_); clear hK11 K11
    refine wp_ret ?_
    refine then_r ?_
    refine ret3 rfl (.cell rfl rfl (load_rowB (cs := [_, _, _, _, _, _, _, _, _, _, _, _, _, _, _, _]) hS.ok 3 rfl Try.underlying64 rfl ts_64 rfl)) (.tmp rfl (show _ = Value.slice _ _ _ from rfl)) (.tmp rfl (show _ = Value.int _ _ from rfl)) ?_
    cases h with
    | short _ => omega
    | form h1 h2 => first | exact ⟨rfl, hS.kp⟩ | omega
    | cut hf h2 =>
      obtain ⟨a1, a2, a3, a4, a5, a6, a7⟩ := hf
      first | exact ⟨rfl, hS.kp⟩ | (exfalso; omega)
    | sum hf h2 h3 =>
      obtain ⟨a1, a2, a3, a4, a5, a6, a7⟩ := hf
      first | exact ⟨rfl, hS.kp⟩ | (exfalso; omega)
  have hg8_3' := hg8_3; (try simp only [nrm] at hg8_3')
  refine wl_gv (want_y rfl rfl rfl rfl (by rw [hg8_3]; rfl)) (x_move (tmI rfl rfl)) ?_
  refine wl_gv (want_y rfl rfl rfl rfl (by rw [hg8_3]; rfl)) (x_lss (tmI rfl rfl) (ev_cN 20)) ?_
  refine wl_v (x_pickF (tmB rfl rfl) hg8_3 (tmB rfl rfl)) ?_
  refine wl_v (x_move (tmB rfl rfl)) ?_
  refine gs_wl (tm (t := 39) rfl) (fun hg8_7 => ?_) (fun hg8_7 => ?_)
  · have hg8_7' := hg8_7; (try simp only [nrm] at hg8_7')
    refine wl_s rfl (want_n rfl rfl rfl rfl (by rw [hg8_7]; rfl)) ?_
    refine wl_s rfl (want_n rfl rfl rfl rfl (by rw [hg8_7]; rfl)) ?_
    refine wl_s rfl (want_n rfl rfl rfl rfl (by rw [hg8_7]; rfl)) ?_
    refine wl_v (x_pickT (tmB rfl rfl) hg8_7 ev_c) ?_
    refine wl_v (x_move (tmB rfl rfl)) ?_
    refine wl_s rfl (want_n rfl rfl rfl rfl rfl) ?_
    refine wl_s rfl (want_n rfl rfl rfl rfl rfl) ?_
    refine wl_s rfl (want_n rfl rfl rfl rfl rfl) ?_
    refine wl_s rfl (want_n rfl rfl rfl rfl rfl) ?_
    refine wl_v (x_pickT (tmB rfl rfl) rfl ev_c) ?_
    refine wl_nil ?_
    refine then_n (hK10 _ _ ?_); clear hK10 K10
    refine cnd_t (tmB rfl rfl) rfl ?_
    refine wp_seq_k ?_; intro K13 hK13
    refine wlit ?_
    refine wl_v (x_build (bc_skip (.int .u8 0) <| bc_skip (.int .i64 0) <| bc_skip (.int .u16 0) <| bc_skip (.bool false) <| bc_skip (.bool false) <| bc_skip (.int .i64 0) <| bc_skip (.int .u8 0) <| bc_skip (.int .u8 0) <| bc_skip (.int .u16 0) <| bc_skipL [.bool false, .int .u64 0, .int .u64 0] <| bc_skipL [.bool false, .int .u64 0, .int .u64 0] <| bc_skip (.slice none 0 0) <| bc_nil) (by kernel_rfl)) ?_
    refine wl_e rfl ?_; intro K hK
    refine ow_storeA hS 3 rfl ts_64 (tmP rfl rfl) (tmA rfl rfl) rfl rfl rfl ?_
    clear hS; intro w hS
    try replace hS := St.nm (M' := [.blk _ _ [_, _, _, _, _, _, _, _, _, _, _, _, _, _, _, _], _, .row _ _ _ _ _, .blk _ _ [_, _, _, _, _, _, _, _, _, _, _, _, _, _, _, _], .vw _ _]) hS rfl
    refine hK _ _ ?_; clear hK K
    refine wl_v (x_assign ev_c) ?_
    refine wl_v (x_assign (ev_cN 21)) ?_
    refine wl_nil ?_
    refine then_n (hK13 _ _ ?_); clear hK13 K13
    refine wp_ret ?_
    refine then_r ?_
    refine ret3 rfl (.cell rfl rfl (load_rowB (cs := [_, _, _, _, _, _, _, _, _, _, _, _, _, _, _, _]) hS.ok 3 rfl Try.underlying64 rfl ts_64 rfl)) (.tmp rfl (show _ = Value.slice _ _ _ from rfl)) (.tmp rfl (show _ = Value.int _ _ from rfl)) ?_
    cases h with
    | short _ => omega
    | form h1 h2 => first | exact ⟨rfl, hS.kp⟩ | omega
    | cut hf h2 =>
      obtain ⟨a1, a2, a3, a4, a5, a6, a7⟩ := hf
      first | exact ⟨rfl, hS.kp⟩ | (exfalso; omega)
    | sum hf h2 h3 =>
      obtain ⟨a1, a2, a3, a4, a5, a6, a7⟩ := hf
      first | exact ⟨rfl, hS.kp⟩ | (exfalso; omega)
  have hg8_7' := hg8_7; (try simp only [nrm] at hg8_7')
  refine wl_gv (want_y rfl rfl rfl rfl (by rw [hg8_7]; rfl)) (x_move (tmI rfl rfl)) ?_
  refine wl_gv (want_y rfl rfl rfl rfl (by rw [hg8_7]; rfl)) (x_andN (tmI rfl rfl) (ev_cN 32768) (fit_u16 (by omega)) (fit_u16 (by omega))) ?_
  refine wl_gv (want_y rfl rfl rfl rfl (by rw [hg8_7]; rfl)) (x_neq (tmI rfl rfl) (ev_cN 0)) ?_
  refine wl_v (x_pickF (tmB rfl rfl) hg8_7 (tmB rfl rfl)) ?_
  refine wl_v (x_move (tmB rfl rfl)) ?_
  refine gs_wl (tm (t := 44) rfl) (fun hg8_12 => ?_) (fun hg8_12 => ?_)
  · have hg8_12' := hg8_12; (try simp only [nrm] at hg8_12')
    refine wl_s rfl (want_n rfl rfl rfl rfl (by rw [hg8_12]; rfl)) ?_
    refine wl_s rfl (want_n rfl rfl rfl rfl (by rw [hg8_12]; rfl)) ?_
    refine wl_s rfl (want_n rfl rfl rfl rfl (by rw [hg8_12]; rfl)) ?_
    refine wl_s rfl (want_n rfl rfl rfl rfl (by rw [hg8_12]; rfl)) ?_
    refine wl_v (x_pickT (tmB rfl rfl) hg8_12 ev_c) ?_
    refine wl_nil ?_
    refine then_n (hK10 _ _ ?_); clear hK10 K10
    refine cnd_t (tmB rfl rfl) rfl ?_
    refine wp_seq_k ?_; intro K15 hK15
    refine wlit ?_
    refine wl_v (x_build (bc_skip (.int .u8 0) <| bc_skip (.int .i64 0) <| bc_skip (.int .u16 0) <| bc_skip (.bool false) <| bc_skip (.bool false) <| bc_skip (.int .i64 0) <| bc_skip (.int .u8 0) <| bc_skip (.int .u8 0) <| bc_skip (.int .u16 0) <| bc_skipL [.bool false, .int .u64 0, .int .u64 0] <| bc_skipL [.bool false, .int .u64 0, .int .u64 0] <| bc_skip (.slice none 0 0) <| bc_nil) (by kernel_rfl)) ?_
    refine wl_e rfl ?_; intro K hK
    refine ow_storeA hS 3 rfl ts_64 (tmP rfl rfl) (tmA rfl rfl) rfl rfl rfl ?_
    clear hS; intro w hS
    try replace hS := St.nm (M' := [.blk _ _ [_, _, _, _, _, _, _, _, _, _, _, _, _, _, _, _], _, .row _ _ _ _ _, .blk _ _ [_, _, _, _, _, _, _, _, _, _, _, _, _, _, _, _], .vw _ _]) hS rfl
    refine hK _ _ ?_; clear hK K
    refine wl_v (x_assign ev_c) ?_
    refine wl_v (x_assign (ev_cN 21)) ?_
    refine wl_nil ?_
    refine then_n (hK15 _ _ ?_); clear hK15 K15
    refine wp_ret ?_
    refine then_r ?_
    refine ret3 rfl (.cell rfl rfl (load_rowB (cs := [_, _, _, _, _, _, _, _, _, _, _, _, _, _, _, _]) hS.ok 3 rfl Try.underlying64 rfl ts_64 rfl)) (.tmp rfl (show _ = Value.slice _ _ _ from rfl)) (.tmp rfl (show _ = Value.int _ _ from rfl)) ?_
    cases h with
    | short _ => omega
    | form h1 h2 => first | exact ⟨rfl, hS.kp⟩ | omega
    | cut hf h2 =>
      obtain ⟨a1, a2, a3, a4, a5, a6, a7⟩ := hf
      first | exact ⟨rfl, hS.kp⟩ | (exfalso; omega)
    | sum hf h2 h3 =>
      obtain ⟨a1, a2, a3, a4, a5, a6, a7⟩ := hf
      first | exact ⟨rfl, hS.kp⟩ | (exfalso; omega)
  have hg8_12' := hg8_12; (try simp only [nrm] at hg8_12')
  refine wl_gv (want_y rfl rfl rfl rfl (by rw [hg8_12]; rfl)) (x_fa 1 Try.underlying64 rfl rfl ts_3 (tmP rfl rfl)) ?_
  refine wl_gv (want_y rfl rfl rfl rfl (by rw [hg8_12]; rfl)) (x_load Try.underlying3 rfl (tmP rfl rfl) (cellB hS.ok 0 rfl rfl)) ?_
  refine wl_gv (want_y rfl rfl rfl rfl (by rw [hg8_12]; rfl)) (x_move (tmI rfl rfl)) ?_
  refine wl_gv (want_y rfl rfl rfl rfl (by rw [hg8_12]; rfl)) (x_lss (tmI rfl rfl) (tmI rfl rfl)) ?_
  refine wl_v (x_pickF (tmB rfl rfl) hg8_12 (tmB rfl rfl)) ?_
  refine wl_nil ?_
  refine then_n (hK10 _ _ ?_); clear hK10 K10
  refine cnd (tm rfl) (fun hc1 => ?_) (fun hc1 => ?_)
  · skip
    try simp only [nrm] at hc1
    refine wp_seq_k ?_; intro K17 hK17
    refine wlit ?_
    refine wl_v (x_build (bc_skip (.int .u8 0) <| bc_skip (.int .i64 0) <| bc_skip (.int .u16 0) <| bc_skip (.bool false) <| bc_skip (.bool false) <| bc_skip (.int .i64 0) <| bc_skip (.int .u8 0) <| bc_skip (.int .u8 0) <| bc_skip (.int .u16 0) <| bc_skipL [.bool false, .int .u64 0, .int .u64 0] <| bc_skipL [.bool false, .int .u64 0, .int .u64 0] <| bc_skip (.slice none 0 0) <| bc_nil) (by kernel_rfl)) ?_
    refine wl_e rfl ?_; intro K hK
    refine ow_storeA hS 3 rfl ts_64 (tmP rfl rfl) (tmA rfl rfl) rfl rfl rfl ?_
    clear hS; intro w hS
    try replace hS := St.nm (M' := [.blk _ _ [_, _, _, _, _, _, _, _, _, _, _, _, _, _, _, _], _, .row _ _ _ _ _, .blk _ _ [_, _, _, _, _, _, _, _, _, _, _, _, _, _, _, _], .vw _ _]) hS rfl
    refine hK _ _ ?_; clear hK K
    refine wl_v (x_assign ev_c) ?_
    refine wl_v (x_assign (ev_cN 21)) ?_
    refine wl_nil ?_
    refine then_n (hK17 _ _ ?_); clear hK17 K17
    refine wp_ret ?_
    refine then_r ?_
    refine ret3 rfl (.cell rfl rfl (load_rowB (cs := [_, _, _, _, _, _, _, _, _, _, _, _, _, _, _, _]) hS.ok 3 rfl Try.underlying64 rfl ts_64 rfl)) (.tmp rfl (show _ = Value.slice _ _ _ from rfl)) (.tmp rfl (show _ = Value.int _ _ from rfl)) ?_
    cases h with
    | short _ => omega
    | form h1 h2 => first | exact ⟨rfl, hS.kp⟩ | omega
    | cut hf h2 =>
      obtain ⟨a1, a2, a3, a4, a5, a6, a7⟩ := hf
      first | exact ⟨rfl, hS.kp⟩ | (exfalso; omega)
    | sum hf h2 h3 =>
      obtain ⟨a1, a2, a3, a4, a5, a6, a7⟩ := hf
      first | exact ⟨rfl, hS.kp⟩ | (exfalso; omega)
  try simp only [nrm] at hc1
  refine wp_skip ?_
  refine then_n (hK9 _ _ ?_); clear hK9 K9
  refine wp_seq_k ?_; intro K19 hK19
  refine wp_seq_k ?_; intro K20 hK20
  refine wlit ?_
  refine wl_v (x_move (tmS rfl rfl)) ?_
  refine wl_v (x_len Try.underlying22 (tmS rfl rfl)) ?_
  refine wl_v (x_fa 1 Try.underlying64 rfl rfl ts_3 (tmP rfl rfl)) ?_
  refine wl_v (x_load Try.underlying3 rfl (tmP rfl rfl) (cellB hS.ok 0 rfl rfl)) ?_
  refine wl_v (x_lss (tmI rfl rfl) (tmI rfl rfl)) ?_
  refine wl_nil ?_
  refine then_n (hK20 _ _ ?_); clear hK20 K20
  refine cnd (tm rfl) (fun hc2 => ?_) (fun hc2 => ?_)
  · skip
    try simp only [nrm] at hc2
    refine wp_seq_k ?_; intro K21 hK21
    refine wlit ?_
    refine wl_v (x_build (bc_skip (.int .u8 0) <| bc_skip (.int .i64 0) <| bc_skip (.int .u16 0) <| bc_skip (.bool false) <| bc_skip (.bool false) <| bc_skip (.int .i64 0) <| bc_skip (.int .u8 0) <| bc_skip (.int .u8 0) <| bc_skip (.int .u16 0) <| bc_skipL [.bool false, .int .u64 0, .int .u64 0] <| bc_skipL [.bool false, .int .u64 0, .int .u64 0] <| bc_skip (.slice none 0 0) <| bc_nil) (by kernel_rfl)) ?_
    refine wl_e rfl ?_; intro K hK
    refine ow_storeA hS 3 rfl ts_64 (tmP rfl rfl) (tmA rfl rfl) rfl rfl rfl ?_
    clear hS; intro w hS
    try replace hS := St.nm (M' := [.blk _ _ [_, _, _, _, _, _, _, _, _, _, _, _, _, _, _, _], _, .row _ _ _ _ _, .blk _ _ [_, _, _, _, _, _, _, _, _, _, _, _, _, _, _, _], .vw _ _]) hS rfl
    refine hK _ _ ?_; clear hK K
    refine wl_v (x_assign ev_c) ?_
    refine wl_v (x_assign (ev_cN 20)) ?_
    refine wl_nil ?_
    refine then_n (hK21 _ _ ?_); clear hK21 K21
    refine wp_ret ?_
    refine then_r ?_
    refine ret3 rfl (.cell rfl rfl (load_rowB (cs := [_, _, _, _, _, _, _, _, _, _, _, _, _, _, _, _]) hS.ok 3 rfl Try.underlying64 rfl ts_64 rfl)) (.tmp rfl (show _ = Value.slice _ _ _ from rfl)) (.tmp rfl (show _ = Value.int _ _ from rfl)) ?_
    cases h with
    | short _ => omega
    | form h1 h2 => first | exact ⟨rfl, hS.kp⟩ | omega
    | cut hf h2 =>
      obtain ⟨a1, a2, a3, a4, a5, a6, a7⟩ := hf
      first | exact ⟨rfl, hS.kp⟩ | (exfalso; omega)
    | sum hf h2 h3 =>
      obtain ⟨a1, a2, a3, a4, a5, a6, a7⟩ := hf
      first | exact ⟨rfl, hS.kp⟩ | (exfalso; omega)
  try simp only [nrm] at hc2
  refine wp_skip ?_
  refine then_n (hK19 _ _ ?_); clear hK19 K19
  refine wp_seq_k ?_; intro K23 hK23
  refine wp_seq_k ?_; intro K24 hK24
  refine wlit ?_
  refine wl_v (x_move (tmS rfl rfl)) ?_
  refine wl_v (x_move (tmI rfl rfl)) ?_
  refine wl_v (x_sliceH Try.underlying22 ts_5 (tmS rfl rfl) (tmI rfl rfl) (by omega)) ?_
  replace hS := hS.cutb 4 0 sz rfl (by omega : l.length ≤ c)
  refine wl_e rfl ?_; intro K hK
  refine ow_build hS Try.underlying126 tz_22 (bc_take (tmS rfl rfl) <| bc_nil) rfl rfl (by kernel_rfl) ?_
  clear hS; intro g12_3 w hg12_3 hS
  refine hK _ _ ?_; clear hK K
  refine wl_e rfl ?_; intro K hK
  refine ow_call Try.func76 rfl rfl (evs_cons (tmS rfl rfl) <| evs_nil) (sum_right_c _ sz _ (l.take sz) _ _ (viewB hS.ok 0 rfl) (viewV hS.ok 1 rfl) (htl (by omega)) (hb.take sz) (by omega) _) ?_
  rintro e w ⟨rfl, hk⟩
  refine ⟨_, rfl, ?_⟩
  replace hS := hS.kept hk
  clear hk
  refine hK _ _ ?_; clear hK K
  refine wl_v (x_not (tmB rfl rfl)) ?_
  refine wl_nil ?_
  refine then_n (hK24 _ _ ?_); clear hK24 K24
  refine cnds (tm rfl) (fun hc3 => ?_) (fun hc3 => ?_)
  · exfalso
    simp at hc3
    cases h with
    | short _ => omega
    | form h1 h2 => omega
    | cut hf h2 => obtain ⟨a1, a2, a3, a4, a5, a6, a7⟩ := hf; omega
    | sum hf h2 h3 =>
      obtain ⟨a1, a2, a3, a4, a5, a6, a7⟩ := hf
      obtain rfl : sz = _ := hsz.symm.trans a3
      exact h3 hc3
  try simp only [nrm] at hc3
  have hx3 : ¬ SumOk l sz := by unfold SumOk; simpa using hc3
  refine wp_seq_k ?_; intro K25 hK25
  refine wlit ?_
  refine wl_v (x_build (bc_skip (.int .u8 0) <| bc_skip (.int .i64 0) <| bc_skip (.int .u16 0) <| bc_skip (.bool false) <| bc_skip (.bool false) <| bc_skip (.int .i64 0) <| bc_skip (.int .u8 0) <| bc_skip (.int .u8 0) <| bc_skip (.int .u16 0) <| bc_skipL [.bool false, .int .u64 0, .int .u64 0] <| bc_skipL [.bool false, .int .u64 0, .int .u64 0] <| bc_skip (.slice none 0 0) <| bc_nil) (by kernel_rfl)) ?_
  refine wl_e rfl ?_; intro K hK
  refine ow_storeA hS 5 rfl ts_64 (tmP rfl rfl) (tmA rfl rfl) rfl rfl rfl ?_
  clear hS; intro w hS
  try replace hS := St.nm (M' := [_, .vw _ _, .blk _ _ [_, _, _, _, _, _, _, _, _, _, _, _, _, _, _, _], _, .row _ _ _ _ _, .blk _ _ [_, _, _, _, _, _, _, _, _, _, _, _, _, _, _, _], .vw _ _]) hS rfl
  refine hK _ _ ?_; clear hK K
  refine wl_v (x_assign ev_c) ?_
  refine wl_v (x_assign (ev_cN 22)) ?_
  refine wl_nil ?_
  refine then_n (hK25 _ _ ?_); clear hK25 K25
  refine wp_ret ?_
  refine then_r ?_
  refine ret3 rfl (.cell rfl rfl (load_rowB (cs := [_, _, _, _, _, _, _, _, _, _, _, _, _, _, _, _]) hS.ok 5 rfl Try.underlying64 rfl ts_64 rfl)) (.tmp rfl (show _ = Value.slice _ _ _ from rfl)) (.tmp rfl (show _ = Value.int _ _ from rfl)) ?_
  cases h with
  | short _ => omega
  | form h1 h2 => first | exact ⟨rfl, hS.kp⟩ | omega
  | cut hf h2 =>
    obtain ⟨a1, a2, a3, a4, a5, a6, a7⟩ := hf
    first | exact ⟨rfl, hS.kp⟩ | (exfalso; omega)
  | sum hf h2 h3 =>
    obtain ⟨a1, a2, a3, a4, a5, a6, a7⟩ := hf
    first | exact ⟨rfl, hS.kp⟩ | (exfalso; omega)

set_option maxRecDepth 100000 in
set_option maxHeartbeats 8000000 in
theorem rip4_parse_bad (n : Nat) (A : Option Addr) (c : Nat) (l : List Nat) (w0 : World) (hv : View w0 w0.heap.size A (l.map u8v)) (hl : l.length = n) (hc : n ≤ c) (hb : Bytes l) (hn4 : n ≤ 1000000) (er : Nat) (h : Ip4Bad l n er) :
    Calls Try.prog 38 #[.slice A n c] w0 fun e w' => e = .returned (.tuple #[.agg (hdV 0 0 0 false false 0 0 0 0 ad0 ad0 none 0 0).toArray, .slice none 0 0, .int .i64 (er : Int)]) ∧ Kp [] w0 w' := by
  have hS := (St.sv w0).vcons rfl hv
  by_cases h20 : n < 20
  · obtain rfl : er = 20 := by
      cases h with
      | short _ => rfl
      | form h1 _ => omega
      | cut hf _ => have := hf.n20; omega
      | sum hf _ _ => have := hf.n20; omega
    refine ent (n := 103) Try.func38 rfl rfl ?_
    refine wp_seq_k ?_; intro K1 hK1
    refine wlit ?_
    refine wl_e rfl ?_; intro K hK
    refine ow_alloc hS tz_102 rfl ?_
    clear hS; intro g0_0 w hg0_0 hS
    refine hK _ _ ?_; clear hK K
    refine wl_v (x_assign ev_c) ?_
    refine wl_v (x_assign (ev_cN 0)) ?_
    refine wl_nil ?_
    refine then_n (hK1 _ _ ?_); clear hK1 K1
    refine wp_seq_k ?_; intro K2 hK2
    refine wp_seq_k ?_; intro K3 hK3
    refine wlit ?_
    refine wl_v (x_move (tmS rfl rfl)) ?_
    refine wl_v (x_len Try.underlying22 (tmS rfl rfl)) ?_
    refine wl_v (x_lss (tmI rfl rfl) (ev_cN 20)) ?_
    refine wl_nil ?_
    refine then_n (hK3 _ _ ?_); clear hK3 K3
    refine cnds (tm rfl) (fun hc0 => ?_) (fun hc0 => ?_)
    · exfalso
      simp only [nrm] at hc0
      omega
    try simp only [nrm] at hc0
    refine wp_seq_k ?_; intro K4 hK4
    refine wlit ?_
    refine wl_v (x_build (bc_skip (.int .u8 0) <| bc_skip (.int .i64 0) <| bc_skip (.int .u16 0) <| bc_skip (.bool false) <| bc_skip (.bool false) <| bc_skip (.int .i64 0) <| bc_skip (.int .u8 0) <| bc_skip (.int .u8 0) <| bc_skip (.int .u16 0) <| bc_skipL [.bool false, .int .u64 0, .int .u64 0] <| bc_skipL [.bool false, .int .u64 0, .int .u64 0] <| bc_skip (.slice none 0 0) <| bc_nil) (by kernel_rfl)) ?_
    refine wl_e rfl ?_; intro K hK
    refine ow_storeA hS 0 rfl ts_102 (tmP rfl rfl) (tmA rfl rfl) rfl rfl rfl ?_
    clear hS; intro w hS
    try replace hS := St.nm (M' := [.blk _ _ [_, _, _, _, _, _, _, _, _, _, _, _, _, _, _, _], .vw _ _]) hS rfl
    refine hK _ _ ?_; clear hK K
    refine wl_v (x_assign ev_c) ?_
    refine wl_v (x_assign (ev_cN 20)) ?_
    refine wl_nil ?_
    refine then_n (hK4 _ _ ?_); clear hK4 K4
    refine wp_ret ?_
    refine then_r ?_
    refine ret3 rfl (.cell rfl rfl (load_rowB (cs := [_, _, _, _, _, _, _, _, _, _, _, _, _, _, _, _]) hS.ok 0 rfl Try.underlying102 rfl ts_102 rfl)) (.tmp rfl (show _ = Value.slice _ _ _ from rfl)) (.tmp rfl (show _ = Value.int _ _ from rfl)) ?_
    exact ⟨rfl, hS.kp⟩
  have hq : l.getD 0 0 = nth l 0 := rfl
  have hqb := nth_lt hb 0
  obtain ⟨sz, hsz⟩ : ∃ sz, nth l 0 % 16 * 4 = sz := ⟨_, rfl⟩
  obtain ⟨len, hle⟩ : ∃ len, getN l 2 2 = len := ⟨_, rfl⟩
  have hz : l.getD 0 0 % 16 * 4 = sz := hsz
  have hfl := getN_lt hb 6 2
  have hle2 := getN_lt hb 2 2
  have h4_ := getN_lt hb 4 2
  have h10_ := getN_lt hb 10 2
  have h12_ := getN_lt hb 12 4
  have h16_ := getN_lt hb 16 4
  have htl : sz ≤ n → (l.take sz).length = sz := fun h => by rw [List.length_take]; omega
  obtain ⟨b4, o4, rfl⟩ := view_some hv (by rw [List.length_map]; omega)
  refine ent (n := 103) Try.func38 rfl rfl ?_
  refine wp_seq_k ?_; intro K1 hK1
  refine wlit ?_
  refine wl_e rfl ?_; intro K hK
  refine ow_alloc hS tz_102 rfl ?_
  clear hS; intro g0_0 w hg0_0 hS
  refine hK _ _ ?_; clear hK K
  refine wl_v (x_assign ev_c) ?_
  refine wl_v (x_assign (ev_cN 0)) ?_
  refine wl_nil ?_
  refine then_n (hK1 _ _ ?_); clear hK1 K1
  refine wp_seq_k ?_; intro K2 hK2
  refine wp_seq_k ?_; intro K3 hK3
  refine wlit ?_
  refine wl_v (x_move (tmS rfl rfl)) ?_
  refine wl_v (x_len Try.underlying22 (tmS rfl rfl)) ?_
  refine wl_v (x_lss (tmI rfl rfl) (ev_cN 20)) ?_
  refine wl_nil ?_
  refine then_n (hK3 _ _ ?_); clear hK3 K3
  refine cnd (tm rfl) (fun hc0 => ?_) (fun hc0 => ?_)
  · exfalso
    simp only [nrm] at hc0
    omega
  try simp only [nrm] at hc0
  refine wp_skip ?_
  refine then_n (hK2 _ _ ?_); clear hK2 K2
  refine wp_seq_k ?_; intro K4 hK4
  refine wlit ?_
  refine wl_v (x_move (tmS rfl rfl)) ?_
  refine wl_v (x_ixs1 Try.underlying22 ts_5 (tmS rfl rfl) (ev_cN 0) (by omega)) ?_
  refine wl_v (x_load Try.underlying5 rfl (tmP rfl rfl) (cellV hS.ok 1 rfl (getm (by omega)))) ?_
  refine wl_v (x_remN (tmI rfl rfl) (ev_cN 16) (by omega)) ?_
  refine wl_v (x_convN Try.underlying5 Try.underlying3 (tmI rfl rfl) (fit_i64 (by omega))) ?_
  refine wl_v (x_mulN (tmI rfl rfl) (ev_cN 4) (fit_i64 (by omega))) ?_
  refine wl_v (x_assign (tmI rfl (congrArg (fun q : Nat => Value.int .i64 (q : Int)) hz))) ?_
  refine wl_nil ?_
  refine then_n (hK4 _ _ ?_); clear hK4 K4
  refine wp_seq_k ?_; intro K5 hK5
  refine wp_seq_k ?_; intro K6 hK6
  refine wlit ?_
  refine wl_v (x_move (tmS rfl rfl)) ?_
  refine wl_v (x_ixs1 Try.underlying22 ts_5 (tmS rfl rfl) (ev_cN 0) (by omega)) ?_
  refine wl_v (x_load Try.underlying5 rfl (tmP rfl rfl) (cellV hS.ok 1 rfl (getm (by omega)))) ?_
  refine wl_v (x_quoN (tmI rfl rfl) (ev_cN 16) (by omega) (fit_u8 (by omega))) ?_
  refine wl_v (x_neq (tmI rfl rfl) (ev_cN 4)) ?_
  refine wl_v (x_move (tmB rfl rfl)) ?_
  refine gs_wl (tm (t := 23) rfl) (fun hg4_5 => ?_) (fun hg4_5 => ?_)
  · have hg4_5' := hg4_5; (try simp only [nrm] at hg4_5')
    refine wl_s rfl (want_n rfl rfl rfl rfl (by rw [hg4_5]; rfl)) ?_
    refine wl_s rfl (want_n rfl rfl rfl rfl (by rw [hg4_5]; rfl)) ?_
    refine wl_v (x_pickT (tmB rfl rfl) hg4_5 ev_c) ?_
    refine wl_nil ?_
    refine then_n (hK6 _ _ ?_); clear hK6 K6
    refine cnd_t (tmB rfl rfl) rfl ?_
    refine wp_seq_k ?_; intro K7 hK7
    refine wlit ?_
    refine wl_v (x_build (bc_skip (.int .u8 0) <| bc_skip (.int .i64 0) <| bc_skip (.int .u16 0) <| bc_skip (.bool false) <| bc_skip (.bool false) <| bc_skip (.int .i64 0) <| bc_skip (.int .u8 0) <| bc_skip (.int .u8 0) <| bc_skip (.int .u16 0) <| bc_skipL [.bool false, .int .u64 0, .int .u64 0] <| bc_skipL [.bool false, .int .u64 0, .int .u64 0] <| bc_skip (.slice none 0 0) <| bc_nil) (by kernel_rfl)) ?_
    refine wl_e rfl ?_; intro K hK
    refine ow_storeA hS 0 rfl ts_102 (tmP rfl rfl) (tmA rfl rfl) rfl rfl rfl ?_
    clear hS; intro w hS
    try replace hS := St.nm (M' := [.blk _ _ [_, _, _, _, _, _, _, _, _, _, _, _, _, _, _, _], .vw _ _]) hS rfl
    refine hK _ _ ?_; clear hK K
    refine wl_v (x_assign ev_c) ?_
    refine wl_v (x_assign (ev_cN 21)) ?_
    refine wl_nil ?_
    refine then_n (hK7 _ _ ?_); clear hK7 K7
    refine wp_ret ?_
    refine then_r ?_
    refine ret3 rfl (.cell rfl rfl (load_rowB (cs := [_, _, _, _, _, _, _, _, _, _, _, _, _, _, _, _]) hS.ok 0 rfl Try.underlying102 rfl ts_102 rfl)) (.tmp rfl (show _ = Value.slice _ _ _ from rfl)) (.tmp rfl (show _ = Value.int _ _ from rfl)) ?_
    cases h with
    | short _ => omega
    | form h1 h2 => first | exact ⟨rfl, hS.kp⟩ | omega
    | cut hf h2 =>
      obtain ⟨a1, a2, a3, a4, a5, a6, a7⟩ := hf
      first | exact ⟨rfl, hS.kp⟩ | (exfalso; omega)
    | sum hf h2 h3 =>
      obtain ⟨a1, a2, a3, a4, a5, a6, a7⟩ := hf
      first | exact ⟨rfl, hS.kp⟩ | (exfalso; omega)
  have hg4_5' := hg4_5; (try simp only [nrm] at hg4_5')
  refine wl_gv (want_y rfl rfl rfl rfl (by rw [hg4_5]; rfl)) (x_move (tmI rfl rfl)) ?_
  refine wl_gv (want_y rfl rfl rfl rfl (by rw [hg4_5]; rfl)) (x_lss (tmI rfl rfl) (ev_cN 20)) ?_
  refine wl_v (x_pickF (tmB rfl rfl) hg4_5 (tmB rfl rfl)) ?_
  refine wl_nil ?_
  refine then_n (hK6 _ _ ?_); clear hK6 K6
  refine cnd (tm rfl) (fun hc1 => ?_) (fun hc1 => ?_)
  · skip
    try simp only [nrm] at hc1
    refine wp_seq_k ?_; intro K9 hK9
    refine wlit ?_
    refine wl_v (x_build (bc_skip (.int .u8 0) <| bc_skip (.int .i64 0) <| bc_skip (.int .u16 0) <| bc_skip (.bool false) <| bc_skip (.bool false) <| bc_skip (.int .i64 0) <| bc_skip (.int .u8 0) <| bc_skip (.int .u8 0) <| bc_skip (.int .u16 0) <| bc_skipL [.bool false, .int .u64 0, .int .u64 0] <| bc_skipL [.bool false, .int .u64 0, .int .u64 0] <| bc_skip (.slice none 0 0) <| bc_nil) (by kernel_rfl)) ?_
    refine wl_e rfl ?_; intro K hK
    refine ow_storeA hS 0 rfl ts_102 (tmP rfl rfl) (tmA rfl rfl) rfl rfl rfl ?_
    clear hS; intro w hS
    try replace hS := St.nm (M' := [.blk _ _ [_, _, _, _, _, _, _, _, _, _, _, _, _, _, _, _], .vw _ _]) hS rfl
    refine hK _ _ ?_; clear hK K
    refine wl_v (x_assign ev_c) ?_
    refine wl_v (x_assign (ev_cN 21)) ?_
    refine wl_nil ?_
    refine then_n (hK9 _ _ ?_); clear hK9 K9
    refine wp_ret ?_
    refine then_r ?_
    refine ret3 rfl (.cell rfl rfl (load_rowB (cs := [_, _, _, _, _, _, _, _, _, _, _, _, _, _, _, _]) hS.ok 0 rfl Try.underlying102 rfl ts_102 rfl)) (.tmp rfl (show _ = Value.slice _ _ _ from rfl)) (.tmp rfl (show _ = Value.int _ _ from rfl)) ?_
    cases h with
    | short _ => omega
    | form h1 h2 => first | exact ⟨rfl, hS.kp⟩ | omega
    | cut hf h2 =>
      obtain ⟨a1, a2, a3, a4, a5, a6, a7⟩ := hf
      first | exact ⟨rfl, hS.kp⟩ | (exfalso; omega)
    | sum hf h2 h3 =>
      obtain ⟨a1, a2, a3, a4, a5, a6, a7⟩ := hf
      first | exact ⟨rfl, hS.kp⟩ | (exfalso; omega)
  try simp only [nrm] at hc1
  refine wp_skip ?_
  refine then_n (hK5 _ _ ?_); clear hK5 K5
  refine wp_seq_k ?_; intro K11 hK11
  refine wlit ?_
  refine wl_v (x_move (tmS rfl rfl)) ?_
  refine wl_e rfl ?_; intro K hK
  refine ow_call Try.func17 rfl rfl (evs_cons (tmS rfl rfl) <| evs_cons (ev_cN 6) <| evs_cons (ev_cN 2) <| evs_nil) (get_c n _ c l _ _ _ (viewV hS.ok 1 rfl) hl hc hn4 hb (by omega) (by omega)) ?_
  rintro e w ⟨rfl, hk⟩
  refine ⟨_, rfl, ?_⟩
  replace hS := hS.kept hk
  clear hk
  refine hK _ _ ?_; clear hK K
  refine wl_v (x_assign (tmI rfl rfl)) ?_
  refine wl_nil ?_
  refine then_n (hK11 _ _ ?_); clear hK11 K11
  refine wp_seq_k ?_; intro K12 hK12
  refine rg_startk 0 hS mixed_ ?_
  clear hS; intro w hS
  refine rg_take 0 rfl rfl (by kernel_rfl) (by kernel_rfl) (by kernel_rfl) (want_0) (fun w hok => x_move (tmS rfl rfl)) ?_
  refine rg_take 1 rfl rfl (by kernel_rfl) (by kernel_rfl) (by kernel_rfl) (want_0) (fun w hok => x_ixs1 Try.underlying22 ts_5 (tmS rfl rfl) (ev_cN 1) (by omega)) ?_
  refine rg_take 2 rfl rfl (by kernel_rfl) (by kernel_rfl) (by kernel_rfl) (want_0) (fun w hok => x_load Try.underlying5 rfl (tmP rfl rfl) (cellV hok 1 rfl (getm (by omega)))) ?_
  refine rg_take 3 rfl rfl (by kernel_rfl) (by kernel_rfl) (by kernel_rfl) (want_0) (fun w hok => x_move (tmS rfl rfl)) ?_
  refine rg_take 6 rfl rfl (by kernel_rfl) (by kernel_rfl) (by kernel_rfl) (want_0) (fun w hok => x_move (tmS rfl rfl)) ?_
  refine rg_take 9 rfl rfl (by kernel_rfl) (by kernel_rfl) (by kernel_rfl) (want_0) (fun w hok => x_move (tmI rfl rfl)) ?_
  refine rg_take 10 rfl rfl (by kernel_rfl) (by kernel_rfl) (by kernel_rfl) (want_0) (fun w hok => x_quoN (tmI rfl rfl) (ev_cN 16384) (by omega) (fit_u64 (by omega))) ?_
  refine rg_take 11 rfl rfl (by kernel_rfl) (by kernel_rfl) (by kernel_rfl) (want_0) (fun w hok => x_remN (tmI rfl rfl) (ev_cN 2) (by omega)) ?_
  refine rg_take 12 rfl rfl (by kernel_rfl) (by kernel_rfl) (by kernel_rfl) (want_0) (fun w hok => x_eql (tmI rfl rfl) (ev_cN 1)) ?_
  refine rg_take 13 rfl rfl (by kernel_rfl) (by kernel_rfl) (by kernel_rfl) (want_0) (fun w hok => x_move (tmI rfl rfl)) ?_
  refine rg_take 14 rfl rfl (by kernel_rfl) (by kernel_rfl) (by kernel_rfl) (want_0) (fun w hok => x_quoN (tmI rfl rfl) (ev_cN 8192) (by omega) (fit_u64 (by omega))) ?_
  refine rg_take 15 rfl rfl (by kernel_rfl) (by kernel_rfl) (by kernel_rfl) (want_0) (fun w hok => x_remN (tmI rfl rfl) (ev_cN 2) (by omega)) ?_
  refine rg_take 16 rfl rfl (by kernel_rfl) (by kernel_rfl) (by kernel_rfl) (want_0) (fun w hok => x_eql (tmI rfl rfl) (ev_cN 1)) ?_
  refine rg_take 17 rfl rfl (by kernel_rfl) (by kernel_rfl) (by kernel_rfl) (want_0) (fun w hok => x_move (tmI rfl rfl)) ?_
  refine rg_take 18 rfl rfl (by kernel_rfl) (by kernel_rfl) (by kernel_rfl) (want_0) (fun w hok => x_remN (tmI rfl rfl) (ev_cN 8192) (by omega)) ?_
  refine rg_take 19 rfl rfl (by kernel_rfl) (by kernel_rfl) (by kernel_rfl) (want_0) (fun w hok => x_convN Try.underlying24 Try.underlying3 (tmI rfl rfl) (fit_i64 (by omega))) ?_
  refine rg_take 20 rfl rfl (by kernel_rfl) (by kernel_rfl) (by kernel_rfl) (want_0) (fun w hok => x_move (tmS rfl rfl)) ?_
  refine rg_take 21 rfl rfl (by kernel_rfl) (by kernel_rfl) (by kernel_rfl) (want_0) (fun w hok => x_ixs1 Try.underlying22 ts_5 (tmS rfl rfl) (ev_cN 8) (by omega)) ?_
  refine rg_take 22 rfl rfl (by kernel_rfl) (by kernel_rfl) (by kernel_rfl) (want_0) (fun w hok => x_load Try.underlying5 rfl (tmP rfl rfl) (cellV hok 1 rfl (getm (by omega)))) ?_
  refine rg_take 23 rfl rfl (by kernel_rfl) (by kernel_rfl) (by kernel_rfl) (want_0) (fun w hok => x_move (tmS rfl rfl)) ?_
  refine rg_take 24 rfl rfl (by kernel_rfl) (by kernel_rfl) (by kernel_rfl) (want_0) (fun w hok => x_ixs1 Try.underlying22 ts_5 (tmS rfl rfl) (ev_cN 9) (by omega)) ?_
  refine rg_take 25 rfl rfl (by kernel_rfl) (by kernel_rfl) (by kernel_rfl) (want_0) (fun w hok => x_load Try.underlying5 rfl (tmP rfl rfl) (cellV hok 1 rfl (getm (by omega)))) ?_
  refine rg_take 26 rfl rfl (by kernel_rfl) (by kernel_rfl) (by kernel_rfl) (want_0) (fun w hok => x_move (tmS rfl rfl)) ?_
  refine rg_step2 4 30 rfl rfl (by kernel_rfl) (want_0) (want_0) (oks_drop hS 0 rfl) ?_ ?_
  · intro K hK
    refine ow_call Try.func17 rfl rfl (evs_cons (tmS rfl rfl) <| evs_cons (ev_cN 2) <| evs_cons (ev_cN 2) <| evs_nil) (get_c n _ c l _ _ _ (viewV hS.ok 1 rfl) hl hc hn4 hb (by omega) (by omega)) ?_
    rintro e w ⟨rfl, hk⟩
    refine ⟨_, rfl, ?_⟩
    replace hS := hS.kept hk
    clear hk
    refine hK _ _ ?_; clear hK K
    refine rg_take 5 rfl rfl (by kernel_rfl) (by kernel_rfl) (by kernel_rfl) (want_0) (fun w hok => x_convN Try.underlying24 Try.underlying3 (tmI rfl (congrArg (fun q : Nat => Value.int .u64 (q : Int)) hle)) (fit_i64 (by omega))) ?_
    refine rg_step2 7 30 rfl rfl (by kernel_rfl) (want_0) (want_0) (oks_drop hS 0 rfl) ?_ ?_
    · intro K hK
      refine ow_call Try.func17 rfl rfl (evs_cons (tmS rfl rfl) <| evs_cons (ev_cN 4) <| evs_cons (ev_cN 2) <| evs_nil) (get_c n _ c l _ _ _ (viewV hS.ok 1 rfl) hl hc hn4 hb (by omega) (by omega)) ?_
      rintro e w ⟨rfl, hk⟩
      refine ⟨_, rfl, ?_⟩
      replace hS := hS.kept hk
      clear hk
      refine hK _ _ ?_; clear hK K
      refine rg_take 8 rfl rfl (by kernel_rfl) (by kernel_rfl) (by kernel_rfl) (want_0) (fun w hok => x_convN Try.underlying24 Try.underlying27 (tmI rfl rfl) (fit_u16 (by omega))) ?_
      refine rg_step2 27 30 rfl rfl (by kernel_rfl) (want_0) (want_0) (oks_drop hS 0 rfl) ?_ ?_
      · intro K hK
        refine ow_call Try.func17 rfl rfl (evs_cons (tmS rfl rfl) <| evs_cons (ev_cN 10) <| evs_cons (ev_cN 2) <| evs_nil) (get_c n _ c l _ _ _ (viewV hS.ok 1 rfl) hl hc hn4 hb (by omega) (by omega)) ?_
        rintro e w ⟨rfl, hk⟩
        refine ⟨_, rfl, ?_⟩
        replace hS := hS.kept hk
        clear hk
        refine hK _ _ ?_; clear hK K
        refine rg_take 28 rfl rfl (by kernel_rfl) (by kernel_rfl) (by kernel_rfl) (want_0) (fun w hok => x_convN Try.underlying24 Try.underlying27 (tmI rfl rfl) (fit_u16 (by omega))) ?_
        refine rg_take 29 rfl rfl (by kernel_rfl) (by kernel_rfl) (by kernel_rfl) (want_0) (fun w hok => x_build (bc_take (tmI rfl rfl) <| bc_take (tmI rfl rfl) <| bc_take (tmI rfl rfl) <| bc_take (tmB rfl rfl) <| bc_take (tmB rfl rfl) <| bc_take (tmI rfl rfl) <| bc_take (tmI rfl rfl) <| bc_take (tmI rfl rfl) <| bc_take (tmI rfl rfl) <| bc_skipL [.bool false, .int .u64 0, .int .u64 0] <| bc_skipL [.bool false, .int .u64 0, .int .u64 0] <| bc_skip (.slice none 0 0) <| bc_nil) (by kernel_rfl)) ?_
        refine rg_step 30 rfl (by kernel_rfl) (want_0) (oks_drop hS 0 rfl) ?_; intro K hK
        refine ow_alloc hS tz_102 rfl ?_
        clear hS; intro g7_30 w hg7_30 hS
        refine hK _ _ ?_; clear hK K
        refine rg_step 31 rfl (by kernel_rfl) (want_0) (oks_drop hS 1 rfl) ?_; intro K hK
        refine ow_storeA hS 0 rfl ts_102 (tmP rfl rfl) (tmA rfl rfl) rfl rfl rfl ?_
        clear hS; intro w hS
        try replace hS := St.nm (M' := [.blk _ _ [_, _, _, _, _, _, _, _, _, _, _, _, _, _, _, _], .blk _ _ [_, _, _, _, _, _, _, _, _, _, _, _, _, _, _, _], .vw _ _]) hS rfl
        refine hK _ _ ?_; clear hK K
        refine rg_done (oks_drop hS 1 rfl) (by kernel_rfl) ?_
        refine then_n (hK12 _ _ ?_); clear hK12 K12
        refine wp_seq_k ?_; intro K13 hK13
        refine wlit ?_
        refine wl_v (x_move (tmS rfl rfl)) ?_
        refine wl_e rfl ?_; intro K hK
        refine ow_call Try.func17 rfl rfl (evs_cons (tmS rfl rfl) <| evs_cons (ev_cN 12) <| evs_cons (ev_cN 4) <| evs_nil) (get_c n _ c l _ _ _ (viewV hS.ok 2 rfl) hl hc hn4 hb (by omega) (by omega)) ?_
        rintro e w ⟨rfl, hk⟩
        refine ⟨_, rfl, ?_⟩
        replace hS := hS.kept hk
        clear hk
        refine hK _ _ ?_; clear hK K
        refine wl_v (x_build (bc_skip (.bool false) <| bc_skip (.int .u64 0) <| bc_take (tmI rfl rfl) <| bc_nil) (by kernel_rfl)) ?_
        refine wl_v (x_fa 9 Try.underlying102 rfl rfl ts_26 (tmP rfl rfl)) ?_
        refine wl_e rfl ?_; intro K hK
        refine ow_storeA hS 0 rfl ts_26 (tmP rfl rfl) (tmA rfl rfl) rfl rfl rfl ?_
        clear hS; intro w hS
        try replace hS := St.nm (M' := [.blk _ _ [_, _, _, _, _, _, _, _, _, _, _, _, _, _, _, _], .blk _ _ [_, _, _, _, _, _, _, _, _, _, _, _, _, _, _, _], .vw _ _]) hS rfl
        refine hK _ _ ?_; clear hK K
        refine wl_nil ?_
        refine then_n (hK13 _ _ ?_); clear hK13 K13
        refine wp_seq_k ?_; intro K14 hK14
        refine wlit ?_
        refine wl_v (x_move (tmS rfl rfl)) ?_
        refine wl_e rfl ?_; intro K hK
        refine ow_call Try.func17 rfl rfl (evs_cons (tmS rfl rfl) <| evs_cons (ev_cN 16) <| evs_cons (ev_cN 4) <| evs_nil) (get_c n _ c l _ _ _ (viewV hS.ok 2 rfl) hl hc hn4 hb (by omega) (by omega)) ?_
        rintro e w ⟨rfl, hk⟩
        refine ⟨_, rfl, ?_⟩
        replace hS := hS.kept hk
        clear hk
        refine hK _ _ ?_; clear hK K
        refine wl_v (x_build (bc_skip (.bool false) <| bc_skip (.int .u64 0) <| bc_take (tmI rfl rfl) <| bc_nil) (by kernel_rfl)) ?_
        refine wl_v (x_fa 12 Try.underlying102 rfl rfl ts_26 (tmP rfl rfl)) ?_
        refine wl_e rfl ?_; intro K hK
        refine ow_storeA hS 0 rfl ts_26 (tmP rfl rfl) (tmA rfl rfl) rfl rfl rfl ?_
        clear hS; intro w hS
        try replace hS := St.nm (M' := [.blk _ _ [_, _, _, _, _, _, _, _, _, _, _, _, _, _, _, _], .blk _ _ [_, _, _, _, _, _, _, _, _, _, _, _, _, _, _, _], .vw _ _]) hS rfl
        refine hK _ _ ?_; clear hK K
        refine wl_nil ?_
        refine then_n (hK14 _ _ ?_); clear hK14 K14
        refine wp_seq_k ?_; intro K15 hK15
        refine wp_seq_k ?_; intro K16 hK16
        refine wlit ?_
        refine wl_v (x_move (tmI rfl rfl)) ?_
        refine wl_v (x_gtr (tmI rfl rfl) (ev_cN 32767)) ?_
        refine wl_v (x_move (tmB rfl rfl)) ?_
        refine gs_wl (tm (t := 70) rfl) (fun hg10_2 => ?_) (fun hg10_2 => ?_)
        · have hg10_2' := hg10_2; (try simp only [nrm] at hg10_2')
          refine wl_s rfl (want_n rfl rfl rfl rfl (by rw [hg10_2]; rfl)) ?_
          refine wl_s rfl (want_n rfl rfl rfl rfl (by rw [hg10_2]; rfl)) ?_
          refine wl_s rfl (want_n rfl rfl rfl rfl (by rw [hg10_2]; rfl)) ?_
          refine wl_s rfl (want_n rfl rfl rfl rfl (by rw [hg10_2]; rfl)) ?_
          refine wl_v (x_pickT (tmB rfl rfl) hg10_2 ev_c) ?_
          refine wl_nil ?_
          refine then_n (hK16 _ _ ?_); clear hK16 K16
          refine cnd_t (tmB rfl rfl) rfl ?_
          refine wp_seq_k ?_; intro K17 hK17
          refine wlit ?_
          refine wl_v (x_build (bc_skip (.int .u8 0) <| bc_skip (.int .i64 0) <| bc_skip (.int .u16 0) <| bc_skip (.bool false) <| bc_skip (.bool false) <| bc_skip (.int .i64 0) <| bc_skip (.int .u8 0) <| bc_skip (.int .u8 0) <| bc_skip (.int .u16 0) <| bc_skipL [.bool false, .int .u64 0, .int .u64 0] <| bc_skipL [.bool false, .int .u64 0, .int .u64 0] <| bc_skip (.slice none 0 0) <| bc_nil) (by kernel_rfl)) ?_
          refine wl_e rfl ?_; intro K hK
          refine ow_storeA hS 1 rfl ts_102 (tmP rfl rfl) (tmA rfl rfl) rfl rfl rfl ?_
          clear hS; intro w hS
          try replace hS := St.nm (M' := [.blk _ _ [_, _, _, _, _, _, _, _, _, _, _, _, _, _, _, _], .blk _ _ [_, _, _, _, _, _, _, _, _, _, _, _, _, _, _, _], .vw _ _]) hS rfl
          refine hK _ _ ?_; clear hK K
          refine wl_v (x_assign ev_c) ?_
          refine wl_v (x_assign (ev_cN 21)) ?_
          refine wl_nil ?_
          refine then_n (hK17 _ _ ?_); clear hK17 K17
          refine wp_ret ?_
          refine then_r ?_
          refine ret3 rfl (.cell rfl rfl (load_rowB (cs := [_, _, _, _, _, _, _, _, _, _, _, _, _, _, _, _]) hS.ok 1 rfl Try.underlying102 rfl ts_102 rfl)) (.tmp rfl (show _ = Value.slice _ _ _ from rfl)) (.tmp rfl (show _ = Value.int _ _ from rfl)) ?_
          cases h with
          | short _ => omega
          | form h1 h2 => first | exact ⟨rfl, hS.kp⟩ | omega
          | cut hf h2 =>
            obtain ⟨a1, a2, a3, a4, a5, a6, a7⟩ := hf
            first | exact ⟨rfl, hS.kp⟩ | (exfalso; omega)
          | sum hf h2 h3 =>
            obtain ⟨a1, a2, a3, a4, a5, a6, a7⟩ := hf
            first | exact ⟨rfl, hS.kp⟩ | (exfalso; omega)
        have hg10_2' := hg10_2; (try simp only [nrm] at hg10_2')
        refine wl_gv (want_y rfl rfl rfl rfl (by rw [hg10_2]; rfl)) (x_fa 1 Try.underlying102 rfl rfl ts_3 (tmP rfl rfl)) ?_
        refine wl_gv (want_y rfl rfl rfl rfl (by rw [hg10_2]; rfl)) (x_load Try.underlying3 rfl (tmP rfl rfl) (cellB hS.ok 0 rfl rfl)) ?_
        refine wl_gv (want_y rfl rfl rfl rfl (by rw [hg10_2]; rfl)) (x_move (tmI rfl rfl)) ?_
        refine wl_gv (want_y rfl rfl rfl rfl (by rw [hg10_2]; rfl)) (x_lss (tmI rfl rfl) (tmI rfl rfl)) ?_
        refine wl_v (x_pickF (tmB rfl rfl) hg10_2 (tmB rfl rfl)) ?_
        refine wl_nil ?_
        refine then_n (hK16 _ _ ?_); clear hK16 K16
        refine cnd (tm rfl) (fun hc2 => ?_) (fun hc2 => ?_)
        · skip
          try simp only [nrm] at hc2
          refine wp_seq_k ?_; intro K19 hK19
          refine wlit ?_
          refine wl_v (x_build (bc_skip (.int .u8 0) <| bc_skip (.int .i64 0) <| bc_skip (.int .u16 0) <| bc_skip (.bool false) <| bc_skip (.bool false) <| bc_skip (.int .i64 0) <| bc_skip (.int .u8 0) <| bc_skip (.int .u8 0) <| bc_skip (.int .u16 0) <| bc_skipL [.bool false, .int .u64 0, .int .u64 0] <| bc_skipL [.bool false, .int .u64 0, .int .u64 0] <| bc_skip (.slice none 0 0) <| bc_nil) (by kernel_rfl)) ?_
          refine wl_e rfl ?_; intro K hK
          refine ow_storeA hS 1 rfl ts_102 (tmP rfl rfl) (tmA rfl rfl) rfl rfl rfl ?_
          clear hS; intro w hS
          try replace hS := St.nm (M' := [.blk _ _ [_, _, _, _, _, _, _, _, _, _, _, _, _, _, _, _], .blk _ _ [_, _, _, _, _, _, _, _, _, _, _, _, _, _, _, _], .vw _ _]) hS rfl
          refine hK _ _ ?_; clear hK K
          refine wl_v (x_assign ev_c) ?_
          refine wl_v (x_assign (ev_cN 21)) ?_
          refine wl_nil ?_
          refine then_n (hK19 _ _ ?_); clear hK19 K19
          refine wp_ret ?_
          refine then_r ?_
          refine ret3 rfl (.cell rfl rfl (load_rowB (cs := [_, _, _, _, _, _, _, _, _, _, _, _, _, _, _, _]) hS.ok 1 rfl Try.underlying102 rfl ts_102 rfl)) (.tmp rfl (show _ = Value.slice _ _ _ from rfl)) (.tmp rfl (show _ = Value.int _ _ from rfl)) ?_
          cases h with
          | short _ => omega
          | form h1 h2 => first | exact ⟨rfl, hS.kp⟩ | omega
          | cut hf h2 =>
            obtain ⟨a1, a2, a3, a4, a5, a6, a7⟩ := hf
            first | exact ⟨rfl, hS.kp⟩ | (exfalso; omega)
          | sum hf h2 h3 =>
            obtain ⟨a1, a2, a3, a4, a5, a6, a7⟩ := hf
            first | exact ⟨rfl, hS.kp⟩ | (exfalso; omega)
        try simp only [nrm] at hc2
        refine wp_skip ?_
        refine then_n (hK15 _ _ ?_); clear hK15 K15
        refine wp_seq_k ?_; intro K21 hK21
        refine wp_seq_k ?_; intro K22 hK22
        refine wlit ?_
        refine wl_v (x_move (tmS rfl rfl)) ?_
        refine wl_v (x_len Try.underlying22 (tmS rfl rfl)) ?_
        refine wl_v (x_fa 1 Try.underlying102 rfl rfl ts_3 (tmP rfl rfl)) ?_
        refine wl_v (x_load Try.underlying3 rfl (tmP rfl rfl) (cellB hS.ok 0 rfl rfl)) ?_
        refine wl_v (x_lss (tmI rfl rfl) (tmI rfl rfl)) ?_
        refine wl_nil ?_
        refine then_n (hK22 _ _ ?_); clear hK22 K22
        refine cnd (tm rfl) (fun hc3 => ?_) (fun hc3 => ?_)
        · skip
          try simp only [nrm] at hc3
          refine wp_seq_k ?_; intro K23 hK23
          refine wlit ?_
          refine wl_v (x_build (bc_skip (.int .u8 0) <| bc_skip (.int .i64 0) <| bc_skip (.int .u16 0) <| bc_skip (.bool false) <| bc_skip (.bool false) <| bc_skip (.int .i64 0) <| bc_skip (.int .u8 0) <| bc_skip (.int .u8 0) <| bc_skip (.int .u16 0) <| bc_skipL [.bool false, .int .u64 0, .int .u64 0] <| bc_skipL [.bool false, .int .u64 0, .int .u64 0] <| bc_skip (.slice none 0 0) <| bc_nil) (by kernel_rfl)) ?_
          refine wl_e rfl ?_; intro K hK
          refine ow_storeA hS 1 rfl ts_102 (tmP rfl rfl) (tmA rfl rfl) rfl rfl rfl ?_
          clear hS; intro w hS
          try replace hS := St.nm (M' := [.blk _ _ [_, _, _, _, _, _, _, _, _, _, _, _, _, _, _, _], .blk _ _ [_, _, _, _, _, _, _, _, _, _, _, _, _, _, _, _], .vw _ _]) hS rfl
          refine hK _ _ ?_; clear hK K
          refine wl_v (x_assign ev_c) ?_
          refine wl_v (x_assign (ev_cN 20)) ?_
          refine wl_nil ?_
          refine then_n (hK23 _ _ ?_); clear hK23 K23
          refine wp_ret ?_
          refine then_r ?_
          refine ret3 rfl (.cell rfl rfl (load_rowB (cs := [_, _, _, _, _, _, _, _, _, _, _, _, _, _, _, _]) hS.ok 1 rfl Try.underlying102 rfl ts_102 rfl)) (.tmp rfl (show _ = Value.slice _ _ _ from rfl)) (.tmp rfl (show _ = Value.int _ _ from rfl)) ?_
          cases h with
          | short _ => omega
          | form h1 h2 => first | exact ⟨rfl, hS.kp⟩ | omega
          | cut hf h2 =>
            obtain ⟨a1, a2, a3, a4, a5, a6, a7⟩ := hf
            first | exact ⟨rfl, hS.kp⟩ | (exfalso; omega)
          | sum hf h2 h3 =>
            obtain ⟨a1, a2, a3, a4, a5, a6, a7⟩ := hf
            first | exact ⟨rfl, hS.kp⟩ | (exfalso; omega)
        try simp only [nrm] at hc3
        refine wp_skip ?_
        refine then_n (hK21 _ _ ?_); clear hK21 K21
        refine wp_seq_k ?_; intro K25 hK25
        refine wp_seq_k ?_; intro K26 hK26
        refine wlit ?_
        refine wl_v (x_move (tmS rfl rfl)) ?_
        refine wl_v (x_move (tmI rfl rfl)) ?_
        refine wl_v (x_sliceH Try.underlying22 ts_5 (tmS rfl rfl) (tmI rfl rfl) (by omega)) ?_
        replace hS := hS.cutb 2 0 sz rfl (by omega : l.length ≤ c)
        refine wl_e rfl ?_; intro K hK
        refine ow_call Try.func56 rfl rfl (evs_cons (tmS rfl rfl) <| evs_nil) (rsum_of_c sz _ _ (l.take sz) _ (viewV hS.ok 0 rfl) (htl (by omega)) (hb.take sz) (by omega)) ?_
        rintro e w ⟨rfl, hk⟩
        refine ⟨_, rfl, ?_⟩
        replace hS := hS.kept hk
        clear hk
        have hfb := foldN_bd (psum (l.take sz) sz)
        refine hK _ _ ?_; clear hK K
        refine wl_v (x_neq (tmI rfl rfl) (ev_cN 0)) ?_
        refine wl_nil ?_
        refine then_n (hK26 _ _ ?_); clear hK26 K26
        refine cnds (tm rfl) (fun hc4 => ?_) (fun hc4 => ?_)
        · exfalso
          simp only [nrm] at hc4
          have hc5 : SumOk l sz := by unfold SumOk; omega
          cases h with
          | short _ => omega
          | form h1 h2 => omega
          | cut hf h2 => obtain ⟨a1, a2, a3, a4, a5, a6, a7⟩ := hf; omega
          | sum hf h2 h3 =>
            obtain ⟨a1, a2, a3, a4, a5, a6, a7⟩ := hf
            obtain rfl : sz = _ := hsz.symm.trans a3
            exact h3 hc5
        try simp only [nrm] at hc4
        refine wp_seq_k ?_; intro K27 hK27
        refine wlit ?_
        refine wl_v (x_build (bc_skip (.int .u8 0) <| bc_skip (.int .i64 0) <| bc_skip (.int .u16 0) <| bc_skip (.bool false) <| bc_skip (.bool false) <| bc_skip (.int .i64 0) <| bc_skip (.int .u8 0) <| bc_skip (.int .u8 0) <| bc_skip (.int .u16 0) <| bc_skipL [.bool false, .int .u64 0, .int .u64 0] <| bc_skipL [.bool false, .int .u64 0, .int .u64 0] <| bc_skip (.slice none 0 0) <| bc_nil) (by kernel_rfl)) ?_
        refine wl_e rfl ?_; intro K hK
        refine ow_storeA hS 2 rfl ts_102 (tmP rfl rfl) (tmA rfl rfl) rfl rfl rfl ?_
        clear hS; intro w hS
        try replace hS := St.nm (M' := [.vw _ _, .blk _ _ [_, _, _, _, _, _, _, _, _, _, _, _, _, _, _, _], .blk _ _ [_, _, _, _, _, _, _, _, _, _, _, _, _, _, _, _], .vw _ _]) hS rfl
        refine hK _ _ ?_; clear hK K
        refine wl_v (x_assign ev_c) ?_
        refine wl_v (x_assign (ev_cN 22)) ?_
        refine wl_nil ?_
        refine then_n (hK27 _ _ ?_); clear hK27 K27
        refine wp_ret ?_
        refine then_r ?_
        refine ret3 rfl (.cell rfl rfl (load_rowB (cs := [_, _, _, _, _, _, _, _, _, _, _, _, _, _, _, _]) hS.ok 2 rfl Try.underlying102 rfl ts_102 rfl)) (.tmp rfl (show _ = Value.slice _ _ _ from rfl)) (.tmp rfl (show _ = Value.int _ _ from rfl)) ?_
        cases h with
        | short _ => omega
        | form h1 h2 => first | exact ⟨rfl, hS.kp⟩ | omega
        | cut hf h2 =>
          obtain ⟨a1, a2, a3, a4, a5, a6, a7⟩ := hf
          first | exact ⟨rfl, hS.kp⟩ | (exfalso; omega)
        | sum hf h2 h3 =>
          obtain ⟨a1, a2, a3, a4, a5, a6, a7⟩ := hf
          first | exact ⟨rfl, hS.kp⟩ | (exfalso; omega)
      · intro K hK
        refine ow_alloc hS tz_102 rfl ?_
        clear hS; intro g7_30 w hg7_30 hS
        refine hK _ _ ?_; clear hK K
        refine rg_step 27 rfl (by kernel_rfl) (want_0) (oks_drop hS 1 rfl) ?_; intro K hK
        refine ow_call Try.func17 rfl rfl (evs_cons (tmS rfl rfl) <| evs_cons (ev_cN 10) <| evs_cons (ev_cN 2) <| evs_nil) (get_c n _ c l _ _ _ (viewV hS.ok 2 rfl) hl hc hn4 hb (by omega) (by omega)) ?_
        rintro e w ⟨rfl, hk⟩
        refine ⟨_, rfl, ?_⟩
        replace hS := hS.kept hk
        clear hk
        refine hK _ _ ?_; clear hK K
        refine rg_take 28 rfl rfl (by kernel_rfl) (by kernel_rfl) (by kernel_rfl) (want_0) (fun w hok => x_convN Try.underlying24 Try.underlying27 (tmI rfl rfl) (fit_u16 (by omega))) ?_
        refine rg_take 29 rfl rfl (by kernel_rfl) (by kernel_rfl) (by kernel_rfl) (want_0) (fun w hok => x_build (bc_take (tmI rfl rfl) <| bc_take (tmI rfl rfl) <| bc_take (tmI rfl rfl) <| bc_take (tmB rfl rfl) <| bc_take (tmB rfl rfl) <| bc_take (tmI rfl rfl) <| bc_take (tmI rfl rfl) <| bc_take (tmI rfl rfl) <| bc_take (tmI rfl rfl) <| bc_skipL [.bool false, .int .u64 0, .int .u64 0] <| bc_skipL [.bool false, .int .u64 0, .int .u64 0] <| bc_skip (.slice none 0 0) <| bc_nil) (by kernel_rfl)) ?_
        refine rg_step 31 rfl (by kernel_rfl) (want_0) (oks_drop hS 1 rfl) ?_; intro K hK
        refine ow_storeA hS 0 rfl ts_102 (tmP rfl rfl) (tmA rfl rfl) rfl rfl rfl ?_
        clear hS; intro w hS
        try replace hS := St.nm (M' := [.blk _ _ [_, _, _, _, _, _, _, _, _, _, _, _, _, _, _, _], .blk _ _ [_, _, _, _, _, _, _, _, _, _, _, _, _, _, _, _], .vw _ _]) hS rfl
        refine hK _ _ ?_; clear hK K
        refine rg_done (oks_drop hS 1 rfl) (by kernel_rfl) ?_
        refine then_n (hK12 _ _ ?_); clear hK12 K12
        refine wp_seq_k ?_; intro K29 hK29
        refine wlit ?_
        refine wl_v (x_move (tmS rfl rfl)) ?_
        refine wl_e rfl ?_; intro K hK
        refine ow_call Try.func17 rfl rfl (evs_cons (tmS rfl rfl) <| evs_cons (ev_cN 12) <| evs_cons (ev_cN 4) <| evs_nil) (get_c n _ c l _ _ _ (viewV hS.ok 2 rfl) hl hc hn4 hb (by omega) (by omega)) ?_
        rintro e w ⟨rfl, hk⟩
        refine ⟨_, rfl, ?_⟩
        replace hS := hS.kept hk
        clear hk
        refine hK _ _ ?_; clear hK K
        refine wl_v (x_build (bc_skip (.bool false) <| bc_skip (.int .u64 0) <| bc_take (tmI rfl rfl) <| bc_nil) (by kernel_rfl)) ?_
        refine wl_v (x_fa 9 Try.underlying102 rfl rfl ts_26 (tmP rfl rfl)) ?_
        refine wl_e rfl ?_; intro K hK
        refine ow_storeA hS 0 rfl ts_26 (tmP rfl rfl) (tmA rfl rfl) rfl rfl rfl ?_
        clear hS; intro w hS
        try replace hS := St.nm (M' := [.blk _ _ [_, _, _, _, _, _, _, _, _, _, _, _, _, _, _, _], .blk _ _ [_, _, _, _, _, _, _, _, _, _, _, _, _, _, _, _], .vw _ _]) hS rfl
        refine hK _ _ ?_; clear hK K
        refine wl_nil ?_
        refine then_n (hK29 _ _ ?_); clear hK29 K29
        refine wp_seq_k ?_; intro K30 hK30
        refine wlit ?_
        refine wl_v (x_move (tmS rfl rfl)) ?_
        refine wl_e rfl ?_; intro K hK
        refine ow_call Try.func17 rfl rfl (evs_cons (tmS rfl rfl) <| evs_cons (ev_cN 16) <| evs_cons (ev_cN 4) <| evs_nil) (get_c n _ c l _ _ _ (viewV hS.ok 2 rfl) hl hc hn4 hb (by omega) (by omega)) ?_
        rintro e w ⟨rfl, hk⟩
        refine ⟨_, rfl, ?_⟩
        replace hS := hS.kept hk
        clear hk
        refine hK _ _ ?_; clear hK K
        refine wl_v (x_build (bc_skip (.bool false) <| bc_skip (.int .u64 0) <| bc_take (tmI rfl rfl) <| bc_nil) (by kernel_rfl)) ?_
        refine wl_v (x_fa 12 Try.underlying102 rfl rfl ts_26 (tmP rfl rfl)) ?_
        refine wl_e rfl ?_; intro K hK
        refine ow_storeA hS 0 rfl ts_26 (tmP rfl rfl) (tmA rfl rfl) rfl rfl rfl ?_
        clear hS; intro w hS
        try replace hS := St.nm (M' := [.blk _ _ [_, _, _, _, _, _, _, _, _, _, _, _, _, _, _, _], .blk _ _ [_, _, _, _, _, _, _, _, _, _, _, _, _, _, _, _], .vw _ _]) hS rfl
        refine hK _ _ ?_; clear hK K
        refine wl_nil ?_
        refine then_n (hK30 _ _ ?_); clear hK30 K30
        refine wp_seq_k ?_; intro K31 hK31
        refine wp_seq_k ?_; intro K32 hK32
        refine wlit ?_
        refine wl_v (x_move (tmI rfl rfl)) ?_
        refine wl_v (x_gtr (tmI rfl rfl) (ev_cN 32767)) ?_
        refine wl_v (x_move (tmB rfl rfl)) ?_
        refine gs_wl (tm (t := 70) rfl) (fun hg10_2 => ?_) (fun hg10_2 => ?_)
        · have hg10_2' := hg10_2; (try simp only [nrm] at hg10_2')
          refine wl_s rfl (want_n rfl rfl rfl rfl (by rw [hg10_2]; rfl)) ?_
          refine wl_s rfl (want_n rfl rfl rfl rfl (by rw [hg10_2]; rfl)) ?_
          refine wl_s rfl (want_n rfl rfl rfl rfl (by rw [hg10_2]; rfl)) ?_
          refine wl_s rfl (want_n rfl rfl rfl rfl (by rw [hg10_2]; rfl)) ?_
          refine wl_v (x_pickT (tmB rfl rfl) hg10_2 ev_c) ?_
          refine wl_nil ?_
          refine then_n (hK32 _ _ ?_); clear hK32 K32
          refine cnd_t (tmB rfl rfl) rfl ?_
          refine wp_seq_k ?_; intro K33 hK33
          refine wlit ?_
          refine wl_v (x_build (bc_skip (.int .u8 0) <| bc_skip (.int .i64 0) <| bc_skip (.int .u16 0) <| bc_skip (.bool false) <| bc_skip (.bool false) <| bc_skip (.int .i64 0) <| bc_skip (.int .u8 0) <| bc_skip (.int .u8 0) <| bc_skip (.int .u16 0) <| bc_skipL [.bool false, .int .u64 0, .int .u64 0] <| bc_skipL [.bool false, .int .u64 0, .int .u64 0] <| bc_skip (.slice none 0 0) <| bc_nil) (by kernel_rfl)) ?_
          refine wl_e rfl ?_; intro K hK
          refine ow_storeA hS 1 rfl ts_102 (tmP rfl rfl) (tmA rfl rfl) rfl rfl rfl ?_
          clear hS; intro w hS
          try replace hS := St.nm (M' := [.blk _ _ [_, _, _, _, _, _, _, _, _, _, _, _, _, _, _, _], .blk _ _ [_, _, _, _, _, _, _, _, _, _, _, _, _, _, _, _], .vw _ _]) hS rfl
          refine hK _ _ ?_; clear hK K
          refine wl_v (x_assign ev_c) ?_
          refine wl_v (x_assign (ev_cN 21)) ?_
          refine wl_nil ?_
          refine then_n (hK33 _ _ ?_); clear hK33 K33
          refine wp_ret ?_
          refine then_r ?_
          refine ret3 rfl (.cell rfl rfl (load_rowB (cs := [_, _, _, _, _, _, _, _, _, _, _, _, _, _, _, _]) hS.ok 1 rfl Try.underlying102 rfl ts_102 rfl)) (.tmp rfl (show _ = Value.slice _ _ _ from rfl)) (.tmp rfl (show _ = Value.int _ _ from rfl)) ?_
          cases h with
          | short _ => omega
          | form h1 h2 => first | exact ⟨rfl, hS.kp⟩ | omega
          | cut hf h2 =>
            obtain ⟨a1, a2, a3, a4, a5, a6, a7⟩ := hf
            first | exact ⟨rfl, hS.kp⟩ | (exfalso; omega)
          | sum hf h2 h3 =>
            obtain ⟨a1, a2, a3, a4, a5, a6, a7⟩ := hf
            first | exact ⟨rfl, hS.kp⟩ | (exfalso; omega)
        have hg10_2' := hg10_2; (try simp only [nrm] at hg10_2')
        refine wl_gv (want_y rfl rfl rfl rfl (by rw [hg10_2]; rfl)) (x_fa 1 Try.underlying102 rfl rfl ts_3 (tmP rfl rfl)) ?_
        refine wl_gv (want_y rfl rfl rfl rfl (by rw [hg10_2]; rfl)) (x_load Try.underlying3 rfl (tmP rfl rfl) (cellB hS.ok 0 rfl rfl)) ?_
        refine wl_gv (want_y rfl rfl rfl rfl (by rw [hg10_2]; rfl)) (x_move (tmI rfl rfl)) ?_
        refine wl_gv (want_y rfl rfl rfl rfl (by rw [hg10_2]; rfl)) (x_lss (tmI rfl rfl) (tmI rfl rfl)) ?_
        refine wl_v (x_pickF (tmB rfl rfl) hg10_2 (tmB rfl rfl)) ?_
        refine wl_nil ?_
        refine then_n (hK32 _ _ ?_); clear hK32 K32
        refine cnd (tm rfl) (fun hc2 => ?_) (fun hc2 => ?_)
        · skip
          try simp only [nrm] at hc2
          refine wp_seq_k ?_; intro K35 hK35
          refine wlit ?_
          refine wl_v (x_build (bc_skip (.int .u8 0) <| bc_skip (.int .i64 0) <| bc_skip (.int .u16 0) <| bc_skip (.bool false) <| bc_skip (.bool false) <| bc_skip (.int .i64 0) <| bc_skip (.int .u8 0) <| bc_skip (.int .u8 0) <| bc_skip (.int .u16 0) <| bc_skipL [.bool false, .int .u64 0, .int .u64 0] <| bc_skipL [.bool false, .int .u64 0, .int .u64 0] <| bc_skip (.slice none 0 0) <| bc_nil) (by kernel_rfl)) ?_
          refine wl_e rfl ?_; intro K hK
          refine ow_storeA hS 1 rfl ts_102 (tmP rfl rfl) (tmA rfl rfl) rfl rfl rfl ?_
          clear hS; intro w hS
          try replace hS := St.nm (M' := [.blk _ _ [_, _, _, _, _, _, _, _, _, _, _, _, _, _, _, _], .blk _ _ [_, _, _, _, _, _, _, _, _, _, _, _, _, _, _, _], .vw _ _]) hS rfl
          refine hK _ _ ?_; clear hK K
          refine wl_v (x_assign ev_c) ?_
          refine wl_v (x_assign (ev_cN 21)) ?_
          refine wl_nil ?_
          refine then_n (hK35 _ _ ?_); clear hK35 K35
          refine wp_ret ?_
          refine then_r ?_
          refine ret3 rfl (.cell rfl rfl (load_rowB (cs := [_, _, _, _, _, _, _, _, _, _, _, _, _, _, _, _]) hS.ok 1 rfl Try.underlying102 rfl ts_102 rfl)) (.tmp rfl (show _ = Value.slice _ _ _ from rfl)) (.tmp rfl (show _ = Value.int _ _ from rfl)) ?_
          cases h with
          | short _ => omega
          | form h1 h2 => first | exact ⟨rfl, hS.kp⟩ | omega
          | cut hf h2 =>
            obtain ⟨a1, a2, a3, a4, a5, a6, a7⟩ := hf
            first | exact ⟨rfl, hS.kp⟩ | (exfalso; omega)
          | sum hf h2 h3 =>
            obtain ⟨a1, a2, a3, a4, a5, a6, a7⟩ := hf
            first | exact ⟨rfl, hS.kp⟩ | (exfalso; omega)
        try simp only [nrm] at hc2
        refine wp_skip ?_
        refine then_n (hK31 _ _ ?_); clear hK31 K31
        refine wp_seq_k ?_; intro K37 hK37
        refine wp_seq_k ?_; intro K38 hK38
        refine wlit ?_
        refine wl_v (x_move (tmS rfl rfl)) ?_
        refine wl_v (x_len Try.underlying22 (tmS rfl rfl)) ?_
        refine wl_v (x_fa 1 Try.underlying102 rfl rfl ts_3 (tmP rfl rfl)) ?_
        refine wl_v (x_load Try.underlying3 rfl (tmP rfl rfl) (cellB hS.ok 0 rfl rfl)) ?_
        refine wl_v (x_lss (tmI rfl rfl) (tmI rfl rfl)) ?_
        refine wl_nil ?_
        refine then_n (hK38 _ _ ?_); clear hK38 K38
        refine cnd (tm rfl) (fun hc3 => ?_) (fun hc3 => ?_)
        · skip
          try simp only [nrm] at hc3
          refine wp_seq_k ?_; intro K39 hK39
          refine wlit ?_
          refine wl_v (x_build (bc_skip (.int .u8 0) <| bc_skip (.int .i64 0) <| bc_skip (.int .u16 0) <| bc_skip (.bool false) <| bc_skip (.bool false) <| bc_skip (.int .i64 0) <| bc_skip (.int .u8 0) <| bc_skip (.int .u8 0) <| bc_skip (.int .u16 0) <| bc_skipL [.bool false, .int .u64 0, .int .u64 0] <| bc_skipL [.bool false, .int .u64 0, .int .u64 0] <| bc_skip (.slice none 0 0) <| bc_nil) (by kernel_rfl)) ?_
          refine wl_e rfl ?_; intro K hK
          refine ow_storeA hS 1 rfl ts_102 (tmP rfl rfl) (tmA rfl rfl) rfl rfl rfl ?_
          clear hS; intro w hS
          try replace hS := St.nm (M' := [.blk _ _ [_, _, _, _, _, _, _, _, _, _, _, _, _, _, _, _], .blk _ _ [_, _, _, _, _, _, _, _, _, _, _, _, _, _, _, _], .vw _ _]) hS rfl
          refine hK _ _ ?_; clear hK K
          refine wl_v (x_assign ev_c) ?_
          refine wl_v (x_assign (ev_cN 20)) ?_
          refine wl_nil ?_
          refine then_n (hK39 _ _ ?_); clear hK39 K39
          refine wp_ret ?_
          refine then_r ?_
          refine ret3 rfl (.cell rfl rfl (load_rowB (cs := [_, _, _, _, _, _, _, _, _, _, _, _, _, _, _, _]) hS.ok 1 rfl Try.underlying102 rfl ts_102 rfl)) (.tmp rfl (show _ = Value.slice _ _ _ from rfl)) (.tmp rfl (show _ = Value.int _ _ from rfl)) ?_
          cases h with
          | short _ => omega
          | form h1 h2 => first | exact ⟨rfl, hS.kp⟩ | omega
          | cut hf h2 =>
            obtain ⟨a1, a2, a3, a4, a5, a6, a7⟩ := hf
            first | exact ⟨rfl, hS.kp⟩ | (exfalso; omega)
          | sum hf h2 h3 =>
            obtain ⟨a1, a2, a3, a4, a5, a6, a7⟩ := hf
            first | exact ⟨rfl, hS.kp⟩ | (exfalso; omega)
        try simp only [nrm] at hc3
        refine wp_skip ?_
        refine then_n (hK37 _ _ ?_); clear hK37 K37
        refine wp_seq_k ?_; intro K41 hK41
        refine wp_seq_k ?_; intro K42 hK42
        refine wlit ?_
        refine wl_v (x_move (tmS rfl rfl)) ?_
        refine wl_v (x_move (tmI rfl rfl)) ?_
        refine wl_v (x_sliceH Try.underlying22 ts_5 (tmS rfl rfl) (tmI rfl rfl) (by omega)) ?_
        replace hS := hS.cutb 2 0 sz rfl (by omega : l.length ≤ c)
        refine wl_e rfl ?_; intro K hK
        refine ow_call Try.func56 rfl rfl (evs_cons (tmS rfl rfl) <| evs_nil) (rsum_of_c sz _ _ (l.take sz) _ (viewV hS.ok 0 rfl) (htl (by omega)) (hb.take sz) (by omega)) ?_
        rintro e w ⟨rfl, hk⟩
        refine ⟨_, rfl, ?_⟩
        replace hS := hS.kept hk
        clear hk
        have hfb := foldN_bd (psum (l.take sz) sz)
        refine hK _ _ ?_; clear hK K
        refine wl_v (x_neq (tmI rfl rfl) (ev_cN 0)) ?_
        refine wl_nil ?_
        refine then_n (hK42 _ _ ?_); clear hK42 K42
        refine cnds (tm rfl) (fun hc4 => ?_) (fun hc4 => ?_)
        · exfalso
          simp only [nrm] at hc4
          have hc5 : SumOk l sz := by unfold SumOk; omega
          cases h with
          | short _ => omega
          | form h1 h2 => omega
          | cut hf h2 => obtain ⟨a1, a2, a3, a4, a5, a6, a7⟩ := hf; omega
          | sum hf h2 h3 =>
            obtain ⟨a1, a2, a3, a4, a5, a6, a7⟩ := hf
            obtain rfl : sz = _ := hsz.symm.trans a3
            exact h3 hc5
        try simp only [nrm] at hc4
        refine wp_seq_k ?_; intro K43 hK43
        refine wlit ?_
        refine wl_v (x_build (bc_skip (.int .u8 0) <| bc_skip (.int .i64 0) <| bc_skip (.int .u16 0) <| bc_skip (.bool false) <| bc_skip (.bool false) <| bc_skip (.int .i64 0) <| bc_skip (.int .u8 0) <| bc_skip (.int .u8 0) <| bc_skip (.int .u16 0) <| bc_skipL [.bool false, .int .u64 0, .int .u64 0] <| bc_skipL [.bool false, .int .u64 0, .int .u64 0] <| bc_skip (.slice none 0 0) <| bc_nil) (by kernel_rfl)) ?_
        refine wl_e rfl ?_; intro K hK
        refine ow_storeA hS 2 rfl ts_102 (tmP rfl rfl) (tmA rfl rfl) rfl rfl rfl ?_
        clear hS; intro w hS
        try replace hS := St.nm (M' := [.vw _ _, .blk _ _ [_, _, _, _, _, _, _, _, _, _, _, _, _, _, _, _], .blk _ _ [_, _, _, _, _, _, _, _, _, _, _, _, _, _, _, _], .vw _ _]) hS rfl
        refine hK _ _ ?_; clear hK K
        refine wl_v (x_assign ev_c) ?_
        refine wl_v (x_assign (ev_cN 22)) ?_
        refine wl_nil ?_
        refine then_n (hK43 _ _ ?_); clear hK43 K43
        refine wp_ret ?_
        refine then_r ?_
        refine ret3 rfl (.cell rfl rfl (load_rowB (cs := [_, _, _, _, _, _, _, _, _, _, _, _, _, _, _, _]) hS.ok 2 rfl Try.underlying102 rfl ts_102 rfl)) (.tmp rfl (show _ = Value.slice _ _ _ from rfl)) (.tmp rfl (show _ = Value.int _ _ from rfl)) ?_
        cases h with
        | short _ => omega
        | form h1 h2 => first | exact ⟨rfl, hS.kp⟩ | omega
        | cut hf h2 =>
          obtain ⟨a1, a2, a3, a4, a5, a6, a7⟩ := hf
          first | exact ⟨rfl, hS.kp⟩ | (exfalso; omega)
        | sum hf h2 h3 =>
          obtain ⟨a1, a2, a3, a4, a5, a6, a7⟩ := hf
          first | exact ⟨rfl, hS.kp⟩ | (exfalso; omega)
    · intro K hK
      refine ow_alloc hS tz_102 rfl ?_
      clear hS; intro g7_30 w hg7_30 hS
      refine hK _ _ ?_; clear hK K
      refine rg_step 7 rfl (by kernel_rfl) (want_0) (oks_drop hS 1 rfl) ?_; intro K hK
      refine ow_call Try.func17 rfl rfl (evs_cons (tmS rfl rfl) <| evs_cons (ev_cN 4) <| evs_cons (ev_cN 2) <| evs_nil) (get_c n _ c l _ _ _ (viewV hS.ok 2 rfl) hl hc hn4 hb (by omega) (by omega)) ?_
      rintro e w ⟨rfl, hk⟩
      refine ⟨_, rfl, ?_⟩
      replace hS := hS.kept hk
      clear hk
      refine hK _ _ ?_; clear hK K
      refine rg_take 8 rfl rfl (by kernel_rfl) (by kernel_rfl) (by kernel_rfl) (want_0) (fun w hok => x_convN Try.underlying24 Try.underlying27 (tmI rfl rfl) (fit_u16 (by omega))) ?_
      refine rg_step 27 rfl (by kernel_rfl) (want_0) (oks_drop hS 1 rfl) ?_; intro K hK
      refine ow_call Try.func17 rfl rfl (evs_cons (tmS rfl rfl) <| evs_cons (ev_cN 10) <| evs_cons (ev_cN 2) <| evs_nil) (get_c n _ c l _ _ _ (viewV hS.ok 2 rfl) hl hc hn4 hb (by omega) (by omega)) ?_
      rintro e w ⟨rfl, hk⟩
      refine ⟨_, rfl, ?_⟩
      replace hS := hS.kept hk
      clear hk
      refine hK _ _ ?_; clear hK K
      refine rg_take 28 rfl rfl (by kernel_rfl) (by kernel_rfl) (by kernel_rfl) (want_0) (fun w hok => x_convN Try.underlying24 Try.underlying27 (tmI rfl rfl) (fit_u16 (by omega))) ?_
      refine rg_take 29 rfl rfl (by kernel_rfl) (by kernel_rfl) (by kernel_rfl) (want_0) (fun w hok => x_build (bc_take (tmI rfl rfl) <| bc_take (tmI rfl rfl) <| bc_take (tmI rfl rfl) <| bc_take (tmB rfl rfl) <| bc_take (tmB rfl rfl) <| bc_take (tmI rfl rfl) <| bc_take (tmI rfl rfl) <| bc_take (tmI rfl rfl) <| bc_take (tmI rfl rfl) <| bc_skipL [.bool false, .int .u64 0, .int .u64 0] <| bc_skipL [.bool false, .int .u64 0, .int .u64 0] <| bc_skip (.slice none 0 0) <| bc_nil) (by kernel_rfl)) ?_
      refine rg_step 31 rfl (by kernel_rfl) (want_0) (oks_drop hS 1 rfl) ?_; intro K hK
      refine ow_storeA hS 0 rfl ts_102 (tmP rfl rfl) (tmA rfl rfl) rfl rfl rfl ?_
      clear hS; intro w hS
      try replace hS := St.nm (M' := [.blk _ _ [_, _, _, _, _, _, _, _, _, _, _, _, _, _, _, _], .blk _ _ [_, _, _, _, _, _, _, _, _, _, _, _, _, _, _, _], .vw _ _]) hS rfl
      refine hK _ _ ?_; clear hK K
      refine rg_done (oks_drop hS 1 rfl) (by kernel_rfl) ?_
      refine then_n (hK12 _ _ ?_); clear hK12 K12
      refine wp_seq_k ?_; intro K45 hK45
      refine wlit ?_
      refine wl_v (x_move (tmS rfl rfl)) ?_
      refine wl_e rfl ?_; intro K hK
      refine ow_call Try.func17 rfl rfl (evs_cons (tmS rfl rfl) <| evs_cons (ev_cN 12) <| evs_cons (ev_cN 4) <| evs_nil) (get_c n _ c l _ _ _ (viewV hS.ok 2 rfl) hl hc hn4 hb (by omega) (by omega)) ?_
      rintro e w ⟨rfl, hk⟩
      refine ⟨_, rfl, ?_⟩
      replace hS := hS.kept hk
      clear hk
      refine hK _ _ ?_; clear hK K
      refine wl_v (x_build (bc_skip (.bool false) <| bc_skip (.int .u64 0) <| bc_take (tmI rfl rfl) <| bc_nil) (by kernel_rfl)) ?_
      refine wl_v (x_fa 9 Try.underlying102 rfl rfl ts_26 (tmP rfl rfl)) ?_
      refine wl_e rfl ?_; intro K hK
      refine ow_storeA hS 0 rfl ts_26 (tmP rfl rfl) (tmA rfl rfl) rfl rfl rfl ?_
      clear hS; intro w hS
      try replace hS := St.nm (M' := [.blk _ _ [_, _, _, _, _, _, _, _, _, _, _, _, _, _, _, _], .blk _ _ [_, _, _, _, _, _, _, _, _, _, _, _, _, _, _, _], .vw _ _]) hS rfl
      refine hK _ _ ?_; clear hK K
      refine wl_nil ?_
      refine then_n (hK45 _ _ ?_); clear hK45 K45
      refine wp_seq_k ?_; intro K46 hK46
      refine wlit ?_
      refine wl_v (x_move (tmS rfl rfl)) ?_
      refine wl_e rfl ?_; intro K hK
      refine ow_call Try.func17 rfl rfl (evs_cons (tmS rfl rfl) <| evs_cons (ev_cN 16) <| evs_cons (ev_cN 4) <| evs_nil) (get_c n _ c l _ _ _ (viewV hS.ok 2 rfl) hl hc hn4 hb (by omega) (by omega)) ?_
      rintro e w ⟨rfl, hk⟩
      refine ⟨_, rfl, ?_⟩
      replace hS := hS.kept hk
      clear hk
      refine hK _ _ ?_; clear hK K
      refine wl_v (x_build (bc_skip (.bool false) <| bc_skip (.int .u64 0) <| bc_take (tmI rfl rfl) <| bc_nil) (by kernel_rfl)) ?_
      refine wl_v (x_fa 12 Try.underlying102 rfl rfl ts_26 (tmP rfl rfl)) ?_
      refine wl_e rfl ?_; intro K hK
      refine ow_storeA hS 0 rfl ts_26 (tmP rfl rfl) (tmA rfl rfl) rfl rfl rfl ?_
      clear hS; intro w hS
      try replace hS := St.nm (M' := [.blk _ _ [_, _, _, _, _, _, _, _, _, _, _, _, _, _, _, _], .blk _ _ [_, _, _, _, _, _, _, _, _, _, _, _, _, _, _, _], .vw _ _]) hS rfl
      refine hK _ _ ?_; clear hK K
      refine wl_nil ?_
      refine then_n (hK46 _ _ ?_); clear hK46 K46
      refine wp_seq_k ?_; intro K47 hK47
      refine wp_seq_k ?_; intro K48 hK48
      refine wlit ?_
      refine wl_v (x_move (tmI rfl rfl)) ?_
      refine wl_v (x_gtr (tmI rfl rfl) (ev_cN 32767)) ?_
      refine wl_v (x_move (tmB rfl rfl)) ?_
      refine gs_wl (tm (t := 70) rfl) (fun hg10_2 => ?_) (fun hg10_2 => ?_)
      · have hg10_2' := hg10_2; (try simp only [nrm] at hg10_2')
        refine wl_s rfl (want_n rfl rfl rfl rfl (by rw [hg10_2]; rfl)) ?_
        refine wl_s rfl (want_n rfl rfl rfl rfl (by rw [hg10_2]; rfl)) ?_
        refine wl_s rfl (want_n rfl rfl rfl rfl (by rw [hg10_2]; rfl)) ?_
        refine wl_s rfl (want_n rfl rfl rfl rfl (by rw [hg10_2]; rfl)) ?_
        refine wl_v (x_pickT (tmB rfl rfl) hg10_2 ev_c) ?_
        refine wl_nil ?_
        refine then_n (hK48 _ _ ?_); clear hK48 K48
        refine cnd_t (tmB rfl rfl) rfl ?_
        refine wp_seq_k ?_; intro K49 hK49
        refine wlit ?_
        refine wl_v (x_build (bc_skip (.int .u8 0) <| bc_skip (.int .i64 0) <| bc_skip (.int .u16 0) <| bc_skip (.bool false) <| bc_skip (.bool false) <| bc_skip (.int .i64 0) <| bc_skip (.int .u8 0) <| bc_skip (.int .u8 0) <| bc_skip (.int .u16 0) <| bc_skipL [.bool false, .int .u64 0, .int .u64 0] <| bc_skipL [.bool false, .int .u64 0, .int .u64 0] <| bc_skip (.slice none 0 0) <| bc_nil) (by kernel_rfl)) ?_
        refine wl_e rfl ?_; intro K hK
        refine ow_storeA hS 1 rfl ts_102 (tmP rfl rfl) (tmA rfl rfl) rfl rfl rfl ?_
        clear hS; intro w hS
        try replace hS := St.nm (M' := [.blk _ _ [_, _, _, _, _, _, _, _, _, _, _, _, _, _, _, _], .blk _ _ [_, _, _, _, _, _, _, _, _, _, _, _, _, _, _, _], .vw _ _]) hS rfl
        refine hK _ _ ?_; clear hK K
        refine wl_v (x_assign ev_c) ?_
        refine wl_v (x_assign (ev_cN 21)) ?_
        refine wl_nil ?_
        refine then_n (hK49 _ _ ?_); clear hK49 K49
        refine wp_ret ?_
        refine then_r ?_
        refine ret3 rfl (.cell rfl rfl (load_rowB (cs := [_, _, _, _, _, _, _, _, _, _, _, _, _, _, _, _]) hS.ok 1 rfl Try.underlying102 rfl ts_102 rfl)) (.tmp rfl (show _ = Value.slice _ _ _ from rfl)) (.tmp rfl (show _ = Value.int _ _ from rfl)) ?_
        cases h with
        | short _ => omega
        | form h1 h2 => first | exact ⟨rfl, hS.kp⟩ | omega
        | cut hf h2 =>
          obtain ⟨a1, a2, a3, a4, a5, a6, a7⟩ := hf
          first | exact ⟨rfl, hS.kp⟩ | (exfalso; omega)
        | sum hf h2 h3 =>
          obtain ⟨a1, a2, a3, a4, a5, a6, a7⟩ := hf
          first | exact ⟨rfl, hS.kp⟩ | (exfalso; omega)
      have hg10_2' := hg10_2; (try simp only [nrm] at hg10_2')
      refine wl_gv (want_y rfl rfl rfl rfl (by rw [hg10_2]; rfl)) (x_fa 1 Try.underlying102 rfl rfl ts_3 (tmP rfl rfl)) ?_
      refine wl_gv (want_y rfl rfl rfl rfl (by rw [hg10_2]; rfl)) (x_load Try.underlying3 rfl (tmP rfl rfl) (cellB hS.ok 0 rfl rfl)) ?_
      refine wl_gv (want_y rfl rfl rfl rfl (by rw [hg10_2]; rfl)) (x_move (tmI rfl rfl)) ?_
      refine wl_gv (want_y rfl rfl rfl rfl (by rw [hg10_2]; rfl)) (x_lss (tmI rfl rfl) (tmI rfl rfl)) ?_
      refine wl_v (x_pickF (tmB rfl rfl) hg10_2 (tmB rfl rfl)) ?_
      refine wl_nil ?_
      refine then_n (hK48 _ _ ?_); clear hK48 K48
      refine cnd (tm rfl) (fun hc2 => ?_) (fun hc2 => ?_)
      · skip
        try simp only [nrm] at hc2
        refine wp_seq_k ?_; intro K51 hK51
        refine wlit ?_
        refine wl_v (x_build (bc_skip (.int .u8 0) <| bc_skip (.int .i64 0) <| bc_skip (.int .u16 0) <| bc_skip (.bool false) <| bc_skip (.bool false) <| bc_skip (.int .i64 0) <| bc_skip (.int .u8 0) <| bc_skip (.int .u8 0) <| bc_skip (.int .u16 0) <| bc_skipL [.bool false, .int .u64 0, .int .u64 0] <| bc_skipL [.bool false, .int .u64 0, .int .u64 0] <| bc_skip (.slice none 0 0) <| bc_nil) (by kernel_rfl)) ?_
        refine wl_e rfl ?_; intro K hK
        refine ow_storeA hS 1 rfl ts_102 (tmP rfl rfl) (tmA rfl rfl) rfl rfl rfl ?_
        clear hS; intro w hS
        try replace hS := St.nm (M' := [.blk _ _ [_, _, _, _, _, _, _, _, _, _, _, _, _, _, _, _], .blk _ _ [_, _, _, _, _, _, _, _, _, _, _, _, _, _, _, _], .vw _ _]) hS rfl
        refine hK _ _ ?_; clear hK K
        refine wl_v (x_assign ev_c) ?_
        refine wl_v (x_assign (ev_cN 21)) ?_
        refine wl_nil ?_
        refine then_n (hK51 _ _ ?_); clear hK51 K51
        refine wp_ret ?_
        refine then_r ?_
        refine ret3 rfl (.cell rfl rfl (load_rowB (cs := [_, _, _, _, _, _, _, _, _, _, _, _, _, _, _, _]) hS.ok 1 rfl Try.underlying102 rfl ts_102 rfl)) (.tmp rfl (show _ = Value.slice _ _ _ from rfl)) (.tmp rfl (show _ = Value.int _ _ from rfl)) ?_
        cases h with
        | short _ => omega
        | form h1 h2 => first | exact ⟨rfl, hS.kp⟩ | omega
        | cut hf h2 =>
          obtain ⟨a1, a2, a3, a4, a5, a6, a7⟩ := hf
          first | exact ⟨rfl, hS.kp⟩ | (exfalso; omega)
        | sum hf h2 h3 =>
          obtain ⟨a1, a2, a3, a4, a5, a6, a7⟩ := hf
          first | exact ⟨rfl, hS.kp⟩ | (exfalso; omega)
      try simp only [nrm] at hc2
      refine wp_skip ?_
      refine then_n (hK47 _ _ ?_); clear hK47 K47
      refine wp_seq_k ?_; intro K53 hK53
      refine wp_seq_k ?_; intro K54 hK54
      refine wlit ?_
      refine wl_v (x_move (tmS rfl rfl)) ?_
      refine wl_v (x_len Try.underlying22 (tmS rfl rfl)) ?_
      refine wl_v (x_fa 1 Try.underlying102 rfl rfl ts_3 (tmP rfl rfl)) ?_
      refine wl_v (x_load Try.underlying3 rfl (tmP rfl rfl) (cellB hS.ok 0 rfl rfl)) ?_
      refine wl_v (x_lss (tmI rfl rfl) (tmI rfl rfl)) ?_
      refine wl_nil ?_
      refine then_n (hK54 _ _ ?_); clear hK54 K54
      refine cnd (tm rfl) (fun hc3 => ?_) (fun hc3 => ?_)
      · skip
        try simp only [nrm] at hc3
        refine wp_seq_k ?_; intro K55 hK55
        refine wlit ?_
        refine wl_v (x_build (bc_skip (.int .u8 0) <| bc_skip (.int .i64 0) <| bc_skip (.int .u16 0) <| bc_skip (.bool false) <| bc_skip (.bool false) <| bc_skip (.int .i64 0) <| bc_skip (.int .u8 0) <| bc_skip (.int .u8 0) <| bc_skip (.int .u16 0) <| bc_skipL [.bool false, .int .u64 0, .int .u64 0] <| bc_skipL [.bool false, .int .u64 0, .int .u64 0] <| bc_skip (.slice none 0 0) <| bc_nil) (by kernel_rfl)) ?_
        refine wl_e rfl ?_; intro K hK
        refine ow_storeA hS 1 rfl ts_102 (tmP rfl rfl) (tmA rfl rfl) rfl rfl rfl ?_
        clear hS; intro w hS
        try replace hS := St.nm (M' := [.blk _ _ [_, _, _, _, _, _, _, _, _, _, _, _, _, _, _, _], .blk _ _ [_, _, _, _, _, _, _, _, _, _, _, _, _, _, _, _], .vw _ _]) hS rfl
        refine hK _ _ ?_; clear hK K
        refine wl_v (x_assign ev_c) ?_
        refine wl_v (x_assign (ev_cN 20)) ?_
        refine wl_nil ?_
        refine then_n (hK55 _ _ ?_); clear hK55 K55
        refine wp_ret ?_
        refine then_r ?_
        refine ret3 rfl (.cell rfl rfl (load_rowB (cs := [_, _, _, _, _, _, _, _, _, _, _, _, _, _, _, _]) hS.ok 1 rfl Try.underlying102 rfl ts_102 rfl)) (.tmp rfl (show _ = Value.slice _ _ _ from rfl)) (.tmp rfl (show _ = Value.int _ _ from rfl)) ?_
        cases h with
        | short _ => omega
        | form h1 h2 => first | exact ⟨rfl, hS.kp⟩ | omega
        | cut hf h2 =>
          obtain ⟨a1, a2, a3, a4, a5, a6, a7⟩ := hf
          first | exact ⟨rfl, hS.kp⟩ | (exfalso; omega)
        | sum hf h2 h3 =>
          obtain ⟨a1, a2, a3, a4, a5, a6, a7⟩ := hf
          first | exact ⟨rfl, hS.kp⟩ | (exfalso; omega)
      try simp only [nrm] at hc3
      refine wp_skip ?_
      refine then_n (hK53 _ _ ?_); clear hK53 K53
      refine wp_seq_k ?_; intro K57 hK57
      refine wp_seq_k ?_; intro K58 hK58
      refine wlit ?_
      refine wl_v (x_move (tmS rfl rfl)) ?_
      refine wl_v (x_move (tmI rfl rfl)) ?_
      refine wl_v (x_sliceH Try.underlying22 ts_5 (tmS rfl rfl) (tmI rfl rfl) (by omega)) ?_
      replace hS := hS.cutb 2 0 sz rfl (by omega : l.length ≤ c)
      refine wl_e rfl ?_; intro K hK
      refine ow_call Try.func56 rfl rfl (evs_cons (tmS rfl rfl) <| evs_nil) (rsum_of_c sz _ _ (l.take sz) _ (viewV hS.ok 0 rfl) (htl (by omega)) (hb.take sz) (by omega)) ?_
      rintro e w ⟨rfl, hk⟩
      refine ⟨_, rfl, ?_⟩
      replace hS := hS.kept hk
      clear hk
      have hfb := foldN_bd (psum (l.take sz) sz)
      refine hK _ _ ?_; clear hK K
      refine wl_v (x_neq (tmI rfl rfl) (ev_cN 0)) ?_
      refine wl_nil ?_
      refine then_n (hK58 _ _ ?_); clear hK58 K58
      refine cnds (tm rfl) (fun hc4 => ?_) (fun hc4 => ?_)
      · exfalso
        simp only [nrm] at hc4
        have hc5 : SumOk l sz := by unfold SumOk; omega
        cases h with
        | short _ => omega
        | form h1 h2 => omega
        | cut hf h2 => obtain ⟨a1, a2, a3, a4, a5, a6, a7⟩ := hf; omega
        | sum hf h2 h3 =>
          obtain ⟨a1, a2, a3, a4, a5, a6, a7⟩ := hf
          obtain rfl : sz = _ := hsz.symm.trans a3
          exact h3 hc5
      try simp only [nrm] at hc4
      refine wp_seq_k ?_; intro K59 hK59
      refine wlit ?_
      refine wl_v (x_build (bc_skip (.int .u8 0) <| bc_skip (.int .i64 0) <| bc_skip (.int .u16 0) <| bc_skip (.bool false) <| bc_skip (.bool false) <| bc_skip (.int .i64 0) <| bc_skip (.int .u8 0) <| bc_skip (.int .u8 0) <| bc_skip (.int .u16 0) <| bc_skipL [.bool false, .int .u64 0, .int .u64 0] <| bc_skipL [.bool false, .int .u64 0, .int .u64 0] <| bc_skip (.slice none 0 0) <| bc_nil) (by kernel_rfl)) ?_
      refine wl_e rfl ?_; intro K hK
      refine ow_storeA hS 2 rfl ts_102 (tmP rfl rfl) (tmA rfl rfl) rfl rfl rfl ?_
      clear hS; intro w hS
      try replace hS := St.nm (M' := [.vw _ _, .blk _ _ [_, _, _, _, _, _, _, _, _, _, _, _, _, _, _, _], .blk _ _ [_, _, _, _, _, _, _, _, _, _, _, _, _, _, _, _], .vw _ _]) hS rfl
      refine hK _ _ ?_; clear hK K
      refine wl_v (x_assign ev_c) ?_
      refine wl_v (x_assign (ev_cN 22)) ?_
      refine wl_nil ?_
      refine then_n (hK59 _ _ ?_); clear hK59 K59
      refine wp_ret ?_
      refine then_r ?_
      refine ret3 rfl (.cell rfl rfl (load_rowB (cs := [_, _, _, _, _, _, _, _, _, _, _, _, _, _, _, _]) hS.ok 2 rfl Try.underlying102 rfl ts_102 rfl)) (.tmp rfl (show _ = Value.slice _ _ _ from rfl)) (.tmp rfl (show _ = Value.int _ _ from rfl)) ?_
      cases h with
      | short _ => omega
      | form h1 h2 => first | exact ⟨rfl, hS.kp⟩ | omega
      | cut hf h2 =>
        obtain ⟨a1, a2, a3, a4, a5, a6, a7⟩ := hf
        first | exact ⟨rfl, hS.kp⟩ | (exfalso; omega)
      | sum hf h2 h3 =>
        obtain ⟨a1, a2, a3, a4, a5, a6, a7⟩ := hf
        first | exact ⟨rfl, hS.kp⟩ | (exfalso; omega)
  · intro K hK
    refine ow_alloc hS tz_102 rfl ?_
    clear hS; intro g7_30 w hg7_30 hS
    refine hK _ _ ?_; clear hK K
    refine rg_step 4 rfl (by kernel_rfl) (want_0) (oks_drop hS 1 rfl) ?_; intro K hK
    refine ow_call Try.func17 rfl rfl (evs_cons (tmS rfl rfl) <| evs_cons (ev_cN 2) <| evs_cons (ev_cN 2) <| evs_nil) (get_c n _ c l _ _ _ (viewV hS.ok 2 rfl) hl hc hn4 hb (by omega) (by omega)) ?_
    rintro e w ⟨rfl, hk⟩
    refine ⟨_, rfl, ?_⟩
    replace hS := hS.kept hk
    clear hk
    refine hK _ _ ?_; clear hK K
    refine rg_take 5 rfl rfl (by kernel_rfl) (by kernel_rfl) (by kernel_rfl) (want_0) (fun w hok => x_convN Try.underlying24 Try.underlying3 (tmI rfl (congrArg (fun q : Nat => Value.int .u64 (q : Int)) hle)) (fit_i64 (by omega))) ?_
    refine rg_step 7 rfl (by kernel_rfl) (want_0) (oks_drop hS 1 rfl) ?_; intro K hK
    refine ow_call Try.func17 rfl rfl (evs_cons (tmS rfl rfl) <| evs_cons (ev_cN 4) <| evs_cons (ev_cN 2) <| evs_nil) (get_c n _ c l _ _ _ (viewV hS.ok 2 rfl) hl hc hn4 hb (by omega) (by omega)) ?_
    rintro e w ⟨rfl, hk⟩
    refine ⟨_, rfl, ?_⟩
    replace hS := hS.kept hk
    clear hk
    refine hK _ _ ?_; clear hK K
    refine rg_take 8 rfl rfl (by kernel_rfl) (by kernel_rfl) (by kernel_rfl) (want_0) (fun w hok => x_convN Try.underlying24 Try.underlying27 (tmI rfl rfl) (fit_u16 (by omega))) ?_
    refine rg_step 27 rfl (by kernel_rfl) (want_0) (oks_drop hS 1 rfl) ?_; intro K hK
    refine ow_call Try.func17 rfl rfl (evs_cons (tmS rfl rfl) <| evs_cons (ev_cN 10) <| evs_cons (ev_cN 2) <| evs_nil) (get_c n _ c l _ _ _ (viewV hS.ok 2 rfl) hl hc hn4 hb (by omega) (by omega)) ?_
    rintro e w ⟨rfl, hk⟩
    refine ⟨_, rfl, ?_⟩
    replace hS := hS.kept hk
    clear hk
    refine hK _ _ ?_; clear hK K
    refine rg_take 28 rfl rfl (by kernel_rfl) (by kernel_rfl) (by kernel_rfl) (want_0) (fun w hok => x_convN Try.underlying24 Try.underlying27 (tmI rfl rfl) (fit_u16 (by omega))) ?_
    refine rg_take 29 rfl rfl (by kernel_rfl) (by kernel_rfl) (by kernel_rfl) (want_0) (fun w hok => x_build (bc_take (tmI rfl rfl) <| bc_take (tmI rfl rfl) <| bc_take (tmI rfl rfl) <| bc_take (tmB rfl rfl) <| bc_take (tmB rfl rfl) <| bc_take (tmI rfl rfl) <| bc_take (tmI rfl rfl) <| bc_take (tmI rfl rfl) <| bc_take (tmI rfl rfl) <| bc_skipL [.bool false, .int .u64 0, .int .u64 0] <| bc_skipL [.bool false, .int .u64 0, .int .u64 0] <| bc_skip (.slice none 0 0) <| bc_nil) (by kernel_rfl)) ?_
    refine rg_step 31 rfl (by kernel_rfl) (want_0) (oks_drop hS 1 rfl) ?_; intro K hK
    refine ow_storeA hS 0 rfl ts_102 (tmP rfl rfl) (tmA rfl rfl) rfl rfl rfl ?_
    clear hS; intro w hS
    try replace hS := St.nm (M' := [.blk _ _ [_, _, _, _, _, _, _, _, _, _, _, _, _, _, _, _], .blk _ _ [_, _, _, _, _, _, _, _, _, _, _, _, _, _, _, _], .vw _ _]) hS rfl
    refine hK _ _ ?_; clear hK K
    refine rg_done (oks_drop hS 1 rfl) (by kernel_rfl) ?_
    refine then_n (hK12 _ _ ?_); clear hK12 K12
    refine wp_seq_k ?_; intro K61 hK61
    refine wlit ?_
    refine wl_v (x_move (tmS rfl rfl)) ?_
    refine wl_e rfl ?_; intro K hK
    refine ow_call Try.func17 rfl rfl (evs_cons (tmS rfl rfl) <| evs_cons (ev_cN 12) <| evs_cons (ev_cN 4) <| evs_nil) (get_c n _ c l _ _ _ (viewV hS.ok 2 rfl) hl hc hn4 hb (by omega) (by omega)) ?_
    rintro e w ⟨rfl, hk⟩
    refine ⟨_, rfl, ?_⟩
    replace hS := hS.kept hk
    clear hk
    refine hK _ _ ?_; clear hK K
    refine wl_v (x_build (bc_skip (.bool false) <| bc_skip (.int .u64 0) <| bc_take (tmI rfl rfl) <| bc_nil) (by kernel_rfl)) ?_
    refine wl_v (x_fa 9 Try.underlying102 rfl rfl ts_26 (tmP rfl rfl)) ?_
    refine wl_e rfl ?_; intro K hK
    refine ow_storeA hS 0 rfl ts_26 (tmP rfl rfl) (tmA rfl rfl) rfl rfl rfl ?_
    clear hS; intro w hS
    try replace hS := St.nm (M' := [.blk _ _ [_, _, _, _, _, _, _, _, _, _, _, _, _, _, _, _], .blk _ _ [_, _, _, _, _, _, _, _, _, _, _, _, _, _, _, _], .vw _ _]) hS rfl
    refine hK _ _ ?_; clear hK K
    refine wl_nil ?_
    refine then_n (hK61 _ _ ?_); clear hK61 K61
    refine wp_seq_k ?_; intro K62 hK62
    refine wlit ?_
    refine wl_v (x_move (tmS rfl rfl)) ?_
    refine wl_e rfl ?_; intro K hK
    refine ow_call Try.func17 rfl rfl (evs_cons (tmS rfl rfl) <| evs_cons (ev_cN 16) <| evs_cons (ev_cN 4) <| evs_nil) (get_c n _ c l _ _ _ (viewV hS.ok 2 rfl) hl hc hn4 hb (by omega) (by omega)) ?_
    rintro e w ⟨rfl, hk⟩
    refine ⟨_, rfl, ?_⟩
    replace hS := hS.kept hk
    clear hk
    refine hK _ _ ?_; clear hK K
    refine wl_v (x_build (bc_skip (.bool false) <| bc_skip (.int .u64 0) <| bc_take (tmI rfl rfl) <| bc_nil) (by kernel_rfl)) ?_
    refine wl_v (x_fa 12 Try.underlying102 rfl rfl ts_26 (tmP rfl rfl)) ?_
    refine wl_e rfl ?_; intro K hK
    refine ow_storeA hS 0 rfl ts_26 (tmP rfl rfl) (tmA rfl rfl) rfl rfl rfl ?_
    clear hS; intro w hS
    try replace hS := St.nm (M' := [.blk _ _ [_, _, _, _, _, _, _, _, _, _, _, _, _, _, _, _], .blk _ _ [_, _, _, _, _, _, _, _, _, _, _, _, _, _, _, _], .vw _ _]) hS rfl
    refine hK _ _ ?_; clear hK K
    refine wl_nil ?_
    refine then_n (hK62 _ _ ?_); clear hK62 K62
    refine wp_seq_k ?_; intro K63 hK63
    refine wp_seq_k ?_; intro K64 hK64
    refine wlit ?_
    refine wl_v (x_move (tmI rfl rfl)) ?_
    refine wl_v (x_gtr (tmI rfl rfl) (ev_cN 32767)) ?_
    refine wl_v (x_move (tmB rfl rfl)) ?_
    refine gs_wl (tm (t := 70) rfl) (fun hg10_2 => ?_) (fun hg10_2 => ?_)
    · have hg10_2' := hg10_2; (try simp only [nrm] at hg10_2')
      refine wl_s rfl (want_n rfl rfl rfl rfl (by rw [hg10_2]; rfl)) ?_
      refine wl_s rfl (want_n rfl rfl rfl rfl (by rw [hg10_2]; rfl)) ?_
      refine wl_s rfl (want_n rfl rfl rfl rfl (by rw [hg10_2]; rfl)) ?_
      refine wl_s rfl (want_n rfl rfl rfl rfl (by rw [hg10_2]; rfl)) ?_
      refine wl_v (x_pickT (tmB rfl rfl) hg10_2 ev_c) ?_
      refine wl_nil ?_
      refine then_n (hK64 _ _ ?_); clear hK64 K64
      refine cnd_t (tmB rfl rfl) rfl ?_
      refine wp_seq_k ?_; intro K65 hK65
      refine wlit ?_
      refine wl_v (x_build (bc_skip (.int .u8 0) <| bc_skip (.int .i64 0) <| bc_skip (.int .u16 0) <| bc_skip (.bool false) <| bc_skip (.bool false) <| bc_skip (.int .i64 0) <| bc_skip (.int .u8 0) <| bc_skip (.int .u8 0) <| bc_skip (.int .u16 0) <| bc_skipL [.bool false, .int .u64 0, .int .u64 0] <| bc_skipL [.bool false, .int .u64 0, .int .u64 0] <| bc_skip (.slice none 0 0) <| bc_nil) (by kernel_rfl)) ?_
      refine wl_e rfl ?_; intro K hK
      refine ow_storeA hS 1 rfl ts_102 (tmP rfl rfl) (tmA rfl rfl) rfl rfl rfl ?_
      clear hS; intro w hS
      try replace hS := St.nm (M' := [.blk _ _ [_, _, _, _, _, _, _, _, _, _, _, _, _, _, _, _], .blk _ _ [_, _, _, _, _, _, _, _, _, _, _, _, _, _, _, _], .vw _ _]) hS rfl
      refine hK _ _ ?_; clear hK K
      refine wl_v (x_assign ev_c) ?_
      refine wl_v (x_assign (ev_cN 21)) ?_
      refine wl_nil ?_
      refine then_n (hK65 _ _ ?_); clear hK65 K65
      refine wp_ret ?_
      refine then_r ?_
      refine ret3 rfl (.cell rfl rfl (load_rowB (cs := [_, _, _, _, _, _, _, _, _, _, _, _, _, _, _, _]) hS.ok 1 rfl Try.underlying102 rfl ts_102 rfl)) (.tmp rfl (show _ = Value.slice _ _ _ from rfl)) (.tmp rfl (show _ = Value.int _ _ from rfl)) ?_
      cases h with
      | short _ => omega
      | form h1 h2 => first | exact ⟨rfl, hS.kp⟩ | omega
      | cut hf h2 =>
        obtain ⟨a1, a2, a3, a4, a5, a6, a7⟩ := hf
        first | exact ⟨rfl, hS.kp⟩ | (exfalso; omega)
      | sum hf h2 h3 =>
        obtain ⟨a1, a2, a3, a4, a5, a6, a7⟩ := hf
        first | exact ⟨rfl, hS.kp⟩ | (exfalso; omega)
    have hg10_2' := hg10_2; (try simp only [nrm] at hg10_2')
    refine wl_gv (want_y rfl rfl rfl rfl (by rw [hg10_2]; rfl)) (x_fa 1 Try.underlying102 rfl rfl ts_3 (tmP rfl rfl)) ?_
    refine wl_gv (want_y rfl rfl rfl rfl (by rw [hg10_2]; rfl)) (x_load Try.underlying3 rfl (tmP rfl rfl) (cellB hS.ok 0 rfl rfl)) ?_
    refine wl_gv (want_y rfl rfl rfl rfl (by rw [hg10_2]; rfl)) (x_move (tmI rfl rfl)) ?_
    refine wl_gv (want_y rfl rfl rfl rfl (by rw [hg10_2]; rfl)) (x_lss (tmI rfl rfl) (tmI rfl rfl)) ?_
    refine wl_v (x_pickF (tmB rfl rfl) hg10_2 (tmB rfl rfl)) ?_
    refine wl_nil ?_
    refine then_n (hK64 _ _ ?_); clear hK64 K64
    refine cnd (tm rfl) (fun hc2 => ?_) (fun hc2 => ?_)
    · skip
      try simp only [nrm] at hc2
      refine wp_seq_k ?_; intro K67 hK67
      refine wlit ?_
      refine wl_v (x_build (bc_skip (.int .u8 0) <| bc_skip (.int .i64 0) <| bc_skip (.int .u16 0) <| bc_skip (.bool false) <| bc_skip (.bool false) <| bc_skip (.int .i64 0) <| bc_skip (.int .u8 0) <| bc_skip (.int .u8 0) <| bc_skip (.int .u16 0) <| bc_skipL [.bool false, .int .u64 0, .int .u64 0] <| bc_skipL [.bool false, .int .u64 0, .int .u64 0] <| bc_skip (.slice none 0 0) <| bc_nil) (by kernel_rfl)) ?_
      refine wl_e rfl ?_; intro K hK
      refine ow_storeA hS 1 rfl ts_102 (tmP rfl rfl) (tmA rfl rfl) rfl rfl rfl ?_
      clear hS; intro w hS
      try replace hS := St.nm (M' := [.blk _ _ [_, _, _, _, _, _, _, _, _, _, _, _, _, _, _, _], .blk _ _ [_, _, _, _, _, _, _, _, _, _, _, _, _, _, _, _], .vw _ _]) hS rfl
      refine hK _ _ ?_; clear hK K
      refine wl_v (x_assign ev_c) ?_
      refine wl_v (x_assign (ev_cN 21)) ?_
      refine wl_nil ?_
      refine then_n (hK67 _ _ ?_); clear hK67 K67
      refine wp_ret ?_
      refine then_r ?_
      refine ret3 rfl (.cell rfl rfl (load_rowB (cs := [_, _, _, _, _, _, _, _, _, _, _, _, _, _, _, _]) hS.ok 1 rfl Try.underlying102 rfl ts_102 rfl)) (.tmp rfl (show _ = Value.slice _ _ _ from rfl)) (.tmp rfl (show _ = Value.int _ _ from rfl)) ?_
      cases h with
      | short _ => omega
      | form h1 h2 => first | exact ⟨rfl, hS.kp⟩ | omega
      | cut hf h2 =>
        obtain ⟨a1, a2, a3, a4, a5, a6, a7⟩ := hf
        first | exact ⟨rfl, hS.kp⟩ | (exfalso; omega)
      | sum hf h2 h3 =>
        obtain ⟨a1, a2, a3, a4, a5, a6, a7⟩ := hf
        first | exact ⟨rfl, hS.kp⟩ | (exfalso; omega)
    try simp only [nrm] at hc2
    refine wp_skip ?_
    refine then_n (hK63 _ _ ?_); clear hK63 K63
    refine wp_seq_k ?_; intro K69 hK69
    refine wp_seq_k ?_; intro K70 hK70
    refine wlit ?_
    refine wl_v (x_move (tmS rfl rfl)) ?_
    refine wl_v (x_len Try.underlying22 (tmS rfl rfl)) ?_
    refine wl_v (x_fa 1 Try.underlying102 rfl rfl ts_3 (tmP rfl rfl)) ?_
    refine wl_v (x_load Try.underlying3 rfl (tmP rfl rfl) (cellB hS.ok 0 rfl rfl)) ?_
    refine wl_v (x_lss (tmI rfl rfl) (tmI rfl rfl)) ?_
    refine wl_nil ?_
    refine then_n (hK70 _ _ ?_); clear hK70 K70
    refine cnd (tm rfl) (fun hc3 => ?_) (fun hc3 => ?_)
    · skip
      try simp only [nrm] at hc3
      refine wp_seq_k ?_; intro K71 hK71
      refine wlit ?_
      refine wl_v (x_build (bc_skip (.int .u8 0) <| bc_skip (.int .i64 0) <| bc_skip (.int .u16 0) <| bc_skip (.bool false) <| bc_skip (.bool false) <| bc_skip (.int .i64 0) <| bc_skip (.int .u8 0) <| bc_skip (.int .u8 0) <| bc_skip (.int .u16 0) <| bc_skipL [.bool false, .int .u64 0, .int .u64 0] <| bc_skipL [.bool false, .int .u64 0, .int .u64 0] <| bc_skip (.slice none 0 0) <| bc_nil) (by kernel_rfl)) ?_
      refine wl_e rfl ?_; intro K hK
      refine ow_storeA hS 1 rfl ts_102 (tmP rfl rfl) (tmA rfl rfl) rfl rfl rfl ?_
      clear hS; intro w hS
      try replace hS := St.nm (M' := [.blk _ _ [_, _, _, _, _, _, _, _, _, _, _, _, _, _, _, _], .blk _ _ [_, _, _, _, _, _, _, _, _, _, _, _, _, _, _, _], .vw _ _]) hS rfl
      refine hK _ _ ?_; clear hK K
      refine wl_v (x_assign ev_c) ?_
      refine wl_v (x_assign (ev_cN 20)) ?_
      refine wl_nil ?_
      refine then_n (hK71 _ _ ?_); clear hK71 K71
      refine wp_ret ?_
      refine then_r ?_
      refine ret3 rfl (.cell rfl rfl (load_rowB (cs := [_, _, _, _, _, _, _, _, _, _, _, _, _, _, _, _]) hS.ok 1 rfl Try.underlying102 rfl ts_102 rfl)) (.tmp rfl (show _ = Value.slice _ _ _ from rfl)) (.tmp rfl (show _ = Value.int _ _ from rfl)) ?_
      cases h with
      | short _ => omega
      | form h1 h2 => first | exact ⟨rfl, hS.kp⟩ | omega
      | cut hf h2 =>
        obtain ⟨a1, a2, a3, a4, a5, a6, a7⟩ := hf
        first | exact ⟨rfl, hS.kp⟩ | (exfalso; omega)
      | sum hf h2 h3 =>
        obtain ⟨a1, a2, a3, a4, a5, a6, a7⟩ := hf
        first | exact ⟨rfl, hS.kp⟩ | (exfalso; omega)
    try simp only [nrm] at hc3
    refine wp_skip ?_
    refine then_n (hK69 _ _ ?_); clear hK69 K69
    refine wp_seq_k ?_; intro K73 hK73
    refine wp_seq_k ?_; intro K74 hK74
    refine wlit ?_
    refine wl_v (x_move (tmS rfl rfl)) ?_
    refine wl_v (x_move (tmI rfl rfl)) ?_
    refine wl_v (x_sliceH Try.underlying22 ts_5 (tmS rfl rfl) (tmI rfl rfl) (by omega)) ?_
    replace hS := hS.cutb 2 0 sz rfl (by omega : l.length ≤ c)
    refine wl_e rfl ?_; intro K hK
    refine ow_call Try.func56 rfl rfl (evs_cons (tmS rfl rfl) <| evs_nil) (rsum_of_c sz _ _ (l.take sz) _ (viewV hS.ok 0 rfl) (htl (by omega)) (hb.take sz) (by omega)) ?_
    rintro e w ⟨rfl, hk⟩
    refine ⟨_, rfl, ?_⟩
    replace hS := hS.kept hk
    clear hk
    have hfb := foldN_bd (psum (l.take sz) sz)
    refine hK _ _ ?_; clear hK K
    refine wl_v (x_neq (tmI rfl rfl) (ev_cN 0)) ?_
    refine wl_nil ?_
    refine then_n (hK74 _ _ ?_); clear hK74 K74
    refine cnds (tm rfl) (fun hc4 => ?_) (fun hc4 => ?_)
    · exfalso
      simp only [nrm] at hc4
      have hc5 : SumOk l sz := by unfold SumOk; omega
      cases h with
      | short _ => omega
      | form h1 h2 => omega
      | cut hf h2 => obtain ⟨a1, a2, a3, a4, a5, a6, a7⟩ := hf; omega
      | sum hf h2 h3 =>
        obtain ⟨a1, a2, a3, a4, a5, a6, a7⟩ := hf
        obtain rfl : sz = _ := hsz.symm.trans a3
        exact h3 hc5
    try simp only [nrm] at hc4
    refine wp_seq_k ?_; intro K75 hK75
    refine wlit ?_
    refine wl_v (x_build (bc_skip (.int .u8 0) <| bc_skip (.int .i64 0) <| bc_skip (.int .u16 0) <| bc_skip (.bool false) <| bc_skip (.bool false) <| bc_skip (.int .i64 0) <| bc_skip (.int .u8 0) <| bc_skip (.int .u8 0) <| bc_skip (.int .u16 0) <| bc_skipL [.bool false, .int .u64 0, .int .u64 0] <| bc_skipL [.bool false, .int .u64 0, .int .u64 0] <| bc_skip (.slice none 0 0) <| bc_nil) (by kernel_rfl)) ?_
    refine wl_e rfl ?_; intro K hK
    refine ow_storeA hS 2 rfl ts_102 (tmP rfl rfl) (tmA rfl rfl) rfl rfl rfl ?_
    clear hS; intro w hS
    try replace hS := St.nm (M' := [.vw _ _, .blk _ _ [_, _, _, _, _, _, _, _, _, _, _, _, _, _, _, _], .blk _ _ [_, _, _, _, _, _, _, _, _, _, _, _, _, _, _, _], .vw _ _]) hS rfl
    refine hK _ _ ?_; clear hK K
    refine wl_v (x_assign ev_c) ?_
    refine wl_v (x_assign (ev_cN 22)) ?_
    refine wl_nil ?_
    refine then_n (hK75 _ _ ?_); clear hK75 K75
    refine wp_ret ?_
    refine then_r ?_
    refine ret3 rfl (.cell rfl rfl (load_rowB (cs := [_, _, _, _, _, _, _, _, _, _, _, _, _, _, _, _]) hS.ok 2 rfl Try.underlying102 rfl ts_102 rfl)) (.tmp rfl (show _ = Value.slice _ _ _ from rfl)) (.tmp rfl (show _ = Value.int _ _ from rfl)) ?_
    cases h with
    | short _ => omega
    | form h1 h2 => first | exact ⟨rfl, hS.kp⟩ | omega
    | cut hf h2 =>
      obtain ⟨a1, a2, a3, a4, a5, a6, a7⟩ := hf
      first | exact ⟨rfl, hS.kp⟩ | (exfalso; omega)
    | sum hf h2 h3 =>
      obtain ⟨a1, a2, a3, a4, a5, a6, a7⟩ := hf
      first | exact ⟨rfl, hS.kp⟩ | (exfalso; omega)
end Go.Proofs.Ytcobjneobdihkaa
/- ip4: the reference's Parse, Same, Of, To, by contract. Conditions: none but bounds. -/
namespace Go.Proofs.Ytcobjneobdihkaa
open Go.RowKit
end Go.Proofs.Ytcobjneobdihkaa
/- tunnel: Six, fault, number; what parsing gives, by contract. Conditions: none but bounds. -/
namespace Go.Proofs.Ytcobjneobdihkaa
open Go.RowKit
def sixE (l : List Nat) : Nat := if l.length = 0 then 20 else if nth l 0 / 16 = 4 ∨ nth l 0 / 16 = 6 then 0 else 21
def sixP (l : List Nat) : Prop := l.length ≠ 0 ∧ nth l 0 / 16 = 6
instance (l : List Nat) : Decidable (sixP l) := by unfold sixP; exact inferInstance
def sixN (l : List Nat) : Int := if l.length = 0 then -1 else if nth l 0 / 16 = 4 then 4 else if nth l 0 / 16 = 6 then 6 else 0
theorem sx0 {l : List Nat} (h : l.length = 0) : sixE l = 20 ∧ decide (sixP l) = false ∧ sixN l = -1 := by
  unfold sixE sixN
  exact ⟨if_pos h, decide_eq_false (fun hp => hp.1 h), if_pos h⟩
theorem sx4 {l : List Nat} (h : l.length ≠ 0) (h4 : nth l 0 / 16 = 4) : sixE l = 0 ∧ decide (sixP l) = false ∧ sixN l = 4 := by
  unfold sixE sixN
  exact ⟨by rw [if_neg h, if_pos (.inl h4)], decide_eq_false (fun hp => by have := hp.2; omega), by rw [if_neg h, if_pos h4]⟩
theorem sx6 {l : List Nat} (h : l.length ≠ 0) (h6 : nth l 0 / 16 = 6) : sixE l = 0 ∧ decide (sixP l) = true ∧ sixN l = 6 := by
  unfold sixE sixN
  exact ⟨by rw [if_neg h, if_pos (.inr h6)], decide_eq_true ⟨h, h6⟩, by rw [if_neg h, if_neg (by omega), if_pos h6]⟩
theorem sxo {l : List Nat} (h : l.length ≠ 0) (h4 : nth l 0 / 16 ≠ 4) (h6 : nth l 0 / 16 ≠ 6) : sixE l = 21 ∧ decide (sixP l) = false ∧ sixN l = 0 := by
  unfold sixE sixN
  exact ⟨by rw [if_neg h, if_neg (by omega)], decide_eq_false (fun hp => h6 hp.2), by rw [if_neg h, if_neg h4, if_neg h6]⟩

set_option maxRecDepth 100000 in
set_option maxHeartbeats 4000000 in
theorem six_c (n : Nat) (A : Option Addr) (c : Nat) (l : List Nat) (w0 : World) (hv : View w0 w0.heap.size A (l.map u8v)) (hl : l.length = n) (hb : Bytes l) (hn4 : n ≤ 1000000) :
    Calls Try.prog 61 #[.slice A n c] w0 fun e w' => e = .returned (.tuple #[.bool (decide (sixP l)), .int .i64 (sixE l : Int)]) ∧ Kp [] w0 w' := by
  have hS := (St.sv w0).vcons rfl hv
  have hq : l.getD 0 0 = nth l 0 := rfl
  have hqb := nth_lt hb 0
  refine ent (n := 15) Try.func61 rfl rfl ?_
  refine wp_seq_k ?_; intro K1 hK1
  refine wlit ?_
  refine wl_v (x_assign ev_c) ?_
  refine wl_v (x_assign (ev_cN 0)) ?_
  refine wl_nil ?_
  refine then_n (hK1 _ _ ?_); clear hK1 K1
  refine wp_seq_k ?_; intro K2 hK2
  refine wp_seq_k ?_; intro K3 hK3
  refine wlit ?_
  refine wl_v (x_move (tmS rfl rfl)) ?_
  refine wl_v (x_len Try.underlying22 (tmS rfl rfl)) ?_
  refine wl_v (x_eql (tmI rfl rfl) (ev_cN 0)) ?_
  refine wl_nil ?_
  refine then_n (hK3 _ _ ?_); clear hK3 K3
  refine cnd (tm rfl) (fun hc0 => ?_) (fun hc0 => ?_)
  · skip
    try simp only [nrm] at hc0
    refine wp_seq_k ?_; intro K4 hK4
    refine wlit ?_
    refine wl_v (x_assign ev_c) ?_
    refine wl_v (x_assign (ev_cN 20)) ?_
    refine wl_nil ?_
    refine then_n (hK4 _ _ ?_); clear hK4 K4
    refine wp_ret ?_
    refine then_r ?_
    refine ret2 rfl (.tmp rfl (show _ = Value.bool _ from rfl)) (.tmp rfl (show _ = Value.int _ _ from rfl)) ?_
    refine ⟨?_, hS.kp⟩
    obtain ⟨e1, e2, _⟩ := sx0 (l := l) (by omega); rw [e1, e2]; first | done | rfl
  try simp only [nrm] at hc0
  obtain ⟨b4, o4, rfl⟩ := view_some hv (by rw [List.length_map]; omega)
  refine wp_skip ?_
  refine then_n (hK2 _ _ ?_); clear hK2 K2
  refine wp_seq_k ?_; intro K5 hK5
  refine wp_seq_k ?_; intro K6 hK6
  refine wlit ?_
  refine wl_v (x_move (tmS rfl rfl)) ?_
  refine wl_v (x_ixs1 Try.underlying22 ts_5 (tmS rfl rfl) (ev_cN 0) (by omega)) ?_
  refine wl_v (x_load Try.underlying5 rfl (tmP rfl rfl) (cellV hS.ok 0 rfl (getm (by omega)))) ?_
  refine wl_v (x_shrN (tmI rfl rfl) (ev_cN 4) (fit_u8 (by omega))) ?_
  refine wl_nil ?_
  refine then_n (hK6 _ _ ?_); clear hK6 K6
  refine wp_block ?_
  refine wp_seq_k ?_; intro K7 hK7
  refine wlit ?_
  refine wl_v (x_eql (tmI rfl rfl) (ev_cN 4)) ?_
  refine wl_v (x_assign (tmB rfl rfl)) ?_
  refine wl_nil ?_
  refine then_n (hK7 _ _ ?_); clear hK7 K7
  refine cnd (tm rfl) (fun hc1 => ?_) (fun hc1 => ?_)
  · skip
    try simp only [nrm] at hc1
    refine wp_seq_k ?_; intro K8 hK8
    refine wlit ?_
    refine wl_v (x_assign ev_c) ?_
    refine wl_v (x_assign (ev_cN 0)) ?_
    refine wl_nil ?_
    refine then_n (hK8 _ _ ?_); clear hK8 K8
    refine wp_ret ?_
    refine inb_r ?_
    refine then_r ?_
    refine ret2 rfl (.tmp rfl (show _ = Value.bool _ from rfl)) (.tmp rfl (show _ = Value.int _ _ from rfl)) ?_
    refine ⟨?_, hS.kp⟩
    obtain ⟨e1, e2, _⟩ := sx4 (l := l) (by omega) (by omega); rw [e1, e2]; first | done | rfl
  try simp only [nrm] at hc1
  refine wp_seq_k ?_; intro K9 hK9
  refine wlit ?_
  refine wl_v (x_eql (tmI rfl rfl) (ev_cN 6)) ?_
  refine wl_v (x_assign (tmB rfl rfl)) ?_
  refine wl_nil ?_
  refine then_n (hK9 _ _ ?_); clear hK9 K9
  refine cnd (tm rfl) (fun hc2 => ?_) (fun hc2 => ?_)
  · skip
    try simp only [nrm] at hc2
    refine wp_seq_k ?_; intro K10 hK10
    refine wlit ?_
    refine wl_v (x_assign ev_c) ?_
    refine wl_v (x_assign (ev_cN 0)) ?_
    refine wl_nil ?_
    refine then_n (hK10 _ _ ?_); clear hK10 K10
    refine wp_ret ?_
    refine inb_r ?_
    refine then_r ?_
    refine ret2 rfl (.tmp rfl (show _ = Value.bool _ from rfl)) (.tmp rfl (show _ = Value.int _ _ from rfl)) ?_
    refine ⟨?_, hS.kp⟩
    obtain ⟨e1, e2, _⟩ := sx6 (l := l) (by omega) (by omega); rw [e1, e2]; first | done | rfl
  try simp only [nrm] at hc2
  refine wp_skip ?_
  refine inb_n ?_
  refine then_n (hK5 _ _ ?_); clear hK5 K5
  refine wp_seq_k ?_; intro K11 hK11
  refine wlit ?_
  refine wl_v (x_assign ev_c) ?_
  refine wl_v (x_assign (ev_cN 21)) ?_
  refine wl_nil ?_
  refine then_n (hK11 _ _ ?_); clear hK11 K11
  refine wp_ret ?_
  refine ret2 rfl (.tmp rfl (show _ = Value.bool _ from rfl)) (.tmp rfl (show _ = Value.int _ _ from rfl)) ?_
  refine ⟨?_, hS.kp⟩
  obtain ⟨e1, e2, _⟩ := sxo (l := l) (by omega) (by omega) (by omega); rw [e1, e2]; first | done | rfl

set_option maxRecDepth 100000 in
set_option maxHeartbeats 4000000 in
theorem rsix_c (n : Nat) (A : Option Addr) (c : Nat) (l : List Nat) (w0 : World) (hv : View w0 w0.heap.size A (l.map u8v)) (hl : l.length = n) (hb : Bytes l) (hn4 : n ≤ 1000000) :
    Calls Try.prog 35 #[.slice A n c] w0 fun e w' => e = .returned (.int .i64 (sixN l)) ∧ Kp [] w0 w' := by
  have hS := (St.sv w0).vcons rfl hv
  have hq : l.getD 0 0 = nth l 0 := rfl
  have hqb := nth_lt hb 0
  refine ent (n := 19) Try.func35 rfl rfl ?_
  refine wp_seq_k ?_; intro K1 hK1
  refine wlit ?_
  refine wl_v (x_assign (ev_cN 0)) ?_
  refine wl_nil ?_
  refine then_n (hK1 _ _ ?_); clear hK1 K1
  refine wp_seq_k ?_; intro K2 hK2
  refine wp_seq_k ?_; intro K3 hK3
  refine wlit ?_
  refine wl_v (x_move (tmS rfl rfl)) ?_
  refine wl_v (x_len Try.underlying22 (tmS rfl rfl)) ?_
  refine wl_v (x_eql (tmI rfl rfl) (ev_cN 0)) ?_
  refine wl_nil ?_
  refine then_n (hK3 _ _ ?_); clear hK3 K3
  refine cnd (tm rfl) (fun hc0 => ?_) (fun hc0 => ?_)
  · skip
    try simp only [nrm] at hc0
    refine wp_seq_k ?_; intro K4 hK4
    refine wlit ?_
    refine wl_v (x_assign ev_c) ?_
    refine wl_nil ?_
    refine then_n (hK4 _ _ ?_); clear hK4 K4
    refine wp_ret ?_
    refine then_r ?_
    refine ret1 rfl (.tmp rfl (show _ = Value.int _ _ from rfl)) ?_
    refine ⟨?_, hS.kp⟩
    obtain ⟨_, _, e3⟩ := sx0 (l := l) (by omega); rw [e3]; first | done | rfl
  try simp only [nrm] at hc0
  obtain ⟨b4, o4, rfl⟩ := view_some hv (by rw [List.length_map]; omega)
  refine wp_skip ?_
  refine then_n (hK2 _ _ ?_); clear hK2 K2
  refine wp_seq_k ?_; intro K5 hK5
  refine wlit ?_
  refine wl_v (x_move (tmS rfl rfl)) ?_
  refine wl_v (x_ixs1 Try.underlying22 ts_5 (tmS rfl rfl) (ev_cN 0) (by omega)) ?_
  refine wl_v (x_load Try.underlying5 rfl (tmP rfl rfl) (cellV hS.ok 0 rfl (getm (by omega)))) ?_
  refine wl_v (x_quoN (tmI rfl rfl) (ev_cN 16) (by omega) (fit_u8 (by omega))) ?_
  refine wl_v (x_convN Try.underlying5 Try.underlying3 (tmI rfl rfl) (fit_i64 (by omega))) ?_
  refine wl_v (x_assign (tmI rfl rfl)) ?_
  refine wl_nil ?_
  refine then_n (hK5 _ _ ?_); clear hK5 K5
  refine wp_seq_k ?_; intro K6 hK6
  refine wp_seq_k ?_; intro K7 hK7
  refine wlit ?_
  refine wl_v (x_move (tmI rfl rfl)) ?_
  refine wl_v (x_eql (tmI rfl rfl) (ev_cN 4)) ?_
  refine wl_v (x_move (tmB rfl rfl)) ?_
  refine gs_wl (tm (t := 14) rfl) (fun hg4_2 => ?_) (fun hg4_2 => ?_)
  · have hg4_2' := hg4_2; (try simp only [nrm] at hg4_2')
    refine wl_s rfl (want_n rfl rfl rfl rfl (by rw [hg4_2]; rfl)) ?_
    refine wl_s rfl (want_n rfl rfl rfl rfl (by rw [hg4_2]; rfl)) ?_
    refine wl_v (x_pickT (tmB rfl rfl) hg4_2 ev_c) ?_
    refine wl_nil ?_
    refine then_n (hK7 _ _ ?_); clear hK7 K7
    refine cnd_t (tmB rfl rfl) rfl ?_
    refine wp_seq_k ?_; intro K8 hK8
    refine wlit ?_
    refine wl_v (x_move (tmI rfl rfl)) ?_
    refine wl_v (x_assign (tmI rfl rfl)) ?_
    refine wl_nil ?_
    refine then_n (hK8 _ _ ?_); clear hK8 K8
    refine wp_ret ?_
    refine then_r ?_
    refine ret1 rfl (.tmp rfl (show _ = Value.int _ _ from rfl)) ?_
    refine ⟨?_, hS.kp⟩
    obtain ⟨_, _, e3⟩ := sx4 (l := l) (by omega) (by omega); rw [e3, show l.getD 0 0 / 16 = 4 by omega]; first | done | rfl
  have hg4_2' := hg4_2; (try simp only [nrm] at hg4_2')
  refine wl_gv (want_y rfl rfl rfl rfl (by rw [hg4_2]; rfl)) (x_move (tmI rfl rfl)) ?_
  refine wl_gv (want_y rfl rfl rfl rfl (by rw [hg4_2]; rfl)) (x_eql (tmI rfl rfl) (ev_cN 6)) ?_
  refine wl_v (x_pickF (tmB rfl rfl) hg4_2 (tmB rfl rfl)) ?_
  refine wl_nil ?_
  refine then_n (hK7 _ _ ?_); clear hK7 K7
  refine cnd (tm rfl) (fun hc1 => ?_) (fun hc1 => ?_)
  · skip
    try simp only [nrm] at hc1
    refine wp_seq_k ?_; intro K9 hK9
    refine wlit ?_
    refine wl_v (x_move (tmI rfl rfl)) ?_
    refine wl_v (x_assign (tmI rfl rfl)) ?_
    refine wl_nil ?_
    refine then_n (hK9 _ _ ?_); clear hK9 K9
    refine wp_ret ?_
    refine then_r ?_
    refine ret1 rfl (.tmp rfl (show _ = Value.int _ _ from rfl)) ?_
    refine ⟨?_, hS.kp⟩
    obtain ⟨_, _, e3⟩ := sx6 (l := l) (by omega) (by omega); rw [e3, show l.getD 0 0 / 16 = 6 by omega]; first | done | rfl
  try simp only [nrm] at hc1
  refine wp_skip ?_
  refine then_n (hK6 _ _ ?_); clear hK6 K6
  refine wp_seq_k ?_; intro K10 hK10
  refine wlit ?_
  refine wl_v (x_assign (ev_cN 0)) ?_
  refine wl_nil ?_
  refine then_n (hK10 _ _ ?_); clear hK10 K10
  refine wp_ret ?_
  refine ret1 rfl (.tmp rfl (show _ = Value.int _ _ from rfl)) ?_
  refine ⟨?_, hS.kp⟩
  obtain ⟨_, _, e3⟩ := sxo (l := l) (by omega) (by omega) (by omega); rw [e3]; first | done | rfl

theorem newV_nil (w w' : World) : NewV w w' none ([].map u8v) := ⟨View.nil_, fun g hg => by cases hg⟩
theorem Bytes.part {l : List Nat} (h : Bytes l) (a b : Nat) : Bytes ((l.drop a).take b) := (h.drop a).take b
end Go.Proofs.Ytcobjneobdihkaa
/- ip4: the reference's Same, Of, To, by contract. Conditions: none but bounds. -/
namespace Go.Proofs.Ytcobjneobdihkaa
open Go.RowKit

end Go.Proofs.Ytcobjneobdihkaa
