/- icmp: Parse and the reference's Parse, by contract. Conditions: none but bounds. -/
import Derived.Test.YtmekadkmmddocaaDoorIcmp
import Derived.Test.YtmekadkmmddocaaDoorRd
namespace Go.Proofs.YtmekadkmmddocaaDoor
open Go.RowKit

set_option maxRecDepth 100000 in
set_option maxHeartbeats 4000000 in
theorem icmp_parse_c (n : Nat) (A : Option Addr) (c : Nat) (l : List Nat) (w0 : World) (hv : View w0 w0.heap.size A (l.map u8v)) (hl : l.length = n) (hb : Bytes l) (hn4 : n ≤ 1000000) (h8 : 8 ≤ n) :
    Calls Tryd.prog 95 #[.slice A n c] w0 fun e w' => ∃ A', e = .returned (.tuple #[.agg (msgV (getN l 0 1) (getN l 1 1) (getN l 2 2) (getN l 4 4) A' (n - 8) (n - 8)).toArray, .int .i64 0]) ∧ NewV w0 w' A' ((l.drop 8).map u8v) ∧ Kp [] w0 w' := by
  have hS := (St.sv w0).vcons rfl hv
  refine ent (n := 25) Tryd.func95 rfl rfl ?_
  refine wp_seq_k ?_; intro K1 hK1
  refine wlit ?_
  refine wl_e rfl ?_; intro K hK
  refine ow_alloc hS tz_36 rfl ?_
  clear hS; intro g0_0 w hg0_0 hS
  refine hK _ _ ?_; clear hK K
  refine wl_v (x_assign (ev_cN 0)) ?_
  refine wl_nil ?_
  refine then_n (hK1 _ _ ?_); clear hK1 K1
  refine wp_seq_k ?_; intro K2 hK2
  refine wp_seq_k ?_; intro K3 hK3
  refine wlit ?_
  refine wl_v (x_move (tmS rfl rfl)) ?_
  refine wl_v (x_len Tryd.underlying22 (tmS rfl rfl)) ?_
  refine wl_v (x_lss (tmI rfl rfl) (ev_cN 8)) ?_
  refine wl_nil ?_
  refine then_n (hK3 _ _ ?_); clear hK3 K3
  refine cnd (tm rfl) (fun hc0 => ?_) (fun hc0 => ?_)
  · exfalso
    simp at hc0
    omega
  all_goals
   try simp only [nrm] at hc0
   refine wp_skip ?_
   refine then_n (hK2 _ _ ?_); clear hK2 K2
   refine wp_seq_k ?_; intro K4 hK4
   refine wlit ?_
   refine wl_v (x_move (tmS rfl rfl)) ?_
   refine wl_e rfl ?_; intro K hK
   refine ow_call Tryd.func52 rfl rfl (evs_cons (tmS rfl rfl) <| evs_nil) (read_c n A c l _ (viewV hS.ok 1 rfl) hl hn4) ?_
   rintro e w ⟨gr, A0, rfl, hS2⟩
   refine ⟨_, rfl, ?_⟩
   replace hS := hS.leave [] [0, 1] rfl rfl rfl hS2 rfl -- +2
   clear hS2
   have hA : Off A0 0 n A0 := off_zero
   have hcp : n - 0 ≤ n := by omega
   try replace hS := St.nm (M' := [_, _, .blk _ _ [_, _, _, _, _], .vw _ _]) hS rfl
   refine hK _ _ ?_; clear hK K
   refine wl_v (x_assign (tmP rfl rfl)) ?_
   refine wl_nil ?_
   refine then_n (hK4 _ _ ?_); clear hK4 K4
   refine wp_seq_k ?_; intro K5 hK5
   refine wlit ?_
   refine wl_v (x_move (tmP rfl rfl)) ?_
   refine wl_e rfl ?_; intro K hK
   refine ow_call Tryd.func55 rfl rfl (evs_cons (tmP rfl rfl) <| evs_nil) (byte_c gr A0 _ _ n _ l false _ _ (hS.enter [0] [1] rfl rfl) hA (by omega) hcp hl hb) ?_
   rintro e w ⟨A1, c1, rfl, hS2, hA, hcp⟩
   refine ⟨_, rfl, ?_⟩
   replace hS := hS.leave [0] [1, 2, 3] rfl rfl rfl hS2 rfl
   clear hS2
   try replace hS := St.nm (M' := [_, _, .blk _ _ [_, _, _, _, _], .vw _ _]) hS rfl
   refine hK _ _ ?_; clear hK K
   refine wl_v (x_move (tmP rfl rfl)) ?_
   refine wl_e rfl ?_; intro K hK
   refine ow_call Tryd.func55 rfl rfl (evs_cons (tmP rfl rfl) <| evs_nil) (byte_c gr A0 _ _ n _ l false _ _ (hS.enter [0] [1] rfl rfl) hA (by omega) hcp hl hb) ?_
   rintro e w ⟨A1, c1, rfl, hS2, hA, hcp⟩
   refine ⟨_, rfl, ?_⟩
   replace hS := hS.leave [0] [1, 2, 3] rfl rfl rfl hS2 rfl
   clear hS2
   try replace hS := St.nm (M' := [_, _, .blk _ _ [_, _, _, _, _], .vw _ _]) hS rfl
   refine hK _ _ ?_; clear hK K
   refine wl_v (x_move (tmP rfl rfl)) ?_
   refine wl_e rfl ?_; intro K hK
   refine ow_call Tryd.func54 rfl rfl (evs_cons (tmP rfl rfl) <| evs_nil) (word_c gr A0 _ _ n _ l false _ _ (hS.enter [0] [1] rfl rfl) hA (by omega) hcp hl hb) ?_
   rintro e w ⟨A1, c1, rfl, hS2, hA, hcp⟩
   refine ⟨_, rfl, ?_⟩
   replace hS := hS.leave [0] [1, 2, 3] rfl rfl rfl hS2 rfl
   clear hS2
   try replace hS := St.nm (M' := [_, _, .blk _ _ [_, _, _, _, _], .vw _ _]) hS rfl
   refine hK _ _ ?_; clear hK K
   refine wl_v (x_move (tmP rfl rfl)) ?_
   refine wl_e rfl ?_; intro K hK
   refine ow_call Tryd.func53 rfl rfl (evs_cons (tmP rfl rfl) <| evs_nil) (long_c gr A0 _ _ n _ l false _ _ (hS.enter [0] [1] rfl rfl) hA (by omega) hcp hl hb) ?_
   rintro e w ⟨A1, c1, rfl, hS2, hA, hcp⟩
   refine ⟨_, rfl, ?_⟩
   replace hS := hS.leave [0] [1, 2, 3] rfl rfl rfl hS2 rfl
   clear hS2
   try replace hS := St.nm (M' := [_, _, .blk _ _ [_, _, _, _, _], .vw _ _]) hS rfl
   refine hK _ _ ?_; clear hK K
   refine wl_v (x_build (bc_take (tmI rfl rfl) <| bc_take (tmI rfl rfl) <| bc_take (tmI rfl rfl) <| bc_take (tmI rfl rfl) <| bc_skip (.slice none 0 0) <| bc_nil) (by kernel_rfl)) ?_
   refine wl_e rfl ?_; intro K hK
   refine ow_alloc hS tz_36 rfl ?_
   clear hS; intro g4_9 w hg4_9 hS
   refine hK _ _ ?_; clear hK K
   refine wl_e rfl ?_; intro K hK
   refine ow_storeA hS 0 rfl ts_36 (tmP rfl rfl) (tmA rfl rfl) rfl rfl rfl ?_
   clear hS; intro w hS
   try replace hS := St.nm (M' := [.blk _ _ [_, _, _, _, _], _, _, .blk _ _ [_, _, _, _, _], .vw _ _]) hS rfl
   refine hK _ _ ?_; clear hK K
   refine wl_nil ?_
   refine then_n (hK5 _ _ ?_); clear hK5 K5
   refine wp_seq_k ?_; intro K6 hK6
   have hdr : ((l.drop (0 + 1 + 1 + 2 + 4)).take n).map u8v = (l.drop 8).map u8v := by rw [List.take_of_length_le (by rw [List.length_drop]; omega)]
   refine wlit ?_
   refine wl_v (x_move (tmP rfl rfl)) ?_
   refine wl_e rfl ?_; intro K hK
   refine ow_call Tryd.func99 rfl rfl (evs_cons (tmP rfl rfl) <| evs_nil) (rest_c gr A0 A1 (0 + 1 + 1 + 2 + 4) n c1 l false _ _ (hS.enter [1] [2] rfl rfl) hA (by omega) hcp) ?_
   rintro e w ⟨A2, c2, rfl, hS2⟩
   refine ⟨_, rfl, ?_⟩
   replace hS := (hS.leave [1] [0, 2, 3, 4] rfl rfl rfl hS2 rfl).pick [1, 0, 2, 3, 4] rfl rfl
   clear hS2
   try replace hS := St.nm (M' := [.blk _ _ [_, _, _, _, _], _, _, .blk _ _ [_, _, _, _, _], .vw _ _]) hS rfl
   refine hK _ _ ?_; clear hK K
   refine wl_v (x_fa 4 Tryd.underlying36 rfl rfl ts_22 (tmP rfl rfl)) ?_
   refine wl_e rfl ?_; intro K hK
   refine ow_store hS 0 rfl ts_22 (tmP rfl rfl) (tmS rfl rfl) rfl rfl ?_
   clear hS; intro w hS
   try replace hS := St.nm (M' := [.blk _ _ [_, _, _, _, _], _, _, .blk _ _ [_, _, _, _, _], .vw _ _]) hS rfl
   refine hK _ _ ?_; clear hK K
   refine wl_nil ?_
   refine then_n (hK6 _ _ ?_); clear hK6 K6
   refine wp_seq_k ?_; intro K7 hK7
   refine wlit ?_
   refine wl_v (x_loadA (cs := [_, _, _, _, _]) Tryd.underlying36 rfl ts_36 (tmP rfl rfl) (rangeB hS.ok 0 rfl rfl)) ?_
   refine wl_e rfl ?_; intro K hK
   refine ow_storeA hS 3 rfl ts_36 (tmP rfl rfl) (tmA rfl rfl) rfl rfl rfl ?_
   clear hS; intro w hS
   try replace hS := St.nm (M' := [.blk _ _ [_, _, _, _, _], _, _, .blk _ _ [_, _, _, _, _], .vw _ _]) hS rfl
   refine hK _ _ ?_; clear hK K
   refine wl_v (x_assign (ev_cN 0)) ?_
   refine wl_nil ?_
   refine then_n (hK7 _ _ ?_); clear hK7 K7
   refine wp_ret ?_
   refine ret2 rfl (.cell rfl rfl (load_rowB (cs := [_, _, _, _, _]) hS.ok 3 rfl Tryd.underlying36 rfl ts_36 rfl)) (.tmp rfl (show _ = Value.int _ _ from rfl)) ?_
   refine ⟨A1, rfl, ?_, hS.kp⟩
   rw [← hdr]
   exact NewV.offb (hS.newv 2 rfl) hl hA n

set_option maxRecDepth 100000 in
set_option maxHeartbeats 4000000 in
theorem icmp_parse_short (n : Nat) (A : Option Addr) (c : Nat) (w0 : World) (h8 : n < 8) :
    Calls Tryd.prog 95 #[.slice A n c] w0 fun e w' => e = .returned (.tuple #[.agg (msgV 0 0 0 0 none 0 0).toArray, .int .i64 20]) ∧ Kp [] w0 w' := by
  have hS := St.sv w0
  refine ent (n := 25) Tryd.func95 rfl rfl ?_
  refine wp_seq_k ?_; intro K1 hK1
  refine wlit ?_
  refine wl_e rfl ?_; intro K hK
  refine ow_alloc hS tz_36 rfl ?_
  clear hS; intro g0_0 w hg0_0 hS
  refine hK _ _ ?_; clear hK K
  refine wl_v (x_assign (ev_cN 0)) ?_
  refine wl_nil ?_
  refine then_n (hK1 _ _ ?_); clear hK1 K1
  refine wp_seq_k ?_; intro K2 hK2
  refine wp_seq_k ?_; intro K3 hK3
  refine wlit ?_
  refine wl_v (x_move (tmS rfl rfl)) ?_
  refine wl_v (x_len Tryd.underlying22 (tmS rfl rfl)) ?_
  refine wl_v (x_lss (tmI rfl rfl) (ev_cN 8)) ?_
  refine wl_nil ?_
  refine then_n (hK3 _ _ ?_); clear hK3 K3
  refine cnds (tm rfl) (fun hc0 => ?_) (fun hc0 => ?_)
  · exfalso
    simp at hc0
    omega
  all_goals
   try simp only [nrm] at hc0
   refine wp_seq_k ?_; intro K4 hK4
   refine wlit ?_
   refine wl_v (x_build (bc_skip (.int .u8 0) <| bc_skip (.int .u8 0) <| bc_skip (.int .u16 0) <| bc_skip (.int .u32 0) <| bc_skip (.slice none 0 0) <| bc_nil) (by kernel_rfl)) ?_
   refine wl_e rfl ?_; intro K hK
   refine ow_storeA hS 0 rfl ts_36 (tmP rfl rfl) (tmA rfl rfl) rfl rfl rfl ?_
   clear hS; intro w hS
   try replace hS := St.nm (M' := [.blk _ _ [_, _, _, _, _], _]) hS rfl
   refine hK _ _ ?_; clear hK K
   refine wl_v (x_assign (ev_cN 20)) ?_
   refine wl_nil ?_
   refine then_n (hK4 _ _ ?_); clear hK4 K4
   refine wp_ret ?_
   refine then_r ?_
   refine ret2 rfl (.cell rfl rfl (load_rowB (cs := [_, _, _, _, _]) hS.ok 0 rfl Tryd.underlying36 rfl ts_36 rfl)) (.tmp rfl (show _ = Value.int _ _ from rfl)) ?_
   exact ⟨rfl, hS.kp⟩

set_option maxRecDepth 100000 in
set_option maxHeartbeats 4000000 in
theorem ricmp_parse_c (n : Nat) (A : Option Addr) (c : Nat) (l : List Nat) (w0 : World) (hv : View w0 w0.heap.size A (l.map u8v)) (hl : l.length = n) (hc : n ≤ c) (hb : Bytes l) (hn4 : n ≤ 1000000) (h8 : 8 ≤ n) :
    Calls Tryd.prog 25 #[.slice A n c] w0 fun e w' => ∃ A' c', e = .returned (.tuple #[.agg (msgV (getN l 0 1) (getN l 1 1) (getN l 2 2) (getN l 4 4) A' (n - 8) c').toArray, .bool true]) ∧ NewV w0 w' A' ((l.drop 8).map u8v) ∧ Kp [] w0 w' := by
  have hS := (St.sv w0).vcons rfl hv
  obtain ⟨b4, o4, rfl⟩ := view_some hv (by rw [List.length_map]; omega)
  have h2 := getN_lt hb 2 2
  have h4 := getN_lt hb 4 4
  refine ent (n := 25) Tryd.func25 rfl rfl ?_
  refine wp_seq_k ?_; intro K1 hK1
  refine wlit ?_
  refine wl_e rfl ?_; intro K hK
  refine ow_alloc hS tz_44 rfl ?_
  clear hS; intro g0_0 w hg0_0 hS
  refine hK _ _ ?_; clear hK K
  refine wl_v (x_assign ev_c) ?_
  refine wl_nil ?_
  refine then_n (hK1 _ _ ?_); clear hK1 K1
  refine wp_seq_k ?_; intro K2 hK2
  refine wp_seq_k ?_; intro K3 hK3
  refine wlit ?_
  refine wl_v (x_move (tmS rfl rfl)) ?_
  refine wl_v (x_len Tryd.underlying22 (tmS rfl rfl)) ?_
  refine wl_v (x_lss (tmI rfl rfl) (ev_cN 8)) ?_
  refine wl_nil ?_
  refine then_n (hK3 _ _ ?_); clear hK3 K3
  refine cnd (tm rfl) (fun hc0 => ?_) (fun hc0 => ?_)
  · exfalso
    simp at hc0
    omega
  all_goals
   try simp only [nrm] at hc0
   refine wp_skip ?_
   refine then_n (hK2 _ _ ?_); clear hK2 K2
   refine wp_seq_k ?_; intro K4 hK4
   replace hS := (hS.dropb 1 8 rfl (by omega : l.length ≤ c)).pick [1, 0, 2] rfl rfl
   try replace hS := St.nm (M' := [.blk _ _ [_, _, _, _, _], .vw _ _, .vw _ _]) hS rfl
   refine rg_startk 1 hS mixed_ ?_
   clear hS; intro w hS
   refine rg_take 0 rfl rfl (by kernel_rfl) (by kernel_rfl) (by kernel_rfl) (want_0) (fun w hok => x_move (tmS rfl rfl)) ?_
   refine rg_take 1 rfl rfl (by kernel_rfl) (by kernel_rfl) (by kernel_rfl) (want_0) (fun w hok => x_ixs1 Tryd.underlying22 ts_5 (tmS rfl rfl) (ev_cN 0) (by omega)) ?_
   refine rg_take 2 rfl rfl (by kernel_rfl) (by kernel_rfl) (by kernel_rfl) (want_0) (fun w hok => x_load Tryd.underlying5 rfl (tmP rfl rfl) (cellV hok 1 rfl (getm (by omega)))) ?_
   refine rg_take 3 rfl rfl (by kernel_rfl) (by kernel_rfl) (by kernel_rfl) (want_0) (fun w hok => x_move (tmS rfl rfl)) ?_
   refine rg_take 4 rfl rfl (by kernel_rfl) (by kernel_rfl) (by kernel_rfl) (want_0) (fun w hok => x_ixs1 Tryd.underlying22 ts_5 (tmS rfl rfl) (ev_cN 1) (by omega)) ?_
   refine rg_take 5 rfl rfl (by kernel_rfl) (by kernel_rfl) (by kernel_rfl) (want_0) (fun w hok => x_load Tryd.underlying5 rfl (tmP rfl rfl) (cellV hok 1 rfl (getm (by omega)))) ?_
   refine rg_take 6 rfl rfl (by kernel_rfl) (by kernel_rfl) (by kernel_rfl) (want_0) (fun w hok => x_move (tmS rfl rfl)) ?_
   refine rg_take 9 rfl rfl (by kernel_rfl) (by kernel_rfl) (by kernel_rfl) (want_0) (fun w hok => x_move (tmS rfl rfl)) ?_
   refine rg_take 13 rfl rfl (by kernel_rfl) (by kernel_rfl) (by kernel_rfl) (want_0) (fun w hok => x_move (tmS rfl rfl)) ?_
   refine rg_take 14 rfl rfl (by kernel_rfl) (by kernel_rfl) (by kernel_rfl) (want_0) (fun w hok => x_sliceL Tryd.underlying22 ts_5 (tmS rfl rfl) (ev_cN 8) (by omega)) ?_
   refine rg_step2 7 12 rfl rfl (by kernel_rfl) (want_0) (want_0) (oks_drop hS 1 rfl) ?_ ?_
   · intro K hK
     refine ow_call Tryd.func45 rfl rfl (evs_cons (tmS rfl rfl) <| evs_cons (ev_cN 2) <| evs_cons (ev_cN 2) <| evs_nil) (get_c n _ c l 2 2 _ (by first | exact viewV hS.ok 2 rfl | exact viewV hS.ok 3 rfl) hl hc hn4 hb (by omega) (by omega)) ?_
     rintro e w ⟨rfl, hk⟩
     refine ⟨_, rfl, ?_⟩
     replace hS := hS.kept hk
     clear hk
     refine hK _ _ ?_; clear hK K
     refine rg_take 8 rfl rfl (by kernel_rfl) (by kernel_rfl) (by kernel_rfl) (want_0) (fun w hok => x_convN Tryd.underlying24 Tryd.underlying27 (tmI rfl rfl) (fit_u16 (by omega))) ?_
     refine rg_step2 10 12 rfl rfl (by kernel_rfl) (want_0) (want_0) (oks_drop hS 1 rfl) ?_ ?_
     · intro K hK
       refine ow_call Tryd.func45 rfl rfl (evs_cons (tmS rfl rfl) <| evs_cons (ev_cN 4) <| evs_cons (ev_cN 4) <| evs_nil) (get_c n _ c l 4 4 _ (by first | exact viewV hS.ok 2 rfl | exact viewV hS.ok 3 rfl) hl hc hn4 hb (by omega) (by omega)) ?_
       rintro e w ⟨rfl, hk⟩
       refine ⟨_, rfl, ?_⟩
       replace hS := hS.kept hk
       clear hk
       refine hK _ _ ?_; clear hK K
       refine rg_take 11 rfl rfl (by kernel_rfl) (by kernel_rfl) (by kernel_rfl) (want_0) (fun w hok => x_convN Tryd.underlying24 Tryd.underlying30 (tmI rfl rfl) (fit_u32 (by omega))) ?_
       refine rg_step 12 rfl (by kernel_rfl) (want_0) (oks_drop hS 1 rfl) ?_; intro K hK
       refine ow_build0 hS Tryd.underlying22 tz_5 rfl rfl ?_
       clear hS; intro g3_12 w hg3_12 hS
       refine hK _ _ ?_; clear hK K
       refine rg_step 15 rfl (by kernel_rfl) (want_0) (oks_drop hS 2 rfl) ?_; intro K hK
       refine ow_appendV hS 0 rfl (viewV hS.ok 2 rfl) Tryd.underlying22 tz_5 rfl (tmS rfl rfl) (tmS rfl rfl) (by first | exact u8v_one _ | (intro u hu; simp at hu; first | (rcases hu with rfl | rfl <;> rfl) | (obtain ⟨_, _, rfl⟩ := hu; rfl))) ⟨by decide, by first | rfl | (simp; done) | (simp; omega)⟩ (by simp only [maxLen]; omega) (by omega) ?_; clear hS; intro g3_15 cg3_15 w hAg3_15 hCg3_15 hS
       refine hK _ _ ?_; clear hK K
       refine rg_take 16 rfl rfl (by kernel_rfl) (by kernel_rfl) (by kernel_rfl) (want_0) (fun w hok => x_build (bc_take (tmI rfl rfl) <| bc_take (tmI rfl rfl) <| bc_take (tmI rfl rfl) <| bc_take (tmI rfl rfl) <| bc_take (tmS rfl rfl) <| bc_nil) (by kernel_rfl)) ?_
       refine rg_step 17 rfl (by kernel_rfl) (want_0) (oks_drop hS 2 rfl) ?_; intro K hK
       refine ow_storeA hS 1 rfl ts_44 (tmP rfl rfl) (tmA rfl rfl) rfl rfl rfl ?_
       clear hS; intro w hS
       try replace hS := St.nm (M' := [.row _ _ _ _ _, .blk _ _ [_, _, _, _, _], .vw _ _, .vw _ _]) hS rfl
       refine hK _ _ ?_; clear hK K
       refine rg_take 18 rfl rfl (by kernel_rfl) (by kernel_rfl) (by kernel_rfl) (want_0) (fun w hok => x_assign ev_c) ?_
       refine rg_done (oks_drop hS 2 rfl) (by kernel_rfl) ?_
       simp only [List.nil_append, Nat.zero_add] at hS
       refine then_n (hK4 _ _ ?_); clear hK4 K4
       refine wp_ret ?_
       refine ret2 rfl (.cell rfl rfl (load_rowB (cs := [_, _, _, _, _]) hS.ok 1 rfl Tryd.underlying44 rfl ts_44 rfl)) (.tmp rfl (show _ = Value.bool _ from rfl)) ?_
       refine ⟨g3_15, cg3_15, ?_, hS.newv 0 rfl, hS.kp⟩
       rw [getN_one (by omega), getN_one (by omega)]
       rfl
     · intro K hK
       refine ow_build0 hS Tryd.underlying22 tz_5 rfl rfl ?_
       clear hS; intro g3_12 w hg3_12 hS
       refine hK _ _ ?_; clear hK K
       refine rg_step 10 rfl (by kernel_rfl) (want_0) (oks_drop hS 2 rfl) ?_; intro K hK
       refine ow_call Tryd.func45 rfl rfl (evs_cons (tmS rfl rfl) <| evs_cons (ev_cN 4) <| evs_cons (ev_cN 4) <| evs_nil) (get_c n _ c l 4 4 _ (by first | exact viewV hS.ok 2 rfl | exact viewV hS.ok 3 rfl) hl hc hn4 hb (by omega) (by omega)) ?_
       rintro e w ⟨rfl, hk⟩
       refine ⟨_, rfl, ?_⟩
       replace hS := hS.kept hk
       clear hk
       refine hK _ _ ?_; clear hK K
       refine rg_take 11 rfl rfl (by kernel_rfl) (by kernel_rfl) (by kernel_rfl) (want_0) (fun w hok => x_convN Tryd.underlying24 Tryd.underlying30 (tmI rfl rfl) (fit_u32 (by omega))) ?_
       refine rg_step 15 rfl (by kernel_rfl) (want_0) (oks_drop hS 2 rfl) ?_; intro K hK
       refine ow_appendV hS 0 rfl (viewV hS.ok 2 rfl) Tryd.underlying22 tz_5 rfl (tmS rfl rfl) (tmS rfl rfl) (by first | exact u8v_one _ | (intro u hu; simp at hu; first | (rcases hu with rfl | rfl <;> rfl) | (obtain ⟨_, _, rfl⟩ := hu; rfl))) ⟨by decide, by first | rfl | (simp; done) | (simp; omega)⟩ (by simp only [maxLen]; omega) (by omega) ?_; clear hS; intro g3_15 cg3_15 w hAg3_15 hCg3_15 hS
       refine hK _ _ ?_; clear hK K
       refine rg_take 16 rfl rfl (by kernel_rfl) (by kernel_rfl) (by kernel_rfl) (want_0) (fun w hok => x_build (bc_take (tmI rfl rfl) <| bc_take (tmI rfl rfl) <| bc_take (tmI rfl rfl) <| bc_take (tmI rfl rfl) <| bc_take (tmS rfl rfl) <| bc_nil) (by kernel_rfl)) ?_
       refine rg_step 17 rfl (by kernel_rfl) (want_0) (oks_drop hS 2 rfl) ?_; intro K hK
       refine ow_storeA hS 1 rfl ts_44 (tmP rfl rfl) (tmA rfl rfl) rfl rfl rfl ?_
       clear hS; intro w hS
       try replace hS := St.nm (M' := [.row _ _ _ _ _, .blk _ _ [_, _, _, _, _], .vw _ _, .vw _ _]) hS rfl
       refine hK _ _ ?_; clear hK K
       refine rg_take 18 rfl rfl (by kernel_rfl) (by kernel_rfl) (by kernel_rfl) (want_0) (fun w hok => x_assign ev_c) ?_
       refine rg_done (oks_drop hS 2 rfl) (by kernel_rfl) ?_
       simp only [List.nil_append, Nat.zero_add] at hS
       refine then_n (hK4 _ _ ?_); clear hK4 K4
       refine wp_ret ?_
       refine ret2 rfl (.cell rfl rfl (load_rowB (cs := [_, _, _, _, _]) hS.ok 1 rfl Tryd.underlying44 rfl ts_44 rfl)) (.tmp rfl (show _ = Value.bool _ from rfl)) ?_
       refine ⟨g3_15, cg3_15, ?_, hS.newv 0 rfl, hS.kp⟩
       rw [getN_one (by omega), getN_one (by omega)]
       rfl
   · intro K hK
     refine ow_build0 hS Tryd.underlying22 tz_5 rfl rfl ?_
     clear hS; intro g3_12 w hg3_12 hS
     refine hK _ _ ?_; clear hK K
     refine rg_step 7 rfl (by kernel_rfl) (want_0) (oks_drop hS 2 rfl) ?_; intro K hK
     refine ow_call Tryd.func45 rfl rfl (evs_cons (tmS rfl rfl) <| evs_cons (ev_cN 2) <| evs_cons (ev_cN 2) <| evs_nil) (get_c n _ c l 2 2 _ (by first | exact viewV hS.ok 2 rfl | exact viewV hS.ok 3 rfl) hl hc hn4 hb (by omega) (by omega)) ?_
     rintro e w ⟨rfl, hk⟩
     refine ⟨_, rfl, ?_⟩
     replace hS := hS.kept hk
     clear hk
     refine hK _ _ ?_; clear hK K
     refine rg_take 8 rfl rfl (by kernel_rfl) (by kernel_rfl) (by kernel_rfl) (want_0) (fun w hok => x_convN Tryd.underlying24 Tryd.underlying27 (tmI rfl rfl) (fit_u16 (by omega))) ?_
     refine rg_step 10 rfl (by kernel_rfl) (want_0) (oks_drop hS 2 rfl) ?_; intro K hK
     refine ow_call Tryd.func45 rfl rfl (evs_cons (tmS rfl rfl) <| evs_cons (ev_cN 4) <| evs_cons (ev_cN 4) <| evs_nil) (get_c n _ c l 4 4 _ (by first | exact viewV hS.ok 2 rfl | exact viewV hS.ok 3 rfl) hl hc hn4 hb (by omega) (by omega)) ?_
     rintro e w ⟨rfl, hk⟩
     refine ⟨_, rfl, ?_⟩
     replace hS := hS.kept hk
     clear hk
     refine hK _ _ ?_; clear hK K
     refine rg_take 11 rfl rfl (by kernel_rfl) (by kernel_rfl) (by kernel_rfl) (want_0) (fun w hok => x_convN Tryd.underlying24 Tryd.underlying30 (tmI rfl rfl) (fit_u32 (by omega))) ?_
     refine rg_step 15 rfl (by kernel_rfl) (want_0) (oks_drop hS 2 rfl) ?_; intro K hK
     refine ow_appendV hS 0 rfl (viewV hS.ok 2 rfl) Tryd.underlying22 tz_5 rfl (tmS rfl rfl) (tmS rfl rfl) (by first | exact u8v_one _ | (intro u hu; simp at hu; first | (rcases hu with rfl | rfl <;> rfl) | (obtain ⟨_, _, rfl⟩ := hu; rfl))) ⟨by decide, by first | rfl | (simp; done) | (simp; omega)⟩ (by simp only [maxLen]; omega) (by omega) ?_; clear hS; intro g3_15 cg3_15 w hAg3_15 hCg3_15 hS
     refine hK _ _ ?_; clear hK K
     refine rg_take 16 rfl rfl (by kernel_rfl) (by kernel_rfl) (by kernel_rfl) (want_0) (fun w hok => x_build (bc_take (tmI rfl rfl) <| bc_take (tmI rfl rfl) <| bc_take (tmI rfl rfl) <| bc_take (tmI rfl rfl) <| bc_take (tmS rfl rfl) <| bc_nil) (by kernel_rfl)) ?_
     refine rg_step 17 rfl (by kernel_rfl) (want_0) (oks_drop hS 2 rfl) ?_; intro K hK
     refine ow_storeA hS 1 rfl ts_44 (tmP rfl rfl) (tmA rfl rfl) rfl rfl rfl ?_
     clear hS; intro w hS
     try replace hS := St.nm (M' := [.row _ _ _ _ _, .blk _ _ [_, _, _, _, _], .vw _ _, .vw _ _]) hS rfl
     refine hK _ _ ?_; clear hK K
     refine rg_take 18 rfl rfl (by kernel_rfl) (by kernel_rfl) (by kernel_rfl) (want_0) (fun w hok => x_assign ev_c) ?_
     refine rg_done (oks_drop hS 2 rfl) (by kernel_rfl) ?_
     simp only [List.nil_append, Nat.zero_add] at hS
     refine then_n (hK4 _ _ ?_); clear hK4 K4
     refine wp_ret ?_
     refine ret2 rfl (.cell rfl rfl (load_rowB (cs := [_, _, _, _, _]) hS.ok 1 rfl Tryd.underlying44 rfl ts_44 rfl)) (.tmp rfl (show _ = Value.bool _ from rfl)) ?_
     refine ⟨g3_15, cg3_15, ?_, hS.newv 0 rfl, hS.kp⟩
     rw [getN_one (by omega), getN_one (by omega)]
     rfl

set_option maxRecDepth 100000 in
set_option maxHeartbeats 4000000 in
theorem ricmp_parse_short (n : Nat) (A : Option Addr) (c : Nat) (w0 : World) (h8 : n < 8) :
    Calls Tryd.prog 25 #[.slice A n c] w0 fun e w' => e = .returned (.tuple #[.agg (msgV 0 0 0 0 none 0 0).toArray, .bool false]) ∧ Kp [] w0 w' := by
  have hS := St.sv w0
  refine ent (n := 25) Tryd.func25 rfl rfl ?_
  refine wp_seq_k ?_; intro K1 hK1
  refine wlit ?_
  refine wl_e rfl ?_; intro K hK
  refine ow_alloc hS tz_44 rfl ?_
  clear hS; intro g0_0 w hg0_0 hS
  refine hK _ _ ?_; clear hK K
  refine wl_v (x_assign ev_c) ?_
  refine wl_nil ?_
  refine then_n (hK1 _ _ ?_); clear hK1 K1
  refine wp_seq_k ?_; intro K2 hK2
  refine wp_seq_k ?_; intro K3 hK3
  refine wlit ?_
  refine wl_v (x_move (tmS rfl rfl)) ?_
  refine wl_v (x_len Tryd.underlying22 (tmS rfl rfl)) ?_
  refine wl_v (x_lss (tmI rfl rfl) (ev_cN 8)) ?_
  refine wl_nil ?_
  refine then_n (hK3 _ _ ?_); clear hK3 K3
  refine cnds (tm rfl) (fun hc0 => ?_) (fun hc0 => ?_)
  · exfalso
    simp at hc0
    omega
  all_goals
   try simp only [nrm] at hc0
   refine wp_seq_k ?_; intro K4 hK4
   refine wlit ?_
   refine wl_v (x_build (bc_skip (.int .u8 0) <| bc_skip (.int .u8 0) <| bc_skip (.int .u16 0) <| bc_skip (.int .u32 0) <| bc_skip (.slice none 0 0) <| bc_nil) (by kernel_rfl)) ?_
   refine wl_e rfl ?_; intro K hK
   refine ow_storeA hS 0 rfl ts_44 (tmP rfl rfl) (tmA rfl rfl) rfl rfl rfl ?_
   clear hS; intro w hS
   try replace hS := St.nm (M' := [.blk _ _ [_, _, _, _, _], _]) hS rfl
   refine hK _ _ ?_; clear hK K
   refine wl_v (x_assign ev_c) ?_
   refine wl_nil ?_
   refine then_n (hK4 _ _ ?_); clear hK4 K4
   refine wp_ret ?_
   refine then_r ?_
   refine ret2 rfl (.cell rfl rfl (load_rowB (cs := [_, _, _, _, _]) hS.ok 0 rfl Tryd.underlying44 rfl ts_44 rfl)) (.tmp rfl (show _ = Value.bool _ from rfl)) ?_
   exact ⟨rfl, hS.kp⟩
end Go.Proofs.YtmekadkmmddocaaDoor
