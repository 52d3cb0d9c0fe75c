/- tcp: Parse and the reference's Parse, Same, the law's Of and To, by contract. Conditions: none but bounds. -/
import Derived.Test.YtcobjneobdihkaaRd
namespace Go.Proofs.Ytcobjneobdihkaa
open Go.RowKit

def segV (sp dp seq ack fl win sum urg : Nat) (O : Option Addr) (m c : Nat) (L : Option Addr) (k d : Nat) : List Value :=
  [.int .u16 (sp : Int), .int .u16 (dp : Int), .int .u32 (seq : Int), .int .u32 (ack : Int), .int .u8 (fl : Int), .int .u16 (win : Int), .int .u16 (sum : Int), .int .u16 (urg : Int), .slice O m c, .slice L k d]

set_option maxRecDepth 100000 in
set_option maxHeartbeats 4000000 in
theorem tcp_parse_c (n : Nat) (A : Option Addr) (c : Nat) (l : List Nat) (w0 : World) (hv : View w0 w0.heap.size A (l.map u8v)) (hl : l.length = n) (hb : Bytes l) (hn4 : n ≤ 1000000)
    (sz : Nat) (hsz : sz = nth l 12 / 16 * 4) (h1 : 20 ≤ sz) (h2 : nth l 12 % 16 = 0) (h3 : sz ≤ n) :
    Calls Try.prog 33 #[.slice A n c] w0 fun e w' => ∃ O L, e = .returned (.tuple #[.agg (segV (getN l 0 2) (getN l 2 2) (getN l 4 4) (getN l 8 4) (getN l 13 1) (getN l 14 2) (getN l 16 2) (getN l 18 2) O (sz - 20) (sz - 20) L (n - sz) (n - sz)).toArray, .int .i64 0]) ∧
      NewV w0 w' O (((l.drop 20).take (sz - 20)).map u8v) ∧ NewV w0 w' L ((l.drop sz).map u8v) ∧ Kp [] w0 w' := by
  have hS := (St.sv w0).vcons rfl hv
  have hq : getN l (0 + 2 + 2 + 4 + 4) 1 = nth l 12 := getN_one (by omega)
  have hqb := nth_lt hb 12
  have hand : getN l (0 + 2 + 2 + 4 + 4) 1 &&& 15 = getN l (0 + 2 + 2 + 4 + 4) 1 % 16 := Nat.and_two_pow_sub_one_eq_mod _ 4
  have hand2 : getN l 12 1 &&& 15 = nth l 12 % 16 := by rw [← hq]; exact hand
  have hz : getN l (0 + 2 + 2 + 4 + 4) 1 / 2 ^ 4 * 4 = sz := by rw [hq, hsz]
  refine ent (n := 63) Try.func33 rfl rfl ?_
  refine wp_seq_k ?_; intro K1 hK1
  refine wlit ?_
  refine wl_e rfl ?_; intro K hK
  refine ow_alloc hS tz_49 rfl ?_
  clear hS; intro g0_0 w hg0_0 hS
  refine hK _ _ ?_; clear hK K
  refine wl_v (x_assign (ev_cN 0)) ?_
  refine wl_nil ?_
  refine then_n (hK1 _ _ ?_); clear hK1 K1
  refine wp_seq_k ?_; intro K2 hK2
  refine wp_seq_k ?_; intro K3 hK3
  refine wlit ?_
  refine wl_v (x_move (tmS rfl rfl)) ?_
  refine wl_v (x_len Try.underlying22 (tmS rfl rfl)) ?_
  refine wl_v (x_lss (tmI rfl rfl) (ev_cN 20)) ?_
  refine wl_nil ?_
  refine then_n (hK3 _ _ ?_); clear hK3 K3
  refine cnd (tm rfl) (fun hc0 => ?_) (fun hc0 => ?_)
  · exfalso
    simp at hc0
    omega
  all_goals
   try simp only [nrm] at hc0
   refine wp_skip ?_
   refine then_n (hK2 _ _ ?_); clear hK2 K2
   refine wp_seq_k ?_; intro K4 hK4
   refine wlit ?_
   refine wl_v (x_move (tmS rfl rfl)) ?_
   refine wl_e rfl ?_; intro K hK
   refine ow_call Try.func14 rfl rfl (evs_cons (tmS rfl rfl) <| evs_nil) (read_c n A c l _ (viewV hS.ok 1 rfl) hl hn4) ?_
   rintro e w ⟨gr, A0, rfl, hS2⟩
   refine ⟨_, rfl, ?_⟩
   replace hS := hS.adds hS2 rfl -- +gr,rowb
   clear hS2
   have hA : Off A0 0 n A0 := off_zero
   have hcp : n - 0 ≤ n := by omega
   refine hK _ _ ?_; clear hK K
   refine wl_v (x_assign (tmP rfl rfl)) ?_
   refine wl_nil ?_
   refine then_n (hK4 _ _ ?_); clear hK4 K4
   refine wp_seq_k ?_; intro K5 hK5
   refine wlit ?_
   refine wl_v (x_move (tmP rfl rfl)) ?_
   refine wl_e rfl ?_; intro K hK
   refine ow_call Try.func15 rfl rfl (evs_cons (tmP rfl rfl) <| evs_nil) (word_c gr A0 _ _ n _ l false _ _ (hS.enter [0] [1] rfl rfl) hA (by omega) hcp hl hb) ?_
   rintro e w ⟨A1, c1, rfl, hS2, hA, hcp⟩
   refine ⟨_, rfl, ?_⟩
   replace hS := hS.turn 0 rfl rfl hS2 rfl
   clear hS2
   try replace hS := St.nm (M' := [_, .row _ _ _ _ _, .blk _ _ [_, _, _, _, _, _, _, _, _, _], .vw _ _]) hS rfl
   refine hK _ _ ?_; clear hK K
   refine wl_v (x_move (tmP rfl rfl)) ?_
   refine wl_e rfl ?_; intro K hK
   refine ow_call Try.func15 rfl rfl (evs_cons (tmP rfl rfl) <| evs_nil) (word_c gr A0 _ _ n _ l false _ _ (hS.enter [0] [1] rfl rfl) hA (by omega) hcp hl hb) ?_
   rintro e w ⟨A1, c1, rfl, hS2, hA, hcp⟩
   refine ⟨_, rfl, ?_⟩
   replace hS := hS.turn 0 rfl rfl hS2 rfl
   clear hS2
   try replace hS := St.nm (M' := [_, .row _ _ _ _ _, .blk _ _ [_, _, _, _, _, _, _, _, _, _], .vw _ _]) hS rfl
   refine hK _ _ ?_; clear hK K
   refine wl_v (x_move (tmP rfl rfl)) ?_
   refine wl_e rfl ?_; intro K hK
   refine ow_call Try.func25 rfl rfl (evs_cons (tmP rfl rfl) <| evs_nil) (long_c gr A0 _ _ n _ l false _ _ (hS.enter [0] [1] rfl rfl) hA (by omega) hcp hl hb) ?_
   rintro e w ⟨A1, c1, rfl, hS2, hA, hcp⟩
   refine ⟨_, rfl, ?_⟩
   replace hS := hS.turn 0 rfl rfl hS2 rfl
   clear hS2
   try replace hS := St.nm (M' := [_, .row _ _ _ _ _, .blk _ _ [_, _, _, _, _, _, _, _, _, _], .vw _ _]) hS rfl
   refine hK _ _ ?_; clear hK K
   refine wl_v (x_move (tmP rfl rfl)) ?_
   refine wl_e rfl ?_; intro K hK
   refine ow_call Try.func25 rfl rfl (evs_cons (tmP rfl rfl) <| evs_nil) (long_c gr A0 _ _ n _ l false _ _ (hS.enter [0] [1] rfl rfl) hA (by omega) hcp hl hb) ?_
   rintro e w ⟨A1, c1, rfl, hS2, hA, hcp⟩
   refine ⟨_, rfl, ?_⟩
   replace hS := hS.turn 0 rfl rfl hS2 rfl
   clear hS2
   try replace hS := St.nm (M' := [_, .row _ _ _ _ _, .blk _ _ [_, _, _, _, _, _, _, _, _, _], .vw _ _]) hS rfl
   refine hK _ _ ?_; clear hK K
   refine wl_v (x_build (bc_take (tmI rfl rfl) <| bc_take (tmI rfl rfl) <| bc_take (tmI rfl rfl) <| bc_take (tmI rfl rfl) <| bc_skip (.int .u8 0) <| bc_skip (.int .u16 0) <| bc_skip (.int .u16 0) <| bc_skip (.int .u16 0) <| bc_skip (.slice none 0 0) <| bc_skip (.slice none 0 0) <| bc_nil) (by kernel_rfl)) ?_
   refine wl_e rfl ?_; intro K hK
   refine ow_alloc hS tz_49 rfl ?_
   clear hS; intro g4_9 w hg4_9 hS
   refine hK _ _ ?_; clear hK K
   refine wl_e rfl ?_; intro K hK
   refine ow_storeA hS 0 rfl ts_49 (tmP rfl rfl) (tmA rfl rfl) rfl rfl rfl ?_
   clear hS; intro w hS
   try replace hS := St.nm (M' := [.blk _ _ [_, _, _, _, _, _, _, _, _, _], _, .row _ _ _ _ _, .blk _ _ [_, _, _, _, _, _, _, _, _, _], .vw _ _]) hS rfl
   refine hK _ _ ?_; clear hK K
   refine wl_nil ?_
   refine then_n (hK5 _ _ ?_); clear hK5 K5
   refine wp_seq_k ?_; intro K6 hK6
   refine wlit ?_
   refine wl_v (x_move (tmP rfl rfl)) ?_
   refine wl_e rfl ?_; intro K hK
   refine ow_call Try.func30 rfl rfl (evs_cons (tmP rfl rfl) <| evs_nil) (byte_c gr A0 _ _ n _ l false _ _ (hS.enter [1] [2] rfl rfl) hA (by omega) hcp hl hb) ?_
   rintro e w ⟨A1, c1, rfl, hS2, hA, hcp⟩
   refine ⟨_, rfl, ?_⟩
   replace hS := hS.turn 1 rfl rfl hS2 rfl
   clear hS2
   try replace hS := St.nm (M' := [.blk _ _ [_, _, _, _, _, _, _, _, _, _], _, .row _ _ _ _ _, .blk _ _ [_, _, _, _, _, _, _, _, _, _], .vw _ _]) hS rfl
   refine hK _ _ ?_; clear hK K
   refine wl_v (x_assign (tmI rfl rfl)) ?_
   refine wl_nil ?_
   refine then_n (hK6 _ _ ?_); clear hK6 K6
   refine wp_seq_k ?_; intro K7 hK7
   refine wlit ?_
   refine wl_v (x_move (tmI rfl rfl)) ?_
   refine wl_v (x_shrN (tmI rfl rfl) (ev_cN 4) (fit_u8 (by omega))) ?_
   refine wl_v (x_convN Try.underlying5 Try.underlying3 (tmI rfl rfl) (fit_i64 (by omega))) ?_
   refine wl_v (x_mulN (tmI rfl rfl) (ev_cN 4) (fit_i64 (by omega))) ?_
   refine wl_v (x_assign (tmI rfl (congrArg (fun q : Nat => Value.int .i64 (q : Int)) hz))) ?_
   refine wl_nil ?_
   refine then_n (hK7 _ _ ?_); clear hK7 K7
   refine wp_seq_k ?_; intro K8 hK8
   refine wp_seq_k ?_; intro K9 hK9
   refine wlit ?_
   refine wl_v (x_move (tmI rfl rfl)) ?_
   refine wl_v (x_lss (tmI rfl rfl) (ev_cN 20)) ?_
   refine wl_v (x_move (tmB rfl rfl)) ?_
   refine gs_wl (tm (t := 31) rfl) (fun hg7_2 => ?_) (fun hg7_2 => ?_)
   · have hg7_2' := hg7_2; (try simp only [nrm] at hg7_2'); try (exfalso; first | with_reducible exact absurd hg7_2 Bool.false_ne_true | with_reducible exact absurd hg7_2.symm Bool.false_ne_true | omega | (simp at hg7_2; done))
     all_goals
      refine wl_s rfl (want_n rfl rfl rfl rfl (by rw [hg7_2]; rfl)) ?_
      refine wl_s rfl (want_n rfl rfl rfl rfl (by rw [hg7_2]; rfl)) ?_
      refine wl_s rfl (want_n rfl rfl rfl rfl (by rw [hg7_2]; rfl)) ?_
      refine wl_v (x_pickT (tmB rfl rfl) hg7_2 ev_c) ?_
      refine wl_nil ?_
      refine then_n (hK9 _ _ ?_); clear hK9 K9
      refine cnd_t (tmB rfl rfl) rfl ?_
      refine wp_seq_k ?_; intro K10 hK10
      refine wlit ?_
      refine wl_v (x_build (bc_skip (.int .u16 0) <| bc_skip (.int .u16 0) <| bc_skip (.int .u32 0) <| bc_skip (.int .u32 0) <| bc_skip (.int .u8 0) <| bc_skip (.int .u16 0) <| bc_skip (.int .u16 0) <| bc_skip (.int .u16 0) <| bc_skip (.slice none 0 0) <| bc_skip (.slice none 0 0) <| bc_nil) (by kernel_rfl)) ?_
      refine wl_e rfl ?_; intro K hK
      refine ow_storeA hS 3 rfl ts_49 (tmP rfl rfl) (tmA rfl rfl) rfl rfl rfl ?_
      clear hS; intro w hS
      try replace hS := St.nm (M' := [.blk _ _ [_, _, _, _, _, _, _, _, _, _], _, .row _ _ _ _ _, .blk _ _ [_, _, _, _, _, _, _, _, _, _], .vw _ _]) hS rfl
      refine hK _ _ ?_; clear hK K
      refine wl_v (x_assign (ev_cN 21)) ?_
      refine wl_nil ?_
      refine then_n (hK10 _ _ ?_); clear hK10 K10
      refine wp_ret ?_
      refine then_r ?_
      refine ret2 rfl (.cell rfl rfl (load_rowB (cs := [_, _, _, _, _, _, _, _, _, _]) hS.ok 3 rfl Try.underlying49 rfl ts_49 rfl)) (.tmp rfl (show _ = Value.int _ _ from rfl)) ?_
      have hp : 0 + 2 + 2 + 4 + 4 + 1 + 1 + 2 + 2 + 2 + (sz - 20) = sz := by omega
      refine ⟨A1, A2, by rw [hp]; rfl, NewV.offb (hS.newv 2 rfl) hl hA (sz - 20), ?_, hS.kp⟩
      have h4 := NewV.offb (hS.newv 2 rfl) hl hA2 n
      rw [hp, List.take_of_length_le (by rw [List.length_drop]; omega)] at h4
      exact h4
   have hg7_2' := hg7_2; (try simp only [nrm] at hg7_2')
   all_goals
    refine wl_gv (want_y rfl rfl rfl rfl (by rw [hg7_2]; rfl)) (x_move (tmI rfl rfl)) ?_
    refine wl_gv (want_y rfl rfl rfl rfl (by rw [hg7_2]; rfl)) (x_andN (tmI rfl rfl) (ev_cN 15) (fit_u8 (by omega)) (fit_u8 (by omega))) ?_
    refine wl_gv (want_y rfl rfl rfl rfl (by rw [hg7_2]; rfl)) (x_neq (tmI rfl rfl) (ev_cN 0)) ?_
    refine wl_v (x_pickF (tmB rfl rfl) hg7_2 (tmB rfl rfl)) ?_
    refine wl_nil ?_
    refine then_n (hK9 _ _ ?_); clear hK9 K9
    refine cnd (tm rfl) (fun hc1 => ?_) (fun hc1 => ?_)
    · exfalso
      simp at hc1
      omega
    all_goals
     try simp only [nrm] at hc1
     refine wp_skip ?_
     refine then_n (hK8 _ _ ?_); clear hK8 K8
     refine wp_seq_k ?_; intro K12 hK12
     refine wp_seq_k ?_; intro K13 hK13
     refine wlit ?_
     refine wl_v (x_move (tmS rfl rfl)) ?_
     refine wl_v (x_len Try.underlying22 (tmS rfl rfl)) ?_
     refine wl_v (x_move (tmI rfl rfl)) ?_
     refine wl_v (x_lss (tmI rfl rfl) (tmI rfl rfl)) ?_
     refine wl_nil ?_
     refine then_n (hK13 _ _ ?_); clear hK13 K13
     refine cnd (tm rfl) (fun hc2 => ?_) (fun hc2 => ?_)
     · exfalso
       simp at hc2
       omega
     all_goals
      try simp only [nrm] at hc2
      refine wp_skip ?_
      refine then_n (hK12 _ _ ?_); clear hK12 K12
      refine wp_seq_k ?_; intro K14 hK14
      refine wlit ?_
      refine wl_v (x_move (tmP rfl rfl)) ?_
      refine wl_e rfl ?_; intro K hK
      refine ow_call Try.func30 rfl rfl (evs_cons (tmP rfl rfl) <| evs_nil) (byte_c gr A0 _ _ n _ l false _ _ (hS.enter [1] [2] rfl rfl) hA (by omega) hcp hl hb) ?_
      rintro e w ⟨A1, c1, rfl, hS2, hA, hcp⟩
      refine ⟨_, rfl, ?_⟩
      replace hS := hS.turn 1 rfl rfl hS2 rfl
      clear hS2
      try replace hS := St.nm (M' := [.blk _ _ [_, _, _, _, _, _, _, _, _, _], _, .row _ _ _ _ _, .blk _ _ [_, _, _, _, _, _, _, _, _, _], .vw _ _]) hS rfl
      refine hK _ _ ?_; clear hK K
      refine wl_v (x_move (tmP rfl rfl)) ?_
      refine wl_e rfl ?_; intro K hK
      refine ow_call Try.func15 rfl rfl (evs_cons (tmP rfl rfl) <| evs_nil) (word_c gr A0 _ _ n _ l false _ _ (hS.enter [1] [2] rfl rfl) hA (by omega) hcp hl hb) ?_
      rintro e w ⟨A1, c1, rfl, hS2, hA, hcp⟩
      refine ⟨_, rfl, ?_⟩
      replace hS := hS.turn 1 rfl rfl hS2 rfl
      clear hS2
      try replace hS := St.nm (M' := [.blk _ _ [_, _, _, _, _, _, _, _, _, _], _, .row _ _ _ _ _, .blk _ _ [_, _, _, _, _, _, _, _, _, _], .vw _ _]) hS rfl
      refine hK _ _ ?_; clear hK K
      refine wl_v (x_move (tmP rfl rfl)) ?_
      refine wl_e rfl ?_; intro K hK
      refine ow_call Try.func15 rfl rfl (evs_cons (tmP rfl rfl) <| evs_nil) (word_c gr A0 _ _ n _ l false _ _ (hS.enter [1] [2] rfl rfl) hA (by omega) hcp hl hb) ?_
      rintro e w ⟨A1, c1, rfl, hS2, hA, hcp⟩
      refine ⟨_, rfl, ?_⟩
      replace hS := hS.turn 1 rfl rfl hS2 rfl
      clear hS2
      try replace hS := St.nm (M' := [.blk _ _ [_, _, _, _, _, _, _, _, _, _], _, .row _ _ _ _ _, .blk _ _ [_, _, _, _, _, _, _, _, _, _], .vw _ _]) hS rfl
      refine hK _ _ ?_; clear hK K
      refine wl_v (x_move (tmP rfl rfl)) ?_
      refine wl_e rfl ?_; intro K hK
      refine ow_call Try.func15 rfl rfl (evs_cons (tmP rfl rfl) <| evs_nil) (word_c gr A0 _ _ n _ l false _ _ (hS.enter [1] [2] rfl rfl) hA (by omega) hcp hl hb) ?_
      rintro e w ⟨A1, c1, rfl, hS2, hA, hcp⟩
      refine ⟨_, rfl, ?_⟩
      replace hS := hS.turn 1 rfl rfl hS2 rfl
      clear hS2
      try replace hS := St.nm (M' := [.blk _ _ [_, _, _, _, _, _, _, _, _, _], _, .row _ _ _ _ _, .blk _ _ [_, _, _, _, _, _, _, _, _, _], .vw _ _]) hS rfl
      refine hK _ _ ?_; clear hK K
      refine wl_v (x_fa 4 Try.underlying49 rfl rfl ts_5 (tmP rfl rfl)) ?_
      refine wl_e rfl ?_; intro K hK
      refine ow_store hS 0 rfl ts_5 (tmP rfl rfl) (tmI rfl rfl) rfl rfl ?_
      clear hS; intro w hS
      try replace hS := St.nm (M' := [.blk _ _ [_, _, _, _, _, _, _, _, _, _], _, .row _ _ _ _ _, .blk _ _ [_, _, _, _, _, _, _, _, _, _], .vw _ _]) hS rfl
      refine hK _ _ ?_; clear hK K
      refine wl_v (x_fa 5 Try.underlying49 rfl rfl ts_27 (tmP rfl rfl)) ?_
      refine wl_e rfl ?_; intro K hK
      refine ow_store hS 0 rfl ts_27 (tmP rfl rfl) (tmI rfl rfl) rfl rfl ?_
      clear hS; intro w hS
      try replace hS := St.nm (M' := [.blk _ _ [_, _, _, _, _, _, _, _, _, _], _, .row _ _ _ _ _, .blk _ _ [_, _, _, _, _, _, _, _, _, _], .vw _ _]) hS rfl
      refine hK _ _ ?_; clear hK K
      refine wl_v (x_fa 6 Try.underlying49 rfl rfl ts_27 (tmP rfl rfl)) ?_
      refine wl_e rfl ?_; intro K hK
      refine ow_store hS 0 rfl ts_27 (tmP rfl rfl) (tmI rfl rfl) rfl rfl ?_
      clear hS; intro w hS
      try replace hS := St.nm (M' := [.blk _ _ [_, _, _, _, _, _, _, _, _, _], _, .row _ _ _ _ _, .blk _ _ [_, _, _, _, _, _, _, _, _, _], .vw _ _]) hS rfl
      refine hK _ _ ?_; clear hK K
      refine wl_v (x_fa 7 Try.underlying49 rfl rfl ts_27 (tmP rfl rfl)) ?_
      refine wl_e rfl ?_; intro K hK
      refine ow_store hS 0 rfl ts_27 (tmP rfl rfl) (tmI rfl rfl) rfl rfl ?_
      clear hS; intro w hS
      try replace hS := St.nm (M' := [.blk _ _ [_, _, _, _, _, _, _, _, _, _], _, .row _ _ _ _ _, .blk _ _ [_, _, _, _, _, _, _, _, _, _], .vw _ _]) hS rfl
      refine hK _ _ ?_; clear hK K
      refine wl_nil ?_
      refine then_n (hK14 _ _ ?_); clear hK14 K14
      refine wp_seq_k ?_; intro K15 hK15
      refine wlit ?_
      refine wl_v (x_move (tmP rfl rfl)) ?_
      refine wl_v (x_move (tmI rfl rfl)) ?_
      refine wl_v (x_subN (tmI rfl rfl) (ev_cN 20) (fit_i64 (by omega)) (by omega)) ?_
      refine wl_e rfl ?_; intro K hK
      refine ow_call Try.func29 rfl rfl (evs_cons (tmP rfl rfl) <| evs_cons (tmI rfl rfl) <| evs_nil) (bytes_c gr A0 A1 _ (sz - 20) n _ l false _ _ (hS.enter [1] [2] rfl rfl) hA (by omega) hcp) ?_
      rintro e w ⟨A2, c2, rfl, hS2, hA2, hcp2⟩
      refine ⟨_, rfl, ?_⟩
      replace hS := hS.turn 1 rfl rfl hS2 rfl
      clear hS2
      try replace hS := St.nm (M' := [.blk _ _ [_, _, _, _, _, _, _, _, _, _], _, .row _ _ _ _ _, .blk _ _ [_, _, _, _, _, _, _, _, _, _], .vw _ _]) hS rfl
      refine hK _ _ ?_; clear hK K
      refine wl_v (x_fa 8 Try.underlying49 rfl rfl ts_22 (tmP rfl rfl)) ?_
      refine wl_e rfl ?_; intro K hK
      refine ow_store hS 0 rfl ts_22 (tmP rfl rfl) (tmS rfl rfl) rfl rfl ?_
      clear hS; intro w hS
      try replace hS := St.nm (M' := [.blk _ _ [_, _, _, _, _, _, _, _, _, _], _, .row _ _ _ _ _, .blk _ _ [_, _, _, _, _, _, _, _, _, _], .vw _ _]) hS rfl
      refine hK _ _ ?_; clear hK K
      refine wl_nil ?_
      refine then_n (hK15 _ _ ?_); clear hK15 K15
      refine wp_seq_k ?_; intro K16 hK16
      refine wlit ?_
      refine wl_v (x_move (tmP rfl rfl)) ?_
      refine wl_e rfl ?_; intro K hK
      refine ow_call Try.func55 rfl rfl (evs_cons (tmP rfl rfl) <| evs_nil) (rest_c gr A0 A2 _ n _ l false _ _ (hS.enter [1] [2] rfl rfl) hA2 (by omega) hcp2) ?_
      rintro e w ⟨A3, c3, rfl, hS2⟩
      refine ⟨_, rfl, ?_⟩
      replace hS := hS.turn 1 rfl rfl hS2 rfl
      clear hS2
      try replace hS := St.nm (M' := [.blk _ _ [_, _, _, _, _, _, _, _, _, _], _, .row _ _ _ _ _, .blk _ _ [_, _, _, _, _, _, _, _, _, _], .vw _ _]) hS rfl
      refine hK _ _ ?_; clear hK K
      refine wl_v (x_fa 9 Try.underlying49 rfl rfl ts_22 (tmP rfl rfl)) ?_
      refine wl_e rfl ?_; intro K hK
      refine ow_store hS 0 rfl ts_22 (tmP rfl rfl) (tmS rfl rfl) rfl rfl ?_
      clear hS; intro w hS
      try replace hS := St.nm (M' := [.blk _ _ [_, _, _, _, _, _, _, _, _, _], _, .row _ _ _ _ _, .blk _ _ [_, _, _, _, _, _, _, _, _, _], .vw _ _]) hS rfl
      refine hK _ _ ?_; clear hK K
      refine wl_nil ?_
      refine then_n (hK16 _ _ ?_); clear hK16 K16
      refine wp_seq_k ?_; intro K17 hK17
      refine wlit ?_
      refine wl_v (x_loadA (cs := [_, _, _, _, _, _, _, _, _, _]) Try.underlying49 rfl ts_49 (tmP rfl rfl) (rangeB hS.ok 0 rfl rfl)) ?_
      refine wl_e rfl ?_; intro K hK
      refine ow_storeA hS 3 rfl ts_49 (tmP rfl rfl) (tmA rfl rfl) rfl rfl rfl ?_
      clear hS; intro w hS
      try replace hS := St.nm (M' := [.blk _ _ [_, _, _, _, _, _, _, _, _, _], _, .row _ _ _ _ _, .blk _ _ [_, _, _, _, _, _, _, _, _, _], .vw _ _]) hS rfl
      refine hK _ _ ?_; clear hK K
      refine wl_v (x_assign (ev_cN 0)) ?_
      refine wl_nil ?_
      refine then_n (hK17 _ _ ?_); clear hK17 K17
      refine wp_ret ?_
      refine ret2 rfl (.cell rfl rfl (load_rowB (cs := [_, _, _, _, _, _, _, _, _, _]) hS.ok 3 rfl Try.underlying49 rfl ts_49 rfl)) (.tmp rfl (show _ = Value.int _ _ from rfl)) ?_
      have hp : 0 + 2 + 2 + 4 + 4 + 1 + 1 + 2 + 2 + 2 + (sz - 20) = sz := by omega
      refine ⟨A1, A2, by rw [hp]; rfl, NewV.offb (hS.newv 2 rfl) hl hA (sz - 20), ?_, hS.kp⟩
      have h4 := NewV.offb (hS.newv 2 rfl) hl hA2 n
      rw [hp, List.take_of_length_le (by rw [List.length_drop]; omega)] at h4
      exact h4
set_option maxRecDepth 100000 in
set_option maxHeartbeats 4000000 in
theorem tcp_parse_bad (n : Nat) (A : Option Addr) (c : Nat) (l : List Nat) (w0 : World) (hv : View w0 w0.heap.size A (l.map u8v)) (hl : l.length = n) (hb : Bytes l) (hn4 : n ≤ 1000000)
    (sz er : Nat) (hsz : sz = nth l 12 / 16 * 4) (h : (n < 20 ∧ er = 20) ∨ (20 ≤ n ∧ (sz < 20 ∨ nth l 12 % 16 ≠ 0) ∧ er = 21) ∨ (20 ≤ n ∧ 20 ≤ sz ∧ nth l 12 % 16 = 0 ∧ n < sz ∧ er = 20)) :
    Calls Try.prog 33 #[.slice A n c] w0 fun e w' => e = .returned (.tuple #[.agg (segV 0 0 0 0 0 0 0 0 none 0 0 none 0 0).toArray, .int .i64 (er : Int)]) ∧ Kp [] w0 w' := by
  have hS := (St.sv w0).vcons rfl hv
  have hqb := nth_lt hb 12
  by_cases h20 : n < 20
  · skip
    refine ent (n := 63) Try.func33 rfl rfl ?_
    refine wp_seq_k ?_; intro K1 hK1
    refine wlit ?_
    refine wl_e rfl ?_; intro K hK
    refine ow_alloc hS tz_49 rfl ?_
    clear hS; intro g0_0 w hg0_0 hS
    refine hK _ _ ?_; clear hK K
    refine wl_v (x_assign (ev_cN 0)) ?_
    refine wl_nil ?_
    refine then_n (hK1 _ _ ?_); clear hK1 K1
    refine wp_seq_k ?_; intro K2 hK2
    refine wp_seq_k ?_; intro K3 hK3
    refine wlit ?_
    refine wl_v (x_move (tmS rfl rfl)) ?_
    refine wl_v (x_len Try.underlying22 (tmS rfl rfl)) ?_
    refine wl_v (x_lss (tmI rfl rfl) (ev_cN 20)) ?_
    refine wl_nil ?_
    refine then_n (hK3 _ _ ?_); clear hK3 K3
    refine cnds (tm rfl) (fun hc0 => ?_) (fun hc0 => ?_)
    · exfalso
      simp at hc0
      omega
    all_goals
     try simp only [nrm] at hc0
     refine wp_seq_k ?_; intro K4 hK4
     refine wlit ?_
     refine wl_v (x_build (bc_skip (.int .u16 0) <| bc_skip (.int .u16 0) <| bc_skip (.int .u32 0) <| bc_skip (.int .u32 0) <| bc_skip (.int .u8 0) <| bc_skip (.int .u16 0) <| bc_skip (.int .u16 0) <| bc_skip (.int .u16 0) <| bc_skip (.slice none 0 0) <| bc_skip (.slice none 0 0) <| bc_nil) (by kernel_rfl)) ?_
     refine wl_e rfl ?_; intro K hK
     refine ow_storeA hS 0 rfl ts_49 (tmP rfl rfl) (tmA rfl rfl) rfl rfl rfl ?_
     clear hS; intro w hS
     try replace hS := St.nm (M' := [.blk _ _ [_, _, _, _, _, _, _, _, _, _], .vw _ _]) hS rfl
     refine hK _ _ ?_; clear hK K
     refine wl_v (x_assign (ev_cN 20)) ?_
     refine wl_nil ?_
     refine then_n (hK4 _ _ ?_); clear hK4 K4
     refine wp_ret ?_
     refine then_r ?_
     refine ret2 rfl (.cell rfl rfl (load_rowB (cs := [_, _, _, _, _, _, _, _, _, _]) hS.ok 0 rfl Try.underlying49 rfl ts_49 rfl)) (.tmp rfl (show _ = Value.int _ _ from rfl)) ?_
     obtain rfl : er = 20 := by omega
     exact ⟨rfl, hS.kp⟩
  have hq : getN l (0 + 2 + 2 + 4 + 4) 1 = nth l 12 := getN_one (by omega)
  have hand : getN l (0 + 2 + 2 + 4 + 4) 1 &&& 15 = getN l (0 + 2 + 2 + 4 + 4) 1 % 16 := Nat.and_two_pow_sub_one_eq_mod _ 4
  have hand2 : getN l 12 1 &&& 15 = nth l 12 % 16 := by rw [← hq]; exact hand
  have hz : getN l (0 + 2 + 2 + 4 + 4) 1 / 2 ^ 4 * 4 = sz := by rw [hq, hsz]
  refine ent (n := 63) Try.func33 rfl rfl ?_
  refine wp_seq_k ?_; intro K1 hK1
  refine wlit ?_
  refine wl_e rfl ?_; intro K hK
  refine ow_alloc hS tz_49 rfl ?_
  clear hS; intro g0_0 w hg0_0 hS
  refine hK _ _ ?_; clear hK K
  refine wl_v (x_assign (ev_cN 0)) ?_
  refine wl_nil ?_
  refine then_n (hK1 _ _ ?_); clear hK1 K1
  refine wp_seq_k ?_; intro K2 hK2
  refine wp_seq_k ?_; intro K3 hK3
  refine wlit ?_
  refine wl_v (x_move (tmS rfl rfl)) ?_
  refine wl_v (x_len Try.underlying22 (tmS rfl rfl)) ?_
  refine wl_v (x_lss (tmI rfl rfl) (ev_cN 20)) ?_
  refine wl_nil ?_
  refine then_n (hK3 _ _ ?_); clear hK3 K3
  refine cnd (tm rfl) (fun hc0 => ?_) (fun hc0 => ?_)
  · exfalso
    simp at hc0
    omega
  all_goals
   try simp only [nrm] at hc0
   refine wp_skip ?_
   refine then_n (hK2 _ _ ?_); clear hK2 K2
   refine wp_seq_k ?_; intro K4 hK4
   refine wlit ?_
   refine wl_v (x_move (tmS rfl rfl)) ?_
   refine wl_e rfl ?_; intro K hK
   refine ow_call Try.func14 rfl rfl (evs_cons (tmS rfl rfl) <| evs_nil) (read_c n A c l _ (viewV hS.ok 1 rfl) hl hn4) ?_
   rintro e w ⟨gr, A0, rfl, hS2⟩
   refine ⟨_, rfl, ?_⟩
   replace hS := hS.adds hS2 rfl -- +gr,rowb
   clear hS2
   have hA : Off A0 0 n A0 := off_zero
   have hcp : n - 0 ≤ n := by omega
   refine hK _ _ ?_; clear hK K
   refine wl_v (x_assign (tmP rfl rfl)) ?_
   refine wl_nil ?_
   refine then_n (hK4 _ _ ?_); clear hK4 K4
   refine wp_seq_k ?_; intro K5 hK5
   refine wlit ?_
   refine wl_v (x_move (tmP rfl rfl)) ?_
   refine wl_e rfl ?_; intro K hK
   refine ow_call Try.func15 rfl rfl (evs_cons (tmP rfl rfl) <| evs_nil) (word_c gr A0 _ _ n _ l false _ _ (hS.enter [0] [1] rfl rfl) hA (by omega) hcp hl hb) ?_
   rintro e w ⟨A1, c1, rfl, hS2, hA, hcp⟩
   refine ⟨_, rfl, ?_⟩
   replace hS := hS.turn 0 rfl rfl hS2 rfl
   clear hS2
   try replace hS := St.nm (M' := [_, .row _ _ _ _ _, .blk _ _ [_, _, _, _, _, _, _, _, _, _], .vw _ _]) hS rfl
   refine hK _ _ ?_; clear hK K
   refine wl_v (x_move (tmP rfl rfl)) ?_
   refine wl_e rfl ?_; intro K hK
   refine ow_call Try.func15 rfl rfl (evs_cons (tmP rfl rfl) <| evs_nil) (word_c gr A0 _ _ n _ l false _ _ (hS.enter [0] [1] rfl rfl) hA (by omega) hcp hl hb) ?_
   rintro e w ⟨A1, c1, rfl, hS2, hA, hcp⟩
   refine ⟨_, rfl, ?_⟩
   replace hS := hS.turn 0 rfl rfl hS2 rfl
   clear hS2
   try replace hS := St.nm (M' := [_, .row _ _ _ _ _, .blk _ _ [_, _, _, _, _, _, _, _, _, _], .vw _ _]) hS rfl
   refine hK _ _ ?_; clear hK K
   refine wl_v (x_move (tmP rfl rfl)) ?_
   refine wl_e rfl ?_; intro K hK
   refine ow_call Try.func25 rfl rfl (evs_cons (tmP rfl rfl) <| evs_nil) (long_c gr A0 _ _ n _ l false _ _ (hS.enter [0] [1] rfl rfl) hA (by omega) hcp hl hb) ?_
   rintro e w ⟨A1, c1, rfl, hS2, hA, hcp⟩
   refine ⟨_, rfl, ?_⟩
   replace hS := hS.turn 0 rfl rfl hS2 rfl
   clear hS2
   try replace hS := St.nm (M' := [_, .row _ _ _ _ _, .blk _ _ [_, _, _, _, _, _, _, _, _, _], .vw _ _]) hS rfl
   refine hK _ _ ?_; clear hK K
   refine wl_v (x_move (tmP rfl rfl)) ?_
   refine wl_e rfl ?_; intro K hK
   refine ow_call Try.func25 rfl rfl (evs_cons (tmP rfl rfl) <| evs_nil) (long_c gr A0 _ _ n _ l false _ _ (hS.enter [0] [1] rfl rfl) hA (by omega) hcp hl hb) ?_
   rintro e w ⟨A1, c1, rfl, hS2, hA, hcp⟩
   refine ⟨_, rfl, ?_⟩
   replace hS := hS.turn 0 rfl rfl hS2 rfl
   clear hS2
   try replace hS := St.nm (M' := [_, .row _ _ _ _ _, .blk _ _ [_, _, _, _, _, _, _, _, _, _], .vw _ _]) hS rfl
   refine hK _ _ ?_; clear hK K
   refine wl_v (x_build (bc_take (tmI rfl rfl) <| bc_take (tmI rfl rfl) <| bc_take (tmI rfl rfl) <| bc_take (tmI rfl rfl) <| bc_skip (.int .u8 0) <| bc_skip (.int .u16 0) <| bc_skip (.int .u16 0) <| bc_skip (.int .u16 0) <| bc_skip (.slice none 0 0) <| bc_skip (.slice none 0 0) <| bc_nil) (by kernel_rfl)) ?_
   refine wl_e rfl ?_; intro K hK
   refine ow_alloc hS tz_49 rfl ?_
   clear hS; intro g4_9 w hg4_9 hS
   refine hK _ _ ?_; clear hK K
   refine wl_e rfl ?_; intro K hK
   refine ow_storeA hS 0 rfl ts_49 (tmP rfl rfl) (tmA rfl rfl) rfl rfl rfl ?_
   clear hS; intro w hS
   try replace hS := St.nm (M' := [.blk _ _ [_, _, _, _, _, _, _, _, _, _], _, .row _ _ _ _ _, .blk _ _ [_, _, _, _, _, _, _, _, _, _], .vw _ _]) hS rfl
   refine hK _ _ ?_; clear hK K
   refine wl_nil ?_
   refine then_n (hK5 _ _ ?_); clear hK5 K5
   refine wp_seq_k ?_; intro K6 hK6
   refine wlit ?_
   refine wl_v (x_move (tmP rfl rfl)) ?_
   refine wl_e rfl ?_; intro K hK
   refine ow_call Try.func30 rfl rfl (evs_cons (tmP rfl rfl) <| evs_nil) (byte_c gr A0 _ _ n _ l false _ _ (hS.enter [1] [2] rfl rfl) hA (by omega) hcp hl hb) ?_
   rintro e w ⟨A1, c1, rfl, hS2, hA, hcp⟩
   refine ⟨_, rfl, ?_⟩
   replace hS := hS.turn 1 rfl rfl hS2 rfl
   clear hS2
   try replace hS := St.nm (M' := [.blk _ _ [_, _, _, _, _, _, _, _, _, _], _, .row _ _ _ _ _, .blk _ _ [_, _, _, _, _, _, _, _, _, _], .vw _ _]) hS rfl
   refine hK _ _ ?_; clear hK K
   refine wl_v (x_assign (tmI rfl rfl)) ?_
   refine wl_nil ?_
   refine then_n (hK6 _ _ ?_); clear hK6 K6
   refine wp_seq_k ?_; intro K7 hK7
   refine wlit ?_
   refine wl_v (x_move (tmI rfl rfl)) ?_
   refine wl_v (x_shrN (tmI rfl rfl) (ev_cN 4) (fit_u8 (by omega))) ?_
   refine wl_v (x_convN Try.underlying5 Try.underlying3 (tmI rfl rfl) (fit_i64 (by omega))) ?_
   refine wl_v (x_mulN (tmI rfl rfl) (ev_cN 4) (fit_i64 (by omega))) ?_
   refine wl_v (x_assign (tmI rfl (congrArg (fun q : Nat => Value.int .i64 (q : Int)) hz))) ?_
   refine wl_nil ?_
   refine then_n (hK7 _ _ ?_); clear hK7 K7
   refine wp_seq_k ?_; intro K8 hK8
   refine wp_seq_k ?_; intro K9 hK9
   refine wlit ?_
   refine wl_v (x_move (tmI rfl rfl)) ?_
   refine wl_v (x_lss (tmI rfl rfl) (ev_cN 20)) ?_
   refine wl_v (x_move (tmB rfl rfl)) ?_
   refine gs_wl (tm (t := 31) rfl) (fun hg7_2 => ?_) (fun hg7_2 => ?_)
   · have hg7_2' := hg7_2; (try simp only [nrm] at hg7_2')
     all_goals
      refine wl_s rfl (want_n rfl rfl rfl rfl (by rw [hg7_2]; rfl)) ?_
      refine wl_s rfl (want_n rfl rfl rfl rfl (by rw [hg7_2]; rfl)) ?_
      refine wl_s rfl (want_n rfl rfl rfl rfl (by rw [hg7_2]; rfl)) ?_
      refine wl_v (x_pickT (tmB rfl rfl) hg7_2 ev_c) ?_
      refine wl_nil ?_
      refine then_n (hK9 _ _ ?_); clear hK9 K9
      refine cnd_t (tmB rfl rfl) rfl ?_
      refine wp_seq_k ?_; intro K10 hK10
      refine wlit ?_
      refine wl_v (x_build (bc_skip (.int .u16 0) <| bc_skip (.int .u16 0) <| bc_skip (.int .u32 0) <| bc_skip (.int .u32 0) <| bc_skip (.int .u8 0) <| bc_skip (.int .u16 0) <| bc_skip (.int .u16 0) <| bc_skip (.int .u16 0) <| bc_skip (.slice none 0 0) <| bc_skip (.slice none 0 0) <| bc_nil) (by kernel_rfl)) ?_
      refine wl_e rfl ?_; intro K hK
      refine ow_storeA hS 3 rfl ts_49 (tmP rfl rfl) (tmA rfl rfl) rfl rfl rfl ?_
      clear hS; intro w hS
      try replace hS := St.nm (M' := [.blk _ _ [_, _, _, _, _, _, _, _, _, _], _, .row _ _ _ _ _, .blk _ _ [_, _, _, _, _, _, _, _, _, _], .vw _ _]) hS rfl
      refine hK _ _ ?_; clear hK K
      refine wl_v (x_assign (ev_cN 21)) ?_
      refine wl_nil ?_
      refine then_n (hK10 _ _ ?_); clear hK10 K10
      refine wp_ret ?_
      refine then_r ?_
      refine ret2 rfl (.cell rfl rfl (load_rowB (cs := [_, _, _, _, _, _, _, _, _, _]) hS.ok 3 rfl Try.underlying49 rfl ts_49 rfl)) (.tmp rfl (show _ = Value.int _ _ from rfl)) ?_
      first
        | (obtain rfl : er = 20 := by omega
           exact ⟨rfl, hS.kp⟩)
        | (obtain rfl : er = 21 := by omega
           exact ⟨rfl, hS.kp⟩)
   have hg7_2' := hg7_2; (try simp only [nrm] at hg7_2')
   all_goals
    refine wl_gv (want_y rfl rfl rfl rfl (by rw [hg7_2]; rfl)) (x_move (tmI rfl rfl)) ?_
    refine wl_gv (want_y rfl rfl rfl rfl (by rw [hg7_2]; rfl)) (x_andN (tmI rfl rfl) (ev_cN 15) (fit_u8 (by omega)) (fit_u8 (by omega))) ?_
    refine wl_gv (want_y rfl rfl rfl rfl (by rw [hg7_2]; rfl)) (x_neq (tmI rfl rfl) (ev_cN 0)) ?_
    refine wl_v (x_pickF (tmB rfl rfl) hg7_2 (tmB rfl rfl)) ?_
    refine wl_nil ?_
    refine then_n (hK9 _ _ ?_); clear hK9 K9
    refine cnd (tm rfl) (fun hc1 => ?_) (fun hc1 => ?_)
    · skip
      all_goals
       try simp only [nrm] at hc1
       refine wp_seq_k ?_; intro K12 hK12
       refine wlit ?_
       refine wl_v (x_build (bc_skip (.int .u16 0) <| bc_skip (.int .u16 0) <| bc_skip (.int .u32 0) <| bc_skip (.int .u32 0) <| bc_skip (.int .u8 0) <| bc_skip (.int .u16 0) <| bc_skip (.int .u16 0) <| bc_skip (.int .u16 0) <| bc_skip (.slice none 0 0) <| bc_skip (.slice none 0 0) <| bc_nil) (by kernel_rfl)) ?_
       refine wl_e rfl ?_; intro K hK
       refine ow_storeA hS 3 rfl ts_49 (tmP rfl rfl) (tmA rfl rfl) rfl rfl rfl ?_
       clear hS; intro w hS
       try replace hS := St.nm (M' := [.blk _ _ [_, _, _, _, _, _, _, _, _, _], _, .row _ _ _ _ _, .blk _ _ [_, _, _, _, _, _, _, _, _, _], .vw _ _]) hS rfl
       refine hK _ _ ?_; clear hK K
       refine wl_v (x_assign (ev_cN 21)) ?_
       refine wl_nil ?_
       refine then_n (hK12 _ _ ?_); clear hK12 K12
       refine wp_ret ?_
       refine then_r ?_
       refine ret2 rfl (.cell rfl rfl (load_rowB (cs := [_, _, _, _, _, _, _, _, _, _]) hS.ok 3 rfl Try.underlying49 rfl ts_49 rfl)) (.tmp rfl (show _ = Value.int _ _ from rfl)) ?_
       first
         | (obtain rfl : er = 20 := by omega
            exact ⟨rfl, hS.kp⟩)
         | (obtain rfl : er = 21 := by omega
            exact ⟨rfl, hS.kp⟩)
    all_goals
     try simp only [nrm] at hc1
     refine wp_skip ?_
     refine then_n (hK8 _ _ ?_); clear hK8 K8
     refine wp_seq_k ?_; intro K14 hK14
     refine wp_seq_k ?_; intro K15 hK15
     refine wlit ?_
     refine wl_v (x_move (tmS rfl rfl)) ?_
     refine wl_v (x_len Try.underlying22 (tmS rfl rfl)) ?_
     refine wl_v (x_move (tmI rfl rfl)) ?_
     refine wl_v (x_lss (tmI rfl rfl) (tmI rfl rfl)) ?_
     refine wl_nil ?_
     refine then_n (hK15 _ _ ?_); clear hK15 K15
     refine cnds (tm rfl) (fun hc2 => ?_) (fun hc2 => ?_)
     · exfalso
       simp at hc2
       omega
     all_goals
      try simp only [nrm] at hc2
      refine wp_seq_k ?_; intro K16 hK16
      refine wlit ?_
      refine wl_v (x_build (bc_skip (.int .u16 0) <| bc_skip (.int .u16 0) <| bc_skip (.int .u32 0) <| bc_skip (.int .u32 0) <| bc_skip (.int .u8 0) <| bc_skip (.int .u16 0) <| bc_skip (.int .u16 0) <| bc_skip (.int .u16 0) <| bc_skip (.slice none 0 0) <| bc_skip (.slice none 0 0) <| bc_nil) (by kernel_rfl)) ?_
      refine wl_e rfl ?_; intro K hK
      refine ow_storeA hS 3 rfl ts_49 (tmP rfl rfl) (tmA rfl rfl) rfl rfl rfl ?_
      clear hS; intro w hS
      try replace hS := St.nm (M' := [.blk _ _ [_, _, _, _, _, _, _, _, _, _], _, .row _ _ _ _ _, .blk _ _ [_, _, _, _, _, _, _, _, _, _], .vw _ _]) hS rfl
      refine hK _ _ ?_; clear hK K
      refine wl_v (x_assign (ev_cN 20)) ?_
      refine wl_nil ?_
      refine then_n (hK16 _ _ ?_); clear hK16 K16
      refine wp_ret ?_
      refine then_r ?_
      refine ret2 rfl (.cell rfl rfl (load_rowB (cs := [_, _, _, _, _, _, _, _, _, _]) hS.ok 3 rfl Try.underlying49 rfl ts_49 rfl)) (.tmp rfl (show _ = Value.int _ _ from rfl)) ?_
      first
        | (obtain rfl : er = 20 := by omega
           exact ⟨rfl, hS.kp⟩)
        | (obtain rfl : er = 21 := by omega
           exact ⟨rfl, hS.kp⟩)

end Go.Proofs.Ytcobjneobdihkaa
