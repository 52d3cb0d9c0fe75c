/- ip4: Parse, by contract. Conditions: none but bounds. -/
import Derived.Test.YtmekadkmmddocaaDoorAd
import Derived.Test.YtmekadkmmddocaaDoorSumB
namespace Go.Proofs.YtmekadkmmddocaaDoor
open Go.RowKit

def hdV (tos : Nat) (len : Int) (id : Nat) (stay more : Bool) (off : Int) (ttl proto sum : Nat) (src dst : Ad) (O : Option Addr) (m c : Nat) : List Value :=
  [.int .u8 (tos : Int), .int .i64 len, .int .u16 (id : Int), .bool stay, .bool more, .int .i64 off, .int .u8 (ttl : Int), .int .u8 (proto : Int), .int .u16 (sum : Int), .bool src.six, .int .u64 (src.high : Int), .int .u64 (src.low : Int), .bool dst.six, .int .u64 (dst.high : Int), .int .u64 (dst.low : Int), .slice O m c]
def ad0 : Ad := ⟨false, 0, 0⟩
/-- The form of a header that may be read. -/
structure Ip4Form (l : List Nat) (n sz len : Nat) : Prop where
  n20 : 20 ≤ n
  four : nth l 0 / 16 = 4
  size : nth l 0 % 16 * 4 = sz
  sz20 : 20 ≤ sz
  flags : getN l 6 2 < 32768
  len_ : getN l 2 2 = len
  szlen : sz ≤ len
theorem and_bit (n i : Nat) : n &&& 2 ^ i = n / 2 ^ i % 2 * 2 ^ i := by
  have hb : n.testBit i = decide (n / 2 ^ i % 2 = 1) := Nat.testBit_eq_decide_div_mod_eq
  apply Nat.eq_of_testBit_eq
  intro j
  have h2 : n / 2 ^ i % 2 = 0 ∨ n / 2 ^ i % 2 = 1 := by omega
  rw [Nat.testBit_and, Nat.testBit_two_pow]
  by_cases hij : i = j
  · subst hij
    rcases h2 with h | h <;> simp [hb, h]
  · rcases h2 with h | h <;> simp [h, hij]
theorem seen_one {w : World} {A : Option Addr} {l : List Nat} {c : Nat} (h : View w w.heap.size A (l.map u8v)) : SeenRows w [(A, l, c)] := seen_cons h seen_nil
theorem joined_one (A : Option Addr) (l : List Nat) (c : Nat) : joined [(A, l, c)] = l := by simp [joined]
theorem rsum_one (A : Option Addr) (l : List Nat) (c : Nat) : rsum [(A, l, c)] 1 = psum l l.length := by simp [rsum]
def SumOk (l : List Nat) (sz : Nat) : Prop := foldN (psum (l.take sz) sz) = 65535

set_option maxRecDepth 100000 in
set_option maxHeartbeats 4000000 in
theorem sum_right_c (A : Option Addr) (n c : Nat) (l : List Nat) (B : Option Addr) (w0 : World) (hv : View w0 w0.heap.size B [.slice A n c]) (hv1 : View w0 w0.heap.size A (l.map u8v)) (hl : l.length = n) (hb : Bytes l) (hn : n ≤ 1000000) (cb : Nat) :
    Calls Tryd.prog 62 #[.slice B 1 cb] w0 fun e w' => e = .returned (.bool (decide (foldN (psum l n) = 65535))) ∧ Kp [] w0 w' := by
  have hS := ((St.sv w0).vcons rfl hv1).vcons rfl hv
  have hfb := foldN_bd (psum l n)
  refine ent (n := 6) Tryd.func62 rfl rfl ?_
  refine wp_seq_k ?_; intro K1 hK1
  refine wlit ?_
  refine wl_v (x_assign ev_c) ?_
  refine wl_nil ?_
  refine then_n (hK1 _ _ ?_); clear hK1 K1
  refine wp_seq_k ?_; intro K2 hK2
  refine wlit ?_
  refine wl_v (x_move (tmS rfl rfl)) ?_
  refine wl_e rfl ?_; intro K hK
  refine ow_call Tryd.func84 rfl rfl (evs_cons (tmS rfl rfl) <| evs_nil) (sum_of_c 1 B cb [(A, l, c)] _ (by have h := viewV hS.ok 0 rfl; rw [← hl] at h; exact h) (seen_one (viewV hS.ok 1 rfl)) (brows_cons hb brows_nil) rfl (by omega) (by rw [joined_one]; omega)) ?_
  rintro e w ⟨rfl, hk⟩
  refine ⟨_, rfl, ?_⟩
  rw [rsum_one, hl]
  replace hS := hS.kept hk
  clear hk
  refine hK _ _ ?_; clear hK K
  refine wl_v (x_eql (tmI rfl rfl) (ev_cN 0)) ?_
  refine wl_v (x_assign (tmB rfl rfl)) ?_
  refine wl_nil ?_
  refine then_n (hK2 _ _ ?_); clear hK2 K2
  refine wp_ret ?_
  refine ret1 rfl (.tmp rfl (show _ = Value.bool _ from rfl)) ?_
  refine ⟨ret_bool (decide_eq_decide.2 ?_), hS.kp⟩
  omega

set_option maxRecDepth 100000 in
set_option maxHeartbeats 8000000 in
theorem ip4_parse_c (n : Nat) (A : Option Addr) (c : Nat) (l : List Nat) (w0 : World) (hv : View w0 w0.heap.size A (l.map u8v)) (hl : l.length = n) (hc : n ≤ c) (hb : Bytes l) (hn4 : n ≤ 1000000)
    (sz len : Nat) (hf : Ip4Form l n sz len) (hlen : len ≤ n) (hsum : SumOk l sz) :
    Calls Tryd.prog 34 #[.slice A n c] w0 fun e w' => ∃ O L, e = .returned (.tuple #[.agg (hdV (getN l 1 1) (len : Int) (getN l 4 2) (decide (getN l 6 2 / 2 ^ 14 % 2 = 1)) (decide (getN l 6 2 / 2 ^ 13 % 2 = 1)) ((getN l 6 2 % 8192 : Nat) : Int) (getN l 8 1) (getN l 9 1) (getN l 10 2) ⟨false, 0, getN l 12 4⟩ ⟨false, 0, getN l 16 4⟩ O (sz - 20) (sz - 20)).toArray, .slice L (len - sz) (len - sz), .int .i64 0]) ∧
      NewV w0 w' O (((l.drop 20).take (sz - 20)).map u8v) ∧ NewV w0 w' L (((l.drop sz).take (len - sz)).map u8v) ∧ Kp [] w0 w' := by
  obtain ⟨n20, four, size, sz20, flags, hle, szlen⟩ := hf
  have hS := (St.sv w0).vcons rfl hv
  have hq : getN l 0 1 = nth l 0 := getN_one (by omega)
  have hqb := nth_lt hb 0
  have h15 : getN l 0 1 &&& 15 = getN l 0 1 % 16 := Nat.and_two_pow_sub_one_eq_mod _ 4
  have hz : (getN l 0 1 &&& 15) * 4 = sz := by rw [h15, hq]; exact size
  have hfl := getN_lt hb 6 2
  have hfl' : getN l (0 + 1 + 1 + 2 + 2) 2 < 256 ^ 2 := hfl
  have h32 : getN l 6 2 &&& 32768 = getN l 6 2 / 2 ^ 15 % 2 * 2 ^ 15 := and_bit _ 15
  have h32' : getN l (0 + 1 + 1 + 2 + 2) 2 &&& 32768 = getN l 6 2 / 2 ^ 15 % 2 * 2 ^ 15 := and_bit _ 15
  have h14 : getN l (0 + 1 + 1 + 2 + 2) 2 &&& 16384 = getN l 6 2 / 2 ^ 14 % 2 * 2 ^ 14 := and_bit _ 14
  have h13 : getN l (0 + 1 + 1 + 2 + 2) 2 &&& 8192 = getN l 6 2 / 2 ^ 13 % 2 * 2 ^ 13 := and_bit _ 13
  have h81 : getN l (0 + 1 + 1 + 2 + 2) 2 &&& 8191 = getN l 6 2 % 8192 := Nat.and_two_pow_sub_one_eq_mod _ 13
  have hle' : getN l (0 + 1 + 1) 2 = len := hle
  have e14 : (!decide (((getN l (0 + 1 + 1 + 2 + 2) 2 &&& 16384 : Nat) : Int) = ((0 : Nat) : Int))) = decide (getN l 6 2 / 2 ^ 14 % 2 = 1) := by
    rw [Bool.eq_iff_iff]; simp only [nrm, decide_eq_true_eq, Bool.not_eq_true']; omega
  have e13 : (!decide (((getN l (0 + 1 + 1 + 2 + 2) 2 &&& 8192 : Nat) : Int) = ((0 : Nat) : Int))) = decide (getN l 6 2 / 2 ^ 13 % 2 = 1) := by
    rw [Bool.eq_iff_iff]; simp only [nrm, decide_eq_true_eq, Bool.not_eq_true']; omega
  have htl : (l.take sz).length = sz := by rw [List.length_take]; omega
  refine ent (n := 111) Tryd.func34 rfl rfl ?_
  refine wp_seq_k ?_; intro K1 hK1
  refine wlit ?_
  refine wl_e rfl ?_; intro K hK
  refine ow_alloc hS tz_88 rfl ?_
  clear hS; intro g0_0 w hg0_0 hS
  refine hK _ _ ?_; clear hK K
  refine wl_v (x_assign ev_c) ?_
  refine wl_v (x_assign (ev_cN 0)) ?_
  refine wl_nil ?_
  refine then_n (hK1 _ _ ?_); clear hK1 K1
  refine wp_seq_k ?_; intro K2 hK2
  refine wp_seq_k ?_; intro K3 hK3
  refine wlit ?_
  refine wl_v (x_move (tmS rfl rfl)) ?_
  refine wl_v (x_len Tryd.underlying22 (tmS rfl rfl)) ?_
  refine wl_v (x_lss (tmI rfl rfl) (ev_cN 20)) ?_
  refine wl_nil ?_
  refine then_n (hK3 _ _ ?_); clear hK3 K3
  refine cnd (tm rfl) (fun hc0 => ?_) (fun hc0 => ?_)
  · exfalso
    simp only [nrm] at hc0
    omega
  all_goals
   try simp only [nrm] at hc0
   refine wp_skip ?_
   refine then_n (hK2 _ _ ?_); clear hK2 K2
   refine wp_seq_k ?_; intro K4 hK4
   refine wlit ?_
   refine wl_v (x_move (tmS rfl rfl)) ?_
   refine wl_e rfl ?_; intro K hK
   refine ow_call Tryd.func52 rfl rfl (evs_cons (tmS rfl rfl) <| evs_nil) (read_c n A c l _ (viewV hS.ok 1 rfl) hl hn4) ?_
   rintro e w ⟨gr, A0, rfl, hS2⟩
   refine ⟨_, rfl, ?_⟩
   replace hS := hS.adds hS2 rfl -- +gr,rowb
   clear hS2
   have hA : Off A0 0 n A0 := off_zero
   have hcp : n - 0 ≤ n := by omega
   refine hK _ _ ?_; clear hK K
   refine wl_v (x_assign (tmP rfl rfl)) ?_
   refine wl_nil ?_
   refine then_n (hK4 _ _ ?_); clear hK4 K4
   refine wp_seq_k ?_; intro K5 hK5
   refine wlit ?_
   refine wl_v (x_move (tmP rfl rfl)) ?_
   refine wl_e rfl ?_; intro K hK
   refine ow_call Tryd.func55 rfl rfl (evs_cons (tmP rfl rfl) <| evs_nil) (byte_c gr A0 _ _ n _ l false _ _ (hS.enter [0] [1] rfl rfl) hA (by omega) hcp hl hb) ?_
   rintro e w ⟨A1, c1, rfl, hS2, hA, hcp⟩
   refine ⟨_, rfl, ?_⟩
   replace hS := hS.turn 0 rfl rfl hS2 rfl
   clear hS2
   try replace hS := St.nm (M' := [_, .row _ _ _ _ _, .blk _ _ [_, _, _, _, _, _, _, _, _, _, _, _, _, _, _, _], .vw _ _]) hS rfl
   refine hK _ _ ?_; clear hK K
   refine wl_v (x_assign (tmI rfl rfl)) ?_
   refine wl_nil ?_
   refine then_n (hK5 _ _ ?_); clear hK5 K5
   refine wp_seq_k ?_; intro K6 hK6
   refine wlit ?_
   refine wl_v (x_move (tmI rfl rfl)) ?_
   refine wl_v (x_andN (tmI rfl rfl) (ev_cN 15) (fit_u8 (by omega)) (fit_u8 (by omega))) ?_
   refine wl_v (x_convN Tryd.underlying5 Tryd.underlying3 (tmI rfl rfl) (fit_i64 (by omega))) ?_
   refine wl_v (x_mulN (tmI rfl rfl) (ev_cN 4) (fit_i64 (by omega))) ?_
   refine wl_v (x_assign (tmI rfl (congrArg (fun q : Nat => Value.int .i64 (q : Int)) hz))) ?_
   refine wl_nil ?_
   refine then_n (hK6 _ _ ?_); clear hK6 K6
   refine wp_seq_k ?_; intro K7 hK7
   refine wlit ?_
   refine wl_v (x_move (tmP rfl rfl)) ?_
   refine wl_e rfl ?_; intro K hK
   refine ow_call Tryd.func55 rfl rfl (evs_cons (tmP rfl rfl) <| evs_nil) (byte_c gr A0 _ _ n _ l false _ _ (hS.enter [0] [1] rfl rfl) hA (by omega) hcp hl hb) ?_
   rintro e w ⟨A1, c1, rfl, hS2, hA, hcp⟩
   refine ⟨_, rfl, ?_⟩
   replace hS := hS.turn 0 rfl rfl hS2 rfl
   clear hS2
   try replace hS := St.nm (M' := [_, .row _ _ _ _ _, .blk _ _ [_, _, _, _, _, _, _, _, _, _, _, _, _, _, _, _], .vw _ _]) hS rfl
   refine hK _ _ ?_; clear hK K
   refine wl_v (x_move (tmP rfl rfl)) ?_
   refine wl_e rfl ?_; intro K hK
   refine ow_call Tryd.func54 rfl rfl (evs_cons (tmP rfl rfl) <| evs_nil) (word_c gr A0 _ _ n _ l false _ _ (hS.enter [0] [1] rfl rfl) hA (by omega) hcp hl hb) ?_
   rintro e w ⟨A1, c1, rfl, hS2, hA, hcp⟩
   refine ⟨_, rfl, ?_⟩
   replace hS := hS.turn 0 rfl rfl hS2 rfl
   clear hS2
   try replace hS := St.nm (M' := [_, .row _ _ _ _ _, .blk _ _ [_, _, _, _, _, _, _, _, _, _, _, _, _, _, _, _], .vw _ _]) hS rfl
   refine hK _ _ ?_; clear hK K
   refine wl_v (x_convN Tryd.underlying27 Tryd.underlying3 (tmI rfl (congrArg (fun q : Nat => Value.int .u16 (q : Int)) hle')) (fit_i64 (by omega))) ?_
   refine wl_v (x_move (tmP rfl rfl)) ?_
   refine wl_e rfl ?_; intro K hK
   refine ow_call Tryd.func54 rfl rfl (evs_cons (tmP rfl rfl) <| evs_nil) (word_c gr A0 _ _ n _ l false _ _ (hS.enter [0] [1] rfl rfl) hA (by omega) hcp hl hb) ?_
   rintro e w ⟨A1, c1, rfl, hS2, hA, hcp⟩
   refine ⟨_, rfl, ?_⟩
   replace hS := hS.turn 0 rfl rfl hS2 rfl
   clear hS2
   try replace hS := St.nm (M' := [_, .row _ _ _ _ _, .blk _ _ [_, _, _, _, _, _, _, _, _, _, _, _, _, _, _, _], .vw _ _]) hS rfl
   refine hK _ _ ?_; clear hK K
   refine wl_v (x_build (bc_take (tmI rfl rfl) <| bc_take (tmI rfl rfl) <| bc_take (tmI rfl rfl) <| bc_skip (.bool false) <| bc_skip (.bool false) <| bc_skip (.int .i64 0) <| bc_skip (.int .u8 0) <| bc_skip (.int .u8 0) <| bc_skip (.int .u16 0) <| bc_skipL [.bool false, .int .u64 0, .int .u64 0] <| bc_skipL [.bool false, .int .u64 0, .int .u64 0] <| bc_skip (.slice none 0 0) <| bc_nil) (by kernel_rfl)) ?_
   refine wl_e rfl ?_; intro K hK
   refine ow_alloc hS tz_88 rfl ?_
   clear hS; intro g6_8 w hg6_8 hS
   refine hK _ _ ?_; clear hK K
   refine wl_e rfl ?_; intro K hK
   refine ow_storeA hS 0 rfl ts_88 (tmP rfl rfl) (tmA rfl rfl) rfl rfl rfl ?_
   clear hS; intro w hS
   try replace hS := St.nm (M' := [.blk _ _ [_, _, _, _, _, _, _, _, _, _, _, _, _, _, _, _], _, .row _ _ _ _ _, .blk _ _ [_, _, _, _, _, _, _, _, _, _, _, _, _, _, _, _], .vw _ _]) hS rfl
   refine hK _ _ ?_; clear hK K
   refine wl_nil ?_
   refine then_n (hK7 _ _ ?_); clear hK7 K7
   refine wp_seq_k ?_; intro K8 hK8
   refine wlit ?_
   refine wl_v (x_move (tmP rfl rfl)) ?_
   refine wl_e rfl ?_; intro K hK
   refine ow_call Tryd.func54 rfl rfl (evs_cons (tmP rfl rfl) <| evs_nil) (word_c gr A0 _ _ n _ l false _ _ (hS.enter [1] [2] rfl rfl) hA (by omega) hcp hl hb) ?_
   rintro e w ⟨A1, c1, rfl, hS2, hA, hcp⟩
   refine ⟨_, rfl, ?_⟩
   replace hS := hS.turn 1 rfl rfl hS2 rfl
   clear hS2
   try replace hS := St.nm (M' := [.blk _ _ [_, _, _, _, _, _, _, _, _, _, _, _, _, _, _, _], _, .row _ _ _ _ _, .blk _ _ [_, _, _, _, _, _, _, _, _, _, _, _, _, _, _, _], .vw _ _]) hS rfl
   refine hK _ _ ?_; clear hK K
   refine wl_v (x_assign (tmI rfl rfl)) ?_
   refine wl_nil ?_
   refine then_n (hK8 _ _ ?_); clear hK8 K8
   refine wp_seq_k ?_; intro K9 hK9
   refine wp_seq_k ?_; intro K10 hK10
   refine wlit ?_
   refine wl_v (x_move (tmI rfl rfl)) ?_
   refine wl_v (x_shrN (tmI rfl rfl) (ev_cN 4) (fit_u8 (by omega))) ?_
   refine wl_v (x_neq (tmI rfl rfl) (ev_cN 4)) ?_
   refine wl_v (x_move (tmB rfl rfl)) ?_
   refine gs_wl (tm (t := 35) rfl) (fun hg8_3 => ?_) (fun hg8_3 => ?_)
   · have hg8_3' := hg8_3; (try simp only [nrm] at hg8_3'); try (exfalso; first | with_reducible exact absurd hg8_3 Bool.false_ne_true | with_reducible exact absurd hg8_3.symm Bool.false_ne_true | omega | (simp at hg8_3; done))
     all_goals
      refine wl_s rfl (want_n rfl rfl rfl rfl (by rw [hg8_3]; rfl)) ?_
      refine wl_s rfl (want_n rfl rfl rfl rfl (by rw [hg8_3]; rfl)) ?_
      refine wl_v (x_pickT (tmB rfl rfl) hg8_3 ev_c) ?_
      refine wl_v (x_move (tmB rfl rfl)) ?_
      refine wl_s rfl (want_n rfl rfl rfl rfl rfl) ?_
      refine wl_s rfl (want_n rfl rfl rfl rfl rfl) ?_
      refine wl_s rfl (want_n rfl rfl rfl rfl rfl) ?_
      refine wl_v (x_pickT (tmB rfl rfl) rfl ev_c) ?_
      refine wl_v (x_move (tmB rfl rfl)) ?_
      refine wl_s rfl (want_n rfl rfl rfl rfl rfl) ?_
      refine wl_s rfl (want_n rfl rfl rfl rfl rfl) ?_
      refine wl_s rfl (want_n rfl rfl rfl rfl rfl) ?_
      refine wl_s rfl (want_n rfl rfl rfl rfl rfl) ?_
      refine wl_v (x_pickT (tmB rfl rfl) rfl ev_c) ?_
      refine wl_nil ?_
      refine then_n (hK10 _ _ ?_); clear hK10 K10
      refine cnd_t (tmB rfl rfl) rfl ?_
      refine wp_seq_k ?_; intro K11 hK11
      refine wlit ?_
      refine wl_v (x_build (bc_skip (.int .u8 0) <| bc_skip (.int .i64 0) <| bc_skip (.int .u16 0) <| bc_skip (.bool false) <| bc_skip (.bool false) <| bc_skip (.int .i64 0) <| bc_skip (.int .u8 0) <| bc_skip (.int .u8 0) <| bc_skip (.int .u16 0) <| bc_skipL [.bool false, .int .u64 0, .int .u64 0] <| bc_skipL [.bool false, .int .u64 0, .int .u64 0] <| bc_skip (.slice none 0 0) <| bc_nil) (by kernel_rfl)) ?_
      refine wl_e rfl ?_; intro K hK
      refine ow_storeA hS 3 rfl ts_88 (tmP rfl rfl) (tmA rfl rfl) rfl rfl rfl ?_
      clear hS; intro w hS
      try replace hS := St.nm (M' := [.blk _ _ [_, _, _, _, _, _, _, _, _, _, _, _, _, _, _, _], _, .row _ _ _ _ _, .blk _ _ [_, _, _, _, _, _, _, _, _, _, _, _, _, _, _, _], .vw _ _]) hS rfl
      refine hK _ _ ?_; clear hK K
      refine wl_v (x_assign ev_c) ?_
      refine wl_v (x_assign (ev_cN 21)) ?_
      refine wl_nil ?_
      refine then_n (hK11 _ _ ?_); clear hK11 K11
      refine wp_ret ?_
      refine then_r ?_
      refine ret3 rfl (.cell rfl rfl (load_rowB (cs := [_, _, _, _, _, _, _, _, _, _, _, _, _, _, _, _]) hS.ok 3 rfl Tryd.underlying88 rfl ts_88 rfl)) (.tmp rfl (show _ = Value.slice _ _ _ from rfl)) (.tmp rfl (show _ = Value.int _ _ from rfl)) ?_
      refine ⟨A3, A4, rfl, NewV.offb (hS.newv 2 rfl) hl hA3 (sz - 20), ?_, hS.kp⟩
      have h4 := NewV.offb (hS.newv 2 rfl) hl hA4 (len - sz)
      rw [show 0 + 1 + 1 + 2 + 2 + 2 + 1 + 1 + 2 + 4 + 4 + (sz - 20) = sz by omega] at h4
      exact h4
   have hg8_3' := hg8_3; (try simp only [nrm] at hg8_3')
   all_goals
    refine wl_gv (want_y rfl rfl rfl rfl (by rw [hg8_3]; rfl)) (x_move (tmI rfl rfl)) ?_
    refine wl_gv (want_y rfl rfl rfl rfl (by rw [hg8_3]; rfl)) (x_lss (tmI rfl rfl) (ev_cN 20)) ?_
    refine wl_v (x_pickF (tmB rfl rfl) hg8_3 (tmB rfl rfl)) ?_
    refine wl_v (x_move (tmB rfl rfl)) ?_
    refine gs_wl (tm (t := 39) rfl) (fun hg8_7 => ?_) (fun hg8_7 => ?_)
    · have hg8_7' := hg8_7; (try simp only [nrm] at hg8_7'); try (exfalso; first | with_reducible exact absurd hg8_7 Bool.false_ne_true | with_reducible exact absurd hg8_7.symm Bool.false_ne_true | omega | (simp at hg8_7; done))
      all_goals
       refine wl_s rfl (want_n rfl rfl rfl rfl (by rw [hg8_7]; rfl)) ?_
       refine wl_s rfl (want_n rfl rfl rfl rfl (by rw [hg8_7]; rfl)) ?_
       refine wl_s rfl (want_n rfl rfl rfl rfl (by rw [hg8_7]; rfl)) ?_
       refine wl_v (x_pickT (tmB rfl rfl) hg8_7 ev_c) ?_
       refine wl_v (x_move (tmB rfl rfl)) ?_
       refine wl_s rfl (want_n rfl rfl rfl rfl rfl) ?_
       refine wl_s rfl (want_n rfl rfl rfl rfl rfl) ?_
       refine wl_s rfl (want_n rfl rfl rfl rfl rfl) ?_
       refine wl_s rfl (want_n rfl rfl rfl rfl rfl) ?_
       refine wl_v (x_pickT (tmB rfl rfl) rfl ev_c) ?_
       refine wl_nil ?_
       refine then_n (hK10 _ _ ?_); clear hK10 K10
       refine cnd_t (tmB rfl rfl) rfl ?_
       refine wp_seq_k ?_; intro K13 hK13
       refine wlit ?_
       refine wl_v (x_build (bc_skip (.int .u8 0) <| bc_skip (.int .i64 0) <| bc_skip (.int .u16 0) <| bc_skip (.bool false) <| bc_skip (.bool false) <| bc_skip (.int .i64 0) <| bc_skip (.int .u8 0) <| bc_skip (.int .u8 0) <| bc_skip (.int .u16 0) <| bc_skipL [.bool false, .int .u64 0, .int .u64 0] <| bc_skipL [.bool false, .int .u64 0, .int .u64 0] <| bc_skip (.slice none 0 0) <| bc_nil) (by kernel_rfl)) ?_
       refine wl_e rfl ?_; intro K hK
       refine ow_storeA hS 3 rfl ts_88 (tmP rfl rfl) (tmA rfl rfl) rfl rfl rfl ?_
       clear hS; intro w hS
       try replace hS := St.nm (M' := [.blk _ _ [_, _, _, _, _, _, _, _, _, _, _, _, _, _, _, _], _, .row _ _ _ _ _, .blk _ _ [_, _, _, _, _, _, _, _, _, _, _, _, _, _, _, _], .vw _ _]) hS rfl
       refine hK _ _ ?_; clear hK K
       refine wl_v (x_assign ev_c) ?_
       refine wl_v (x_assign (ev_cN 21)) ?_
       refine wl_nil ?_
       refine then_n (hK13 _ _ ?_); clear hK13 K13
       refine wp_ret ?_
       refine then_r ?_
       refine ret3 rfl (.cell rfl rfl (load_rowB (cs := [_, _, _, _, _, _, _, _, _, _, _, _, _, _, _, _]) hS.ok 3 rfl Tryd.underlying88 rfl ts_88 rfl)) (.tmp rfl (show _ = Value.slice _ _ _ from rfl)) (.tmp rfl (show _ = Value.int _ _ from rfl)) ?_
       refine ⟨A3, A4, rfl, NewV.offb (hS.newv 2 rfl) hl hA3 (sz - 20), ?_, hS.kp⟩
       have h4 := NewV.offb (hS.newv 2 rfl) hl hA4 (len - sz)
       rw [show 0 + 1 + 1 + 2 + 2 + 2 + 1 + 1 + 2 + 4 + 4 + (sz - 20) = sz by omega] at h4
       exact h4
    have hg8_7' := hg8_7; (try simp only [nrm] at hg8_7')
    all_goals
     refine wl_gv (want_y rfl rfl rfl rfl (by rw [hg8_7]; rfl)) (x_move (tmI rfl rfl)) ?_
     refine wl_gv (want_y rfl rfl rfl rfl (by rw [hg8_7]; rfl)) (x_andN (tmI rfl rfl) (ev_cN 32768) (fit_u16 (by omega)) (fit_u16 (by omega))) ?_
     refine wl_gv (want_y rfl rfl rfl rfl (by rw [hg8_7]; rfl)) (x_neq (tmI rfl rfl) (ev_cN 0)) ?_
     refine wl_v (x_pickF (tmB rfl rfl) hg8_7 (tmB rfl rfl)) ?_
     refine wl_v (x_move (tmB rfl rfl)) ?_
     refine gs_wl (tm (t := 44) rfl) (fun hg8_12 => ?_) (fun hg8_12 => ?_)
     · have hg8_12' := hg8_12; (try simp only [nrm] at hg8_12'); try (exfalso; first | with_reducible exact absurd hg8_12 Bool.false_ne_true | with_reducible exact absurd hg8_12.symm Bool.false_ne_true | omega | (simp at hg8_12; done))
       all_goals
        refine wl_s rfl (want_n rfl rfl rfl rfl (by rw [hg8_12]; rfl)) ?_
        refine wl_s rfl (want_n rfl rfl rfl rfl (by rw [hg8_12]; rfl)) ?_
        refine wl_s rfl (want_n rfl rfl rfl rfl (by rw [hg8_12]; rfl)) ?_
        refine wl_s rfl (want_n rfl rfl rfl rfl (by rw [hg8_12]; rfl)) ?_
        refine wl_v (x_pickT (tmB rfl rfl) hg8_12 ev_c) ?_
        refine wl_nil ?_
        refine then_n (hK10 _ _ ?_); clear hK10 K10
        refine cnd_t (tmB rfl rfl) rfl ?_
        refine wp_seq_k ?_; intro K15 hK15
        refine wlit ?_
        refine wl_v (x_build (bc_skip (.int .u8 0) <| bc_skip (.int .i64 0) <| bc_skip (.int .u16 0) <| bc_skip (.bool false) <| bc_skip (.bool false) <| bc_skip (.int .i64 0) <| bc_skip (.int .u8 0) <| bc_skip (.int .u8 0) <| bc_skip (.int .u16 0) <| bc_skipL [.bool false, .int .u64 0, .int .u64 0] <| bc_skipL [.bool false, .int .u64 0, .int .u64 0] <| bc_skip (.slice none 0 0) <| bc_nil) (by kernel_rfl)) ?_
        refine wl_e rfl ?_; intro K hK
        refine ow_storeA hS 3 rfl ts_88 (tmP rfl rfl) (tmA rfl rfl) rfl rfl rfl ?_
        clear hS; intro w hS
        try replace hS := St.nm (M' := [.blk _ _ [_, _, _, _, _, _, _, _, _, _, _, _, _, _, _, _], _, .row _ _ _ _ _, .blk _ _ [_, _, _, _, _, _, _, _, _, _, _, _, _, _, _, _], .vw _ _]) hS rfl
        refine hK _ _ ?_; clear hK K
        refine wl_v (x_assign ev_c) ?_
        refine wl_v (x_assign (ev_cN 21)) ?_
        refine wl_nil ?_
        refine then_n (hK15 _ _ ?_); clear hK15 K15
        refine wp_ret ?_
        refine then_r ?_
        refine ret3 rfl (.cell rfl rfl (load_rowB (cs := [_, _, _, _, _, _, _, _, _, _, _, _, _, _, _, _]) hS.ok 3 rfl Tryd.underlying88 rfl ts_88 rfl)) (.tmp rfl (show _ = Value.slice _ _ _ from rfl)) (.tmp rfl (show _ = Value.int _ _ from rfl)) ?_
        refine ⟨A3, A4, rfl, NewV.offb (hS.newv 2 rfl) hl hA3 (sz - 20), ?_, hS.kp⟩
        have h4 := NewV.offb (hS.newv 2 rfl) hl hA4 (len - sz)
        rw [show 0 + 1 + 1 + 2 + 2 + 2 + 1 + 1 + 2 + 4 + 4 + (sz - 20) = sz by omega] at h4
        exact h4
     have hg8_12' := hg8_12; (try simp only [nrm] at hg8_12')
     all_goals
      refine wl_gv (want_y rfl rfl rfl rfl (by rw [hg8_12]; rfl)) (x_fa 1 Tryd.underlying88 rfl rfl ts_3 (tmP rfl rfl)) ?_
      refine wl_gv (want_y rfl rfl rfl rfl (by rw [hg8_12]; rfl)) (x_load Tryd.underlying3 rfl (tmP rfl rfl) (cellB hS.ok 0 rfl rfl)) ?_
      refine wl_gv (want_y rfl rfl rfl rfl (by rw [hg8_12]; rfl)) (x_move (tmI rfl rfl)) ?_
      refine wl_gv (want_y rfl rfl rfl rfl (by rw [hg8_12]; rfl)) (x_lss (tmI rfl rfl) (tmI rfl rfl)) ?_
      refine wl_v (x_pickF (tmB rfl rfl) hg8_12 (tmB rfl rfl)) ?_
      refine wl_nil ?_
      refine then_n (hK10 _ _ ?_); clear hK10 K10
      refine cnd (tm rfl) (fun hc1 => ?_) (fun hc1 => ?_)
      · exfalso
        simp only [nrm] at hc1
        omega
      all_goals
       try simp only [nrm] at hc1
       refine wp_skip ?_
       refine then_n (hK9 _ _ ?_); clear hK9 K9
       refine wp_seq_k ?_; intro K17 hK17
       refine wp_seq_k ?_; intro K18 hK18
       refine wlit ?_
       refine wl_v (x_move (tmS rfl rfl)) ?_
       refine wl_v (x_len Tryd.underlying22 (tmS rfl rfl)) ?_
       refine wl_v (x_fa 1 Tryd.underlying88 rfl rfl ts_3 (tmP rfl rfl)) ?_
       refine wl_v (x_load Tryd.underlying3 rfl (tmP rfl rfl) (cellB hS.ok 0 rfl rfl)) ?_
       refine wl_v (x_lss (tmI rfl rfl) (tmI rfl rfl)) ?_
       refine wl_nil ?_
       refine then_n (hK18 _ _ ?_); clear hK18 K18
       refine cnd (tm rfl) (fun hc2 => ?_) (fun hc2 => ?_)
       · exfalso
         simp only [nrm] at hc2
         omega
       all_goals
        try simp only [nrm] at hc2
        refine wp_skip ?_
        refine then_n (hK17 _ _ ?_); clear hK17 K17
        refine wp_seq_k ?_; intro K19 hK19
        refine wp_seq_k ?_; intro K20 hK20
        refine wlit ?_
        refine wl_v (x_move (tmS rfl rfl)) ?_
        refine wl_v (x_move (tmI rfl rfl)) ?_
        refine wl_v (x_sliceH Tryd.underlying22 ts_5 (tmS rfl rfl) (tmI rfl rfl) (by omega)) ?_
        replace hS := hS.cutb 4 0 sz rfl (by omega : l.length ≤ c)
        refine wl_e rfl ?_; intro K hK
        refine ow_build hS Tryd.underlying110 tz_22 (bc_take (tmS rfl rfl) <| bc_nil) rfl rfl (by kernel_rfl) ?_
        clear hS; intro g12_3 w hg12_3 hS
        refine hK _ _ ?_; clear hK K
        refine wl_e rfl ?_; intro K hK
        refine ow_call Tryd.func62 rfl rfl (evs_cons (tmS rfl rfl) <| evs_nil) (sum_right_c _ sz _ (l.take sz) _ _ (viewB hS.ok 0 rfl) (viewV hS.ok 1 rfl) htl (hb.take sz) (by omega) _) ?_
        rintro e w ⟨rfl, hk⟩
        refine ⟨_, rfl, ?_⟩
        replace hS := hS.kept hk
        clear hk
        refine hK _ _ ?_; clear hK K
        refine wl_v (x_not (tmB rfl rfl)) ?_
        refine wl_nil ?_
        refine then_n (hK20 _ _ ?_); clear hK20 K20
        refine cnd (tm rfl) (fun hc3 => ?_) (fun hc3 => ?_)
        · exfalso
          simp at hc3
          exact hc3 hsum
        all_goals
         try simp only [nrm] at hc3
         refine wp_skip ?_
         refine then_n (hK19 _ _ ?_); clear hK19 K19
         refine wp_seq_k ?_; intro K21 hK21
         refine wlit ?_
         refine wl_v (x_move (tmI rfl rfl)) ?_
         refine wl_v (x_andN (tmI rfl rfl) (ev_cN 16384) (fit_u16 (by omega)) (fit_u16 (by omega))) ?_
         refine wl_v ((congrArg (fun q : Bool => Value.bool q) e14) ▸ x_neq (tmI rfl rfl) (ev_cN 0)) ?_
         refine wl_v (x_move (tmI rfl rfl)) ?_
         refine wl_v (x_andN (tmI rfl rfl) (ev_cN 8192) (fit_u16 (by omega)) (fit_u16 (by omega))) ?_
         refine wl_v ((congrArg (fun q : Bool => Value.bool q) e13) ▸ x_neq (tmI rfl rfl) (ev_cN 0)) ?_
         refine wl_v (x_move (tmI rfl rfl)) ?_
         refine wl_v (x_andN (tmI rfl rfl) (ev_cN 8191) (fit_u16 (by omega)) (fit_u16 (by omega))) ?_
         refine wl_v (x_convN Tryd.underlying27 Tryd.underlying3 (tmI rfl (congrArg (fun q : Nat => Value.int .u16 (q : Int)) h81)) (fit_i64 (by omega))) ?_
         refine wl_v (x_fa 3 Tryd.underlying88 rfl rfl ts_4 (tmP rfl rfl)) ?_
         refine wl_e rfl ?_; intro K hK
         refine ow_store hS 2 rfl ts_4 (tmP rfl rfl) (tmB rfl rfl) rfl rfl ?_
         clear hS; intro w hS
         try replace hS := St.nm (M' := [_, .vw _ _, .blk _ _ [_, _, _, _, _, _, _, _, _, _, _, _, _, _, _, _], _, .row _ _ _ _ _, .blk _ _ [_, _, _, _, _, _, _, _, _, _, _, _, _, _, _, _], .vw _ _]) hS rfl
         refine hK _ _ ?_; clear hK K
         refine wl_v (x_fa 4 Tryd.underlying88 rfl rfl ts_4 (tmP rfl rfl)) ?_
         refine wl_e rfl ?_; intro K hK
         refine ow_store hS 2 rfl ts_4 (tmP rfl rfl) (tmB rfl rfl) rfl rfl ?_
         clear hS; intro w hS
         try replace hS := St.nm (M' := [_, .vw _ _, .blk _ _ [_, _, _, _, _, _, _, _, _, _, _, _, _, _, _, _], _, .row _ _ _ _ _, .blk _ _ [_, _, _, _, _, _, _, _, _, _, _, _, _, _, _, _], .vw _ _]) hS rfl
         refine hK _ _ ?_; clear hK K
         refine wl_v (x_fa 5 Tryd.underlying88 rfl rfl ts_3 (tmP rfl rfl)) ?_
         refine wl_e rfl ?_; intro K hK
         refine ow_store hS 2 rfl ts_3 (tmP rfl rfl) (tmI rfl rfl) rfl rfl ?_
         clear hS; intro w hS
         try replace hS := St.nm (M' := [_, .vw _ _, .blk _ _ [_, _, _, _, _, _, _, _, _, _, _, _, _, _, _, _], _, .row _ _ _ _ _, .blk _ _ [_, _, _, _, _, _, _, _, _, _, _, _, _, _, _, _], .vw _ _]) hS rfl
         refine hK _ _ ?_; clear hK K
         refine wl_nil ?_
         refine then_n (hK21 _ _ ?_); clear hK21 K21
         refine wp_seq_k ?_; intro K22 hK22
         refine wlit ?_
         refine wl_v (x_move (tmP rfl rfl)) ?_
         refine wl_e rfl ?_; intro K hK
         refine ow_call Tryd.func55 rfl rfl (evs_cons (tmP rfl rfl) <| evs_nil) (byte_c gr A0 _ _ n _ l false _ _ (hS.enter [3] [4] rfl rfl) hA (by omega) hcp hl hb) ?_
         rintro e w ⟨A1, c1, rfl, hS2, hA, hcp⟩
         refine ⟨_, rfl, ?_⟩
         replace hS := hS.turn 3 rfl rfl hS2 rfl
         clear hS2
         try replace hS := St.nm (M' := [_, .vw _ _, .blk _ _ [_, _, _, _, _, _, _, _, _, _, _, _, _, _, _, _], _, .row _ _ _ _ _, .blk _ _ [_, _, _, _, _, _, _, _, _, _, _, _, _, _, _, _], .vw _ _]) hS rfl
         refine hK _ _ ?_; clear hK K
         refine wl_v (x_move (tmP rfl rfl)) ?_
         refine wl_e rfl ?_; intro K hK
         refine ow_call Tryd.func55 rfl rfl (evs_cons (tmP rfl rfl) <| evs_nil) (byte_c gr A0 _ _ n _ l false _ _ (hS.enter [3] [4] rfl rfl) hA (by omega) hcp hl hb) ?_
         rintro e w ⟨A1, c1, rfl, hS2, hA, hcp⟩
         refine ⟨_, rfl, ?_⟩
         replace hS := hS.turn 3 rfl rfl hS2 rfl
         clear hS2
         try replace hS := St.nm (M' := [_, .vw _ _, .blk _ _ [_, _, _, _, _, _, _, _, _, _, _, _, _, _, _, _], _, .row _ _ _ _ _, .blk _ _ [_, _, _, _, _, _, _, _, _, _, _, _, _, _, _, _], .vw _ _]) hS rfl
         refine hK _ _ ?_; clear hK K
         refine wl_v (x_move (tmP rfl rfl)) ?_
         refine wl_e rfl ?_; intro K hK
         refine ow_call Tryd.func54 rfl rfl (evs_cons (tmP rfl rfl) <| evs_nil) (word_c gr A0 _ _ n _ l false _ _ (hS.enter [3] [4] rfl rfl) hA (by omega) hcp hl hb) ?_
         rintro e w ⟨A1, c1, rfl, hS2, hA, hcp⟩
         refine ⟨_, rfl, ?_⟩
         replace hS := hS.turn 3 rfl rfl hS2 rfl
         clear hS2
         try replace hS := St.nm (M' := [_, .vw _ _, .blk _ _ [_, _, _, _, _, _, _, _, _, _, _, _, _, _, _, _], _, .row _ _ _ _ _, .blk _ _ [_, _, _, _, _, _, _, _, _, _, _, _, _, _, _, _], .vw _ _]) hS rfl
         refine hK _ _ ?_; clear hK K
         refine wl_v (x_fa 6 Tryd.underlying88 rfl rfl ts_5 (tmP rfl rfl)) ?_
         refine wl_e rfl ?_; intro K hK
         refine ow_store hS 2 rfl ts_5 (tmP rfl rfl) (tmI rfl rfl) rfl rfl ?_
         clear hS; intro w hS
         try replace hS := St.nm (M' := [_, .vw _ _, .blk _ _ [_, _, _, _, _, _, _, _, _, _, _, _, _, _, _, _], _, .row _ _ _ _ _, .blk _ _ [_, _, _, _, _, _, _, _, _, _, _, _, _, _, _, _], .vw _ _]) hS rfl
         refine hK _ _ ?_; clear hK K
         refine wl_v (x_fa 7 Tryd.underlying88 rfl rfl ts_5 (tmP rfl rfl)) ?_
         refine wl_e rfl ?_; intro K hK
         refine ow_store hS 2 rfl ts_5 (tmP rfl rfl) (tmI rfl rfl) rfl rfl ?_
         clear hS; intro w hS
         try replace hS := St.nm (M' := [_, .vw _ _, .blk _ _ [_, _, _, _, _, _, _, _, _, _, _, _, _, _, _, _], _, .row _ _ _ _ _, .blk _ _ [_, _, _, _, _, _, _, _, _, _, _, _, _, _, _, _], .vw _ _]) hS rfl
         refine hK _ _ ?_; clear hK K
         refine wl_v (x_fa 8 Tryd.underlying88 rfl rfl ts_27 (tmP rfl rfl)) ?_
         refine wl_e rfl ?_; intro K hK
         refine ow_store hS 2 rfl ts_27 (tmP rfl rfl) (tmI rfl rfl) rfl rfl ?_
         clear hS; intro w hS
         try replace hS := St.nm (M' := [_, .vw _ _, .blk _ _ [_, _, _, _, _, _, _, _, _, _, _, _, _, _, _, _], _, .row _ _ _ _ _, .blk _ _ [_, _, _, _, _, _, _, _, _, _, _, _, _, _, _, _], .vw _ _]) hS rfl
         refine hK _ _ ?_; clear hK K
         refine wl_nil ?_
         refine then_n (hK22 _ _ ?_); clear hK22 K22
         refine wp_seq_k ?_; intro K23 hK23
         refine wlit ?_
         refine wl_v (x_move (tmP rfl rfl)) ?_
         refine wl_e rfl ?_; intro K hK
         refine ow_call Tryd.func57 rfl rfl (evs_cons (tmP rfl rfl) <| evs_cons (ev_cN 4) <| evs_nil) (bytes_c gr A0 A1 _ 4 n _ l false _ _ (hS.enter [3] [4] rfl rfl) hA (by omega) hcp) ?_
         rintro e w ⟨A2, c2, rfl, hS2, hA2, hcp2⟩
         refine ⟨_, rfl, ?_⟩
         replace hS := hS.turn 3 rfl rfl hS2 rfl
         clear hS2
         try replace hS := St.nm (M' := [_, .vw _ _, .blk _ _ [_, _, _, _, _, _, _, _, _, _, _, _, _, _, _, _], _, .row _ _ _ _ _, .blk _ _ [_, _, _, _, _, _, _, _, _, _, _, _, _, _, _, _], .vw _ _]) hS rfl
         refine hK _ _ ?_; clear hK K
         refine wl_e rfl ?_; intro K hK
         refine ow_call Tryd.func56 rfl rfl (evs_cons (tmS rfl rfl) <| evs_nil) (ad_of4_c A1 _ _ _ (by have h := (NewV.offb (hS.newv 4 rfl) hl hA 4).1; exact h) (by rw [List.length_take, List.length_drop]; omega) ((hb.drop _).take 4)) ?_
         rintro e w ⟨rfl, hk⟩
         refine ⟨_, rfl, ?_⟩
         replace hS := hS.kept hk
         clear hk
         refine hK _ _ ?_; clear hK K
         refine wl_v (x_move (tmT rfl rfl)) ?_
         refine wl_v (x_ext (tmT rfl rfl) rfl) ?_
         refine wl_v (x_ext (tmT rfl rfl) rfl) ?_
         refine wl_v (x_fa 9 Tryd.underlying88 rfl rfl ts_26 (tmP rfl rfl)) ?_
         refine wl_e rfl ?_; intro K hK
         refine ow_storeA hS 2 rfl ts_26 (tmP rfl rfl) (tmA rfl rfl) rfl rfl rfl ?_
         clear hS; intro w hS
         try replace hS := St.nm (M' := [_, .vw _ _, .blk _ _ [_, _, _, _, _, _, _, _, _, _, _, _, _, _, _, _], _, .row _ _ _ _ _, .blk _ _ [_, _, _, _, _, _, _, _, _, _, _, _, _, _, _, _], .vw _ _]) hS rfl
         refine hK _ _ ?_; clear hK K
         refine wl_nil ?_
         refine then_n (hK23 _ _ ?_); clear hK23 K23
         refine wp_seq_k ?_; intro K24 hK24
         refine wlit ?_
         refine wl_v (x_move (tmP rfl rfl)) ?_
         refine wl_e rfl ?_; intro K hK
         refine ow_call Tryd.func57 rfl rfl (evs_cons (tmP rfl rfl) <| evs_cons (ev_cN 4) <| evs_nil) (bytes_c gr A0 A2 _ 4 n _ l false _ _ (hS.enter [3] [4] rfl rfl) hA2 (by omega) hcp2) ?_
         rintro e w ⟨A3, c3, rfl, hS2, hA3, hcp3⟩
         refine ⟨_, rfl, ?_⟩
         replace hS := hS.turn 3 rfl rfl hS2 rfl
         clear hS2
         try replace hS := St.nm (M' := [_, .vw _ _, .blk _ _ [_, _, _, _, _, _, _, _, _, _, _, _, _, _, _, _], _, .row _ _ _ _ _, .blk _ _ [_, _, _, _, _, _, _, _, _, _, _, _, _, _, _, _], .vw _ _]) hS rfl
         refine hK _ _ ?_; clear hK K
         refine wl_e rfl ?_; intro K hK
         refine ow_call Tryd.func56 rfl rfl (evs_cons (tmS rfl rfl) <| evs_nil) (ad_of4_c A2 _ _ _ (by have h := (NewV.offb (hS.newv 4 rfl) hl hA2 4).1; exact h) (by rw [List.length_take, List.length_drop]; omega) ((hb.drop _).take 4)) ?_
         rintro e w ⟨rfl, hk⟩
         refine ⟨_, rfl, ?_⟩
         replace hS := hS.kept hk
         clear hk
         refine hK _ _ ?_; clear hK K
         refine wl_v (x_move (tmT rfl rfl)) ?_
         refine wl_v (x_ext (tmT rfl rfl) rfl) ?_
         refine wl_v (x_ext (tmT rfl rfl) rfl) ?_
         refine wl_v (x_fa 12 Tryd.underlying88 rfl rfl ts_26 (tmP rfl rfl)) ?_
         refine wl_e rfl ?_; intro K hK
         refine ow_storeA hS 2 rfl ts_26 (tmP rfl rfl) (tmA rfl rfl) rfl rfl rfl ?_
         clear hS; intro w hS
         try replace hS := St.nm (M' := [_, .vw _ _, .blk _ _ [_, _, _, _, _, _, _, _, _, _, _, _, _, _, _, _], _, .row _ _ _ _ _, .blk _ _ [_, _, _, _, _, _, _, _, _, _, _, _, _, _, _, _], .vw _ _]) hS rfl
         refine hK _ _ ?_; clear hK K
         refine wl_nil ?_
         refine then_n (hK24 _ _ ?_); clear hK24 K24
         refine wp_seq_k ?_; intro K25 hK25
         refine wlit ?_
         refine wl_v (x_move (tmP rfl rfl)) ?_
         refine wl_v (x_move (tmI rfl rfl)) ?_
         refine wl_v (x_subN (tmI rfl rfl) (ev_cN 20) (fit_i64 (by omega)) (by omega)) ?_
         refine wl_e rfl ?_; intro K hK
         refine ow_call Tryd.func57 rfl rfl (evs_cons (tmP rfl rfl) <| evs_cons (tmI rfl rfl) <| evs_nil) (bytes_c gr A0 A3 _ (sz - 20) n _ l false _ _ (hS.enter [3] [4] rfl rfl) hA3 (by omega) hcp3) ?_
         rintro e w ⟨A4, c4, rfl, hS2, hA4, hcp4⟩
         refine ⟨_, rfl, ?_⟩
         replace hS := hS.turn 3 rfl rfl hS2 rfl
         clear hS2
         try replace hS := St.nm (M' := [_, .vw _ _, .blk _ _ [_, _, _, _, _, _, _, _, _, _, _, _, _, _, _, _], _, .row _ _ _ _ _, .blk _ _ [_, _, _, _, _, _, _, _, _, _, _, _, _, _, _, _], .vw _ _]) hS rfl
         refine hK _ _ ?_; clear hK K
         refine wl_v (x_fa 15 Tryd.underlying88 rfl rfl ts_22 (tmP rfl rfl)) ?_
         refine wl_e rfl ?_; intro K hK
         refine ow_store hS 2 rfl ts_22 (tmP rfl rfl) (tmS rfl rfl) rfl rfl ?_
         clear hS; intro w hS
         try replace hS := St.nm (M' := [_, .vw _ _, .blk _ _ [_, _, _, _, _, _, _, _, _, _, _, _, _, _, _, _], _, .row _ _ _ _ _, .blk _ _ [_, _, _, _, _, _, _, _, _, _, _, _, _, _, _, _], .vw _ _]) hS rfl
         refine hK _ _ ?_; clear hK K
         refine wl_nil ?_
         refine then_n (hK25 _ _ ?_); clear hK25 K25
         refine wp_seq_k ?_; intro K26 hK26
         replace hS := hS.pick [3, 5, 2, 4] rfl rfl
         try replace hS := St.nm (M' := [_, .blk _ _ [_, _, _, _, _, _, _, _, _, _, _, _, _, _, _, _], .blk _ _ [_, _, _, _, _, _, _, _, _, _, _, _, _, _, _, _], .row _ _ _ _ _]) hS rfl
         refine rg_startk 2 hS mixed_ ?_
         clear hS; intro w hS
         refine rg_take 0 rfl rfl (by kernel_rfl) (by kernel_rfl) (by kernel_rfl) (want_0) (fun w hok => x_loadA (cs := [_, _, _, _, _, _, _, _, _, _, _, _, _, _, _, _]) Tryd.underlying88 rfl ts_88 (tmP rfl rfl) (rangeB hok 0 rfl rfl)) ?_
         refine rg_take 1 rfl rfl (by kernel_rfl) (by kernel_rfl) (by kernel_rfl) (want_0) (fun w hok => x_move (tmP rfl rfl)) ?_
         refine rg_take 2 rfl rfl (by kernel_rfl) (by kernel_rfl) (by kernel_rfl) (want_0) (fun w hok => x_fa 1 Tryd.underlying88 rfl rfl ts_3 (tmP rfl rfl)) ?_
         refine rg_take 3 rfl rfl (by kernel_rfl) (by kernel_rfl) (by kernel_rfl) (want_0) (fun w hok => x_load Tryd.underlying3 rfl (tmP rfl rfl) (cellB hok 0 rfl rfl)) ?_
         refine rg_take 4 rfl rfl (by kernel_rfl) (by kernel_rfl) (by kernel_rfl) (want_0) (fun w hok => x_move (tmI rfl rfl)) ?_
         refine rg_take 5 rfl rfl (by kernel_rfl) (by kernel_rfl) (by kernel_rfl) (want_0) (fun w hok => x_subN (tmI rfl rfl) (tmI rfl rfl) (fit_i64 (by omega)) (by omega)) ?_
         refine rg_step 6 rfl (by kernel_rfl) (want_0) (oks_drop hS 2 rfl) ?_; intro K hK
         refine ow_call Tryd.func57 rfl rfl (evs_cons (tmP rfl rfl) <| evs_cons (tmI rfl rfl) <| evs_nil) (bytes_c gr A0 A4 _ (len - sz) n _ l false _ _ (hS.enter [0] [3] rfl rfl) hA4 (by omega) hcp4) ?_
         rintro e w ⟨A5, c5, rfl, hS2, hA5, hcp5⟩
         refine ⟨_, rfl, ?_⟩
         replace hS := hS.turn 0 rfl rfl hS2 rfl
         clear hS2
         try replace hS := St.nm (M' := [_, .blk _ _ [_, _, _, _, _, _, _, _, _, _, _, _, _, _, _, _], .blk _ _ [_, _, _, _, _, _, _, _, _, _, _, _, _, _, _, _], .row _ _ _ _ _]) hS rfl
         refine hK _ _ ?_; clear hK K
         refine rg_step 7 rfl (by kernel_rfl) (want_0) (oks_drop hS 2 rfl) ?_; intro K hK
         refine ow_storeA hS 1 rfl ts_88 (tmP rfl rfl) (tmA rfl rfl) rfl rfl rfl ?_
         clear hS; intro w hS
         try replace hS := St.nm (M' := [_, .blk _ _ [_, _, _, _, _, _, _, _, _, _, _, _, _, _, _, _], .blk _ _ [_, _, _, _, _, _, _, _, _, _, _, _, _, _, _, _], .row _ _ _ _ _]) hS rfl
         refine hK _ _ ?_; clear hK K
         refine rg_take 8 rfl rfl (by kernel_rfl) (by kernel_rfl) (by kernel_rfl) (want_0) (fun w hok => x_assign (tmS rfl rfl)) ?_
         refine rg_take 9 rfl rfl (by kernel_rfl) (by kernel_rfl) (by kernel_rfl) (want_0) (fun w hok => x_assign (ev_cN 0)) ?_
         refine rg_done (oks_drop hS 2 rfl) (by kernel_rfl) ?_
         refine then_n (hK26 _ _ ?_); clear hK26 K26
         refine wp_ret ?_
         refine ret3 rfl (.cell rfl rfl (load_rowB (cs := [_, _, _, _, _, _, _, _, _, _, _, _, _, _, _, _]) hS.ok 1 rfl Tryd.underlying88 rfl ts_88 rfl)) (.tmp rfl (show _ = Value.slice _ _ _ from rfl)) (.tmp rfl (show _ = Value.int _ _ from rfl)) ?_
         refine ⟨A3, A4, rfl, NewV.offb (hS.newv 3 rfl) hl hA3 (sz - 20), ?_, hS.kp⟩
         have h4 := NewV.offb (hS.newv 3 rfl) hl hA4 (len - sz)
         rw [show 0 + 1 + 1 + 2 + 2 + 2 + 1 + 1 + 2 + 4 + 4 + (sz - 20) = sz by omega] at h4
         exact h4

/-- Why a header may not be read. -/
inductive Ip4Bad (l : List Nat) (n : Nat) : Nat → Prop
  | short (h : n < 20) : Ip4Bad l n 20
  | form (h : 20 ≤ n) (h2 : nth l 0 / 16 ≠ 4 ∨ nth l 0 % 16 * 4 < 20 ∨ 32768 ≤ getN l 6 2 ∨ getN l 2 2 < nth l 0 % 16 * 4) : Ip4Bad l n 21
  | cut {sz len : Nat} (hf : Ip4Form l n sz len) (h : n < len) : Ip4Bad l n 20
  | sum {sz len : Nat} (hf : Ip4Form l n sz len) (h : len ≤ n) (hs : ¬ SumOk l sz) : Ip4Bad l n 22
theorem ip4_all (l : List Nat) (n : Nat) : (∃ sz len, Ip4Form l n sz len ∧ len ≤ n ∧ SumOk l sz) ∨ ∃ er, Ip4Bad l n er := by
  by_cases h0 : n < 20
  · exact .inr ⟨20, .short h0⟩
  by_cases h1 : nth l 0 / 16 ≠ 4 ∨ nth l 0 % 16 * 4 < 20 ∨ 32768 ≤ getN l 6 2 ∨ getN l 2 2 < nth l 0 % 16 * 4
  · exact .inr ⟨21, .form (by omega) h1⟩
  have hf : Ip4Form l n (nth l 0 % 16 * 4) (getN l 2 2) := ⟨by omega, by omega, rfl, by omega, by omega, rfl, by omega⟩
  by_cases h2 : n < getN l 2 2
  · exact .inr ⟨20, .cut hf h2⟩
  by_cases h3 : SumOk l (nth l 0 % 16 * 4)
  · exact .inl ⟨_, _, hf, by omega, h3⟩
  · exact .inr ⟨22, .sum hf (by omega) h3⟩
end Go.Proofs.YtmekadkmmddocaaDoor
