/- steer: Read, by contract. Conditions: none but bounds. -/
import Derived.Test.YtcobjneobdihkaaStK
import Derived.Test.YtcobjneobdihkaaAd
import Derived.Test.YtcobjneobdihkaaIp4
import Derived.Test.YtcobjneobdihkaaDyn
namespace Go.Proofs.Ytcobjneobdihkaa
open Go.ChangeShapes Go.WideShapes Go.ChangeAt Go.RowKit
def flV (s d : Ad) (sp dp pr : Nat) : List Value := [.bool s.six, .int .u64 (s.high : Int), .int .u64 (s.low : Int), .bool d.six, .int .u64 (d.high : Int), .int .u64 (d.low : Int), .int .u16 (sp : Int), .int .u16 (dp : Int), .int .u8 (pr : Int)]
def quV (s d : Ad) (sp dp pr st : Nat) (has : Bool) : List Value := [.bool s.six, .int .u64 (s.high : Int), .int .u64 (s.low : Int), .bool d.six, .int .u64 (d.high : Int), .int .u64 (d.low : Int), .int .u16 (sp : Int), .int .u16 (dp : Int), .int .u8 (pr : Int), .int .u32 (st : Int), .bool has]
def adZ : Ad := ⟨false, 0, 0⟩
/-- The header of IPv4 tells a flow. -/
def Hd4 (l : List Nat) (sz : Nat) : Prop := 20 ≤ l.length ∧ nth l 0 / 16 = 4 ∧ sz = nth l 0 % 16 * 4 ∧ 20 ≤ sz ∧ sz + 8 ≤ l.length ∧ getN l 6 2 % 16384 = 0
def Hd6 (l : List Nat) : Prop := 48 ≤ l.length ∧ nth l 0 / 16 = 6
def src4 (l : List Nat) : Ad := ⟨false, 0, getN l 12 4⟩
def dst4 (l : List Nat) : Ad := ⟨false, 0, getN l 16 4⟩
def src6 (l : List Nat) : Ad := ⟨true, getN l 8 8, getN l 16 8⟩
def dst6 (l : List Nat) : Ad := ⟨true, getN l 24 8, getN l 32 8⟩
/-- What a header's reader answers. -/
def HdS (fn : Nat) (l : List Nat) (s d : Ad) (pr sz : Nat) : Prop := ∀ (w : World) (A : Option Addr) (c : Nat), View w w.heap.size A (l.map u8v) → l.length ≤ c →
  Calls Try.prog fn #[.slice A l.length c] w fun e w' => e = .returned (.tuple #[.agg (flV s d 0 0 pr).toArray, .slice (cutA A sz c 1) (l.length - sz) (c - sz), .bool true]) ∧ Kp [] w w'
def HdN (fn : Nat) (l : List Nat) : Prop := ∀ (w : World) (A : Option Addr) (c : Nat), View w w.heap.size A (l.map u8v) → l.length ≤ c →
  Calls Try.prog fn #[.slice A l.length c] w fun e w' => e = .returned (.tuple #[.agg (flV adZ adZ 0 0 0).toArray, .slice none 0 0, .bool false]) ∧ Kp [] w w'
theorem and14 (x : Nat) : x &&& 16383 = x % 16384 := Nat.and_two_pow_sub_one_eq_mod x 14
theorem and4b (x : Nat) : x &&& 15 = x % 16 := Nat.and_two_pow_sub_one_eq_mod x 4
set_option maxRecDepth 100000 in
set_option maxHeartbeats 8000000 in
theorem header4_c (l : List Nat) (hb : Bytes l) (hn : l.length ≤ 3000) (sz : Nat) (h : Hd4 l sz) : HdS 12 l (src4 l) (dst4 l) (nth l 9) sz := fun w0 A c hv hc => by
  obtain ⟨n, hl⟩ : ∃ n, l.length = n := ⟨_, rfl⟩
  obtain ⟨h20, hver, hsz, s20, s8, hfr⟩ := h
  have hn4 : n ≤ 1000000 := by omega
  rw [hl] at hc h20 s8 ⊢
  have hS := (St.sv w0).vcons rfl hv
  obtain ⟨b4, o4, rfl⟩ := view_some hv (by rw [List.length_map]; omega)
  have hqb : l.getD 0 0 < 256 := nth_lt hb 0
  have q0 : l.getD 0 0 = nth l 0 := rfl
  have e15 : l.getD 0 0 &&& 15 = l.getD 0 0 % 16 := and4b _
  have hz : (l.getD 0 0 &&& 15) * 4 = sz := by rw [e15, hsz]; rfl
  have g6 : getN l (0 + 6) 2 < 65536 := getN_lt hb 6 2
  have e14 : getN l (0 + 6) 2 &&& 16383 = 0 := by rw [and14]; exact hfr
  have e9 : getN l 9 1 = nth l 9 := getN_one (by omega)
  refine ent (n := 69) Try.func12 rfl rfl ?_
  refine wp_seq_k ?_; intro K1 hK1
  refine wlit ?_
  refine wl_e rfl ?_; intro K hK
  refine ow_alloc hS tz_29 rfl ?_
  clear hS; intro g0_0 w hg0_0 hS
  refine hK _ _ ?_; clear hK K
  refine wl_v (x_assign ev_c) ?_
  refine wl_v (x_assign ev_c) ?_
  refine wl_nil ?_
  refine then_n (hK1 _ _ ?_); clear hK1 K1
  refine wp_seq_k ?_; intro K2 hK2
  refine wp_seq_k ?_; intro K3 hK3
  refine wlit ?_
  refine wl_v (x_move (tmS rfl rfl)) ?_
  refine wl_v (x_len Try.underlying22 (tmS rfl rfl)) ?_
  refine wl_v (x_lss (tmI rfl rfl) (ev_cN 20)) ?_
  refine wl_nil ?_
  refine then_n (hK3 _ _ ?_); clear hK3 K3
  refine cnd (tm rfl) (fun hc0 => ?_) (fun hc0 => ?_)
  · exfalso
    simp at hc0
    omega
  all_goals
   try simp only [nrm] at hc0
   refine wp_skip ?_
   refine then_n (hK2 _ _ ?_); clear hK2 K2
   refine wp_seq_k ?_; intro K4 hK4
   refine wlit ?_
   refine wl_v (x_move (tmS rfl rfl)) ?_
   refine wl_v (x_ixs1 Try.underlying22 ts_5 (tmS rfl rfl) (ev_cN 0) (by omega)) ?_
   refine wl_v (x_load Try.underlying5 rfl (tmP rfl rfl) (cellV hS.ok 1 rfl (getm (by omega)))) ?_
   refine wl_v (x_andN (tmI rfl rfl) (ev_cN 15) (fit_u8 (by omega)) (fit_u8 (by omega))) ?_
   refine wl_v (x_convN Try.underlying5 Try.underlying3 (tmI rfl rfl) (fit_i64 (by omega))) ?_
   refine wl_v (x_mulN (tmI rfl rfl) (ev_cN 4) (fit_i64 (by omega))) ?_
   refine wl_v (x_assign (tmI rfl (congrArg (fun q : Nat => Value.int .i64 (q : Int)) hz))) ?_
   refine wl_nil ?_
   refine then_n (hK4 _ _ ?_); clear hK4 K4
   refine wp_seq_k ?_; intro K5 hK5
   refine wp_seq_k ?_; intro K6 hK6
   refine wlit ?_
   refine wl_v (x_move (tmS rfl rfl)) ?_
   refine wl_v (x_ixs1 Try.underlying22 ts_5 (tmS rfl rfl) (ev_cN 0) (by omega)) ?_
   refine wl_v (x_load Try.underlying5 rfl (tmP rfl rfl) (cellV hS.ok 1 rfl (getm (by omega)))) ?_
   refine wl_v (x_shrN (tmI rfl rfl) (ev_cN 4) (fit_u8 (by omega))) ?_
   refine wl_v (x_neq (tmI rfl rfl) (ev_cN 4)) ?_
   refine wl_v (x_move (tmB rfl rfl)) ?_
   refine gs_wl (tm (t := 23) rfl) (fun hg4_5 => ?_) (fun hg4_5 => ?_)
   · exfalso
     simp only [nrm] at hg4_5
     omega
   have hg4_5' := hg4_5; (try simp only [nrm] at hg4_5')
   all_goals
    refine wl_gv (want_y rfl rfl rfl rfl (by rw [hg4_5]; rfl)) (x_move (tmI rfl rfl)) ?_
    refine wl_gv (want_y rfl rfl rfl rfl (by rw [hg4_5]; rfl)) (x_lss (tmI rfl rfl) (ev_cN 20)) ?_
    refine wl_v (x_pickF (tmB rfl rfl) hg4_5 (tmB rfl rfl)) ?_
    refine wl_v (x_move (tmB rfl rfl)) ?_
    refine gs_wl (tm (t := 27) rfl) (fun hg4_9 => ?_) (fun hg4_9 => ?_)
    · exfalso
      simp only [nrm] at hg4_9
      omega
    have hg4_9' := hg4_9; (try simp only [nrm] at hg4_9')
    all_goals
     refine wl_gv (want_y rfl rfl rfl rfl (by rw [hg4_9]; rfl)) (x_move (tmS rfl rfl)) ?_
     refine wl_gv (want_y rfl rfl rfl rfl (by rw [hg4_9]; rfl)) (x_len Try.underlying22 (tmS rfl rfl)) ?_
     refine wl_gv (want_y rfl rfl rfl rfl (by rw [hg4_9]; rfl)) (x_move (tmI rfl rfl)) ?_
     refine wl_gv (want_y rfl rfl rfl rfl (by rw [hg4_9]; rfl)) (x_addN (tmI rfl rfl) (ev_cN 8) (fit_i64 (by omega))) ?_
     refine wl_gv (want_y rfl rfl rfl rfl (by rw [hg4_9]; rfl)) (x_lss (tmI rfl rfl) (tmI rfl rfl)) ?_
     refine wl_v (x_pickF (tmB rfl rfl) hg4_9 (tmB rfl rfl)) ?_
     refine wl_nil ?_
     refine then_n (hK6 _ _ ?_); clear hK6 K6
     refine cnd (tm rfl) (fun hc1 => ?_) (fun hc1 => ?_)
     · exfalso
       simp at hc1
       omega
     all_goals
      try simp only [nrm] at hc1
      refine wp_skip ?_
      refine then_n (hK5 _ _ ?_); clear hK5 K5
      refine wp_seq_k ?_; intro K7 hK7
      refine wlit ?_
      refine wl_v (x_move (tmS rfl rfl)) ?_
      refine wl_e rfl ?_; intro K hK
      refine ow_call Try.func14 rfl rfl (evs_cons (tmS rfl rfl) <| evs_nil) (read_c n _ c l _ (viewV hS.ok 1 rfl) hl hn4) ?_
      rintro e w ⟨gr, A0, rfl, hS2⟩
      refine ⟨_, rfl, ?_⟩
      replace hS := hS.adds hS2 rfl -- +gr,rowb
      clear hS2
      have hA : Off A0 0 n A0 := off_zero
      have hcp : n - 0 ≤ n := by omega
      refine hK _ _ ?_; clear hK K
      refine wl_v (x_assign (tmP rfl rfl)) ?_
      refine wl_nil ?_
      refine then_n (hK7 _ _ ?_); clear hK7 K7
      refine wp_seq_k ?_; intro K8 hK8
      refine wlit ?_
      refine wl_v (x_move (tmP rfl rfl)) ?_
      refine wl_e rfl ?_; intro K hK
      refine ow_call Try.func29 rfl rfl (evs_cons (tmP rfl rfl) <| evs_cons (ev_cN 6) <| evs_nil) (bytes_c gr A0 A0 0 6 n _ l false _ _ (hS.enter [0] [1] rfl rfl) hA (by omega) hcp) ?_
      rintro e w ⟨A1, c1, rfl, hS2, hA, hcp⟩
      refine ⟨_, rfl, ?_⟩
      replace hS := hS.turn 0 rfl rfl hS2 rfl
      clear hS2
      try replace hS := St.nm (M' := [_, .row _ _ _ _ _, .blk _ _ [_, _, _, _, _, _, _, _, _], .vw _ _]) hS rfl
      refine hK _ _ ?_; clear hK K
      refine wl_nil ?_
      refine then_n (hK8 _ _ ?_); clear hK8 K8
      refine wp_seq_k ?_; intro K9 hK9
      refine wp_seq_k ?_; intro K10 hK10
      refine wlit ?_
      refine wl_v (x_move (tmP rfl rfl)) ?_
      refine wl_e rfl ?_; intro K hK
      refine ow_call Try.func15 rfl rfl (evs_cons (tmP rfl rfl) <| evs_nil) (word_c gr A0 _ _ n _ l false _ _ (hS.enter [0] [1] rfl rfl) hA (by omega) hcp hl hb) ?_
      rintro e w ⟨A1, c1, rfl, hS2, hA, hcp⟩
      refine ⟨_, rfl, ?_⟩
      replace hS := hS.turn 0 rfl rfl hS2 rfl
      clear hS2
      try replace hS := St.nm (M' := [_, .row _ _ _ _ _, .blk _ _ [_, _, _, _, _, _, _, _, _], .vw _ _]) hS rfl
      refine hK _ _ ?_; clear hK K
      refine wl_v (x_andN (tmI rfl rfl) (ev_cN 16383) (fit_u16 (by omega)) (fit_u16 (by omega))) ?_
      refine wl_v (x_neq (tmI rfl rfl) (ev_cN 0)) ?_
      refine wl_nil ?_
      refine then_n (hK10 _ _ ?_); clear hK10 K10
      refine cnd (tm rfl) (fun hc2 => ?_) (fun hc2 => ?_)
      · exfalso
        simp only [nrm] at hc2
        omega
      all_goals
       try simp only [nrm] at hc2
       refine wp_skip ?_
       refine then_n (hK9 _ _ ?_); clear hK9 K9
       refine wp_seq_k ?_; intro K11 hK11
       refine wlit ?_
       refine wl_v (x_move (tmP rfl rfl)) ?_
       refine wl_e rfl ?_; intro K hK
       refine ow_call Try.func30 rfl rfl (evs_cons (tmP rfl rfl) <| evs_nil) (byte_c gr A0 _ _ n _ l false _ _ (hS.enter [0] [1] rfl rfl) hA (by omega) hcp hl hb) ?_
       rintro e w ⟨A1, c1, rfl, hS2, hA, hcp⟩
       refine ⟨_, rfl, ?_⟩
       replace hS := hS.turn 0 rfl rfl hS2 rfl
       clear hS2
       try replace hS := St.nm (M' := [_, .row _ _ _ _ _, .blk _ _ [_, _, _, _, _, _, _, _, _], .vw _ _]) hS rfl
       refine hK _ _ ?_; clear hK K
       refine wl_nil ?_
       refine then_n (hK11 _ _ ?_); clear hK11 K11
       refine wp_seq_k ?_; intro K12 hK12
       refine wlit ?_
       refine wl_v (x_move (tmP rfl rfl)) ?_
       refine wl_e rfl ?_; intro K hK
       refine ow_call Try.func30 rfl rfl (evs_cons (tmP rfl rfl) <| evs_nil) (byte_c gr A0 _ _ n _ l false _ _ (hS.enter [0] [1] rfl rfl) hA (by omega) hcp hl hb) ?_
       rintro e w ⟨A1, c1, rfl, hS2, hA, hcp⟩
       refine ⟨_, rfl, ?_⟩
       replace hS := hS.turn 0 rfl rfl hS2 rfl
       clear hS2
       try replace hS := St.nm (M' := [_, .row _ _ _ _ _, .blk _ _ [_, _, _, _, _, _, _, _, _], .vw _ _]) hS rfl
       refine hK _ _ ?_; clear hK K
       refine wl_v (x_build (bc_skipL [.bool false, .int .u64 0, .int .u64 0] <| bc_skipL [.bool false, .int .u64 0, .int .u64 0] <| bc_skip (.int .u16 0) <| bc_skip (.int .u16 0) <| bc_take (tmI rfl rfl) <| bc_nil) (by kernel_rfl)) ?_
       refine wl_e rfl ?_; intro K hK
       refine ow_alloc hS tz_29 rfl ?_
       clear hS; intro g11_3 w hg11_3 hS
       refine hK _ _ ?_; clear hK K
       refine wl_e rfl ?_; intro K hK
       refine ow_storeA hS 0 rfl ts_29 (tmP rfl rfl) (tmA rfl rfl) rfl rfl rfl ?_
       clear hS; intro w hS
       try replace hS := St.nm (M' := [.blk _ _ [_, _, _, _, _, _, _, _, _], _, .row _ _ _ _ _, .blk _ _ [_, _, _, _, _, _, _, _, _], .vw _ _]) hS rfl
       refine hK _ _ ?_; clear hK K
       refine wl_nil ?_
       refine then_n (hK12 _ _ ?_); clear hK12 K12
       refine wp_seq_k ?_; intro K13 hK13
       refine wlit ?_
       refine wl_v (x_move (tmP rfl rfl)) ?_
       refine wl_e rfl ?_; intro K hK
       refine ow_call Try.func15 rfl rfl (evs_cons (tmP rfl rfl) <| evs_nil) (word_c gr A0 _ _ n _ l false _ _ (hS.enter [1] [2] rfl rfl) hA (by omega) hcp hl hb) ?_
       rintro e w ⟨A1, c1, rfl, hS2, hA, hcp⟩
       refine ⟨_, rfl, ?_⟩
       replace hS := hS.turn 1 rfl rfl hS2 rfl
       clear hS2
       try replace hS := St.nm (M' := [.blk _ _ [_, _, _, _, _, _, _, _, _], _, .row _ _ _ _ _, .blk _ _ [_, _, _, _, _, _, _, _, _], .vw _ _]) hS rfl
       refine hK _ _ ?_; clear hK K
       refine wl_nil ?_
       refine then_n (hK13 _ _ ?_); clear hK13 K13
       refine wp_seq_k ?_; intro K14 hK14
       refine wlit ?_
       refine wl_v (x_move (tmP rfl rfl)) ?_
       refine wl_e rfl ?_; intro K hK
       refine ow_call Try.func29 rfl rfl (evs_cons (tmP rfl rfl) <| evs_cons (ev_cN 4) <| evs_nil) (bytes_c gr A0 A1 _ 4 n _ l false _ _ (hS.enter [1] [2] rfl rfl) hA (by omega) hcp) ?_
       rintro e w ⟨A2, c2, rfl, hS2, hA2, hcp2⟩
       refine ⟨_, rfl, ?_⟩
       replace hS := hS.turn 1 rfl rfl hS2 rfl
       clear hS2
       try replace hS := St.nm (M' := [.blk _ _ [_, _, _, _, _, _, _, _, _], _, .row _ _ _ _ _, .blk _ _ [_, _, _, _, _, _, _, _, _], .vw _ _]) hS rfl
       refine hK _ _ ?_; clear hK K
       refine wl_e rfl ?_; intro K hK
       refine ow_call Try.func31 rfl rfl (evs_cons (tmS rfl rfl) <| evs_nil) (ad_of4_c A1 _ _ _ (by have h := (NewV.offb (hS.newv 2 rfl) hl hA 4).1; exact h) (by rw [List.length_take, List.length_drop]; omega) ((hb.drop _).take 4)) ?_
       rintro e w ⟨rfl, hk⟩
       refine ⟨_, rfl, ?_⟩
       replace hS := hS.kept hk
       clear hk
       refine hK _ _ ?_; clear hK K
       refine wl_v (x_move (tmT rfl rfl)) ?_
       refine wl_v (x_ext (tmT rfl rfl) rfl) ?_
       refine wl_v (x_ext (tmT rfl rfl) rfl) ?_
       refine wl_v (x_fa 0 Try.underlying29 rfl rfl ts_26 (tmP rfl rfl)) ?_
       refine wl_e rfl ?_; intro K hK
       refine ow_storeA hS 0 rfl ts_26 (tmP rfl rfl) (tmA rfl rfl) rfl rfl rfl ?_
       clear hS; intro w hS
       try replace hS := St.nm (M' := [.blk _ _ [_, _, _, _, _, _, _, _, _], _, .row _ _ _ _ _, .blk _ _ [_, _, _, _, _, _, _, _, _], .vw _ _]) hS rfl
       refine hK _ _ ?_; clear hK K
       refine wl_nil ?_
       refine then_n (hK14 _ _ ?_); clear hK14 K14
       refine wp_seq_k ?_; intro K15 hK15
       refine wlit ?_
       refine wl_v (x_move (tmP rfl rfl)) ?_
       refine wl_e rfl ?_; intro K hK
       refine ow_call Try.func29 rfl rfl (evs_cons (tmP rfl rfl) <| evs_cons (ev_cN 4) <| evs_nil) (bytes_c gr A0 A2 _ 4 n _ l false _ _ (hS.enter [1] [2] rfl rfl) hA2 (by omega) hcp2) ?_
       rintro e w ⟨A3, c3, rfl, hS2, hA3, hcp3⟩
       refine ⟨_, rfl, ?_⟩
       replace hS := hS.turn 1 rfl rfl hS2 rfl
       clear hS2
       try replace hS := St.nm (M' := [.blk _ _ [_, _, _, _, _, _, _, _, _], _, .row _ _ _ _ _, .blk _ _ [_, _, _, _, _, _, _, _, _], .vw _ _]) hS rfl
       refine hK _ _ ?_; clear hK K
       refine wl_e rfl ?_; intro K hK
       refine ow_call Try.func31 rfl rfl (evs_cons (tmS rfl rfl) <| evs_nil) (ad_of4_c A2 _ _ _ (by have h := (NewV.offb (hS.newv 2 rfl) hl hA2 4).1; exact h) (by rw [List.length_take, List.length_drop]; omega) ((hb.drop _).take 4)) ?_
       rintro e w ⟨rfl, hk⟩
       refine ⟨_, rfl, ?_⟩
       replace hS := hS.kept hk
       clear hk
       refine hK _ _ ?_; clear hK K
       refine wl_v (x_move (tmT rfl rfl)) ?_
       refine wl_v (x_ext (tmT rfl rfl) rfl) ?_
       refine wl_v (x_ext (tmT rfl rfl) rfl) ?_
       refine wl_v (x_fa 3 Try.underlying29 rfl rfl ts_26 (tmP rfl rfl)) ?_
       refine wl_e rfl ?_; intro K hK
       refine ow_storeA hS 0 rfl ts_26 (tmP rfl rfl) (tmA rfl rfl) rfl rfl rfl ?_
       clear hS; intro w hS
       try replace hS := St.nm (M' := [.blk _ _ [_, _, _, _, _, _, _, _, _], _, .row _ _ _ _ _, .blk _ _ [_, _, _, _, _, _, _, _, _], .vw _ _]) hS rfl
       refine hK _ _ ?_; clear hK K
       refine wl_nil ?_
       refine then_n (hK15 _ _ ?_); clear hK15 K15
       refine wp_seq_k ?_; intro K16 hK16
       replace hS := hS.pick [3, 0, 1, 2] rfl rfl
       try replace hS := St.nm (M' := [.blk _ _ [_, _, _, _, _, _, _, _, _], .blk _ _ [_, _, _, _, _, _, _, _, _], _, .row _ _ _ _ _]) hS rfl
       refine rg_startk 1 hS mixed_ ?_
       clear hS; intro w hS
       refine rg_take 0 rfl rfl (by kernel_rfl) (by kernel_rfl) (by kernel_rfl) (want_0) (fun w hok => x_loadA (cs := [_, _, _, _, _, _, _, _, _]) Try.underlying29 rfl ts_29 (tmP rfl rfl) (rangeB hok 0 rfl rfl)) ?_
       refine rg_take 1 rfl rfl (by kernel_rfl) (by kernel_rfl) (by kernel_rfl) (want_0) (fun w hok => x_move (tmS rfl rfl)) ?_
       refine rg_take 2 rfl rfl (by kernel_rfl) (by kernel_rfl) (by kernel_rfl) (want_0) (fun w hok => x_move (tmI rfl rfl)) ?_
       refine rg_take 3 rfl rfl (by kernel_rfl) (by kernel_rfl) (by kernel_rfl) (want_0) (fun w hok => x_sliceL Try.underlying22 ts_5 (tmS rfl rfl) (tmI rfl rfl) (by omega)) ?_
       refine rg_step 4 rfl (by kernel_rfl) (want_0) (oks_drop hS 1 rfl) ?_; intro K hK
       refine ow_storeA hS 0 rfl ts_29 (tmP rfl rfl) (tmA rfl rfl) rfl rfl rfl ?_
       clear hS; intro w hS
       try replace hS := St.nm (M' := [.blk _ _ [_, _, _, _, _, _, _, _, _], .blk _ _ [_, _, _, _, _, _, _, _, _], _, .row _ _ _ _ _]) hS rfl
       refine hK _ _ ?_; clear hK K
       refine rg_take 5 rfl rfl (by kernel_rfl) (by kernel_rfl) (by kernel_rfl) (want_0) (fun w hok => x_assign (tmS rfl rfl)) ?_
       refine rg_take 6 rfl rfl (by kernel_rfl) (by kernel_rfl) (by kernel_rfl) (want_0) (fun w hok => x_assign ev_c) ?_
       refine rg_done (oks_drop hS 1 rfl) (by kernel_rfl) ?_
       refine then_n (hK16 _ _ ?_); clear hK16 K16
       refine wp_ret ?_
       refine ret3 rfl (.cell rfl rfl (load_rowB (cs := [_, _, _, _, _, _, _, _, _]) hS.ok 0 rfl Try.underlying29 rfl ts_29 rfl)) (.tmp rfl (show _ = Value.slice _ _ _ from rfl)) (.tmp rfl (show _ = Value.bool _ from rfl)) ?_
       refine ⟨?_, hS.kp⟩
       rw [← e9]
       rfl
set_option maxRecDepth 100000 in
set_option maxHeartbeats 8000000 in
theorem header4_bad (l : List Nat) (hb : Bytes l) (hn : l.length ≤ 3000) (h : ¬ ∃ sz, Hd4 l sz) : HdN 12 l := fun w0 A c hv hc => by
  obtain ⟨n, hl⟩ : ∃ n, l.length = n := ⟨_, rfl⟩
  have hn4 : n ≤ 1000000 := by omega
  have hqb : l.getD 0 0 < 256 := nth_lt hb 0
  have h0 : ¬ (20 ≤ n ∧ l.getD 0 0 / 16 = 4 ∧ 20 ≤ l.getD 0 0 % 16 * 4 ∧ l.getD 0 0 % 16 * 4 + 8 ≤ n ∧ getN l 6 2 % 16384 = 0) := fun ⟨x1, x2, x3, x4, x5⟩ => h ⟨_, by omega, x2, rfl, x3, by rw [hl]; exact x4, x5⟩
  obtain ⟨sz, hsz⟩ : ∃ sz, sz = l.getD 0 0 % 16 * 4 := ⟨_, rfl⟩
  obtain ⟨fr, hfr⟩ : ∃ fr, fr = getN l 6 2 % 16384 := ⟨_, rfl⟩
  rw [← hsz, ← hfr] at h0
  rw [hl] at hc ⊢
  have hS := (St.sv w0).vcons rfl hv
  have e15 : l.getD 0 0 &&& 15 = l.getD 0 0 % 16 := and4b _
  have hz : (l.getD 0 0 &&& 15) * 4 = sz := by rw [e15, hsz]
  have g6 : getN l (0 + 6) 2 < 65536 := getN_lt hb 6 2
  have e14 : getN l (0 + 6) 2 &&& 16383 = fr := by rw [and14, hfr]
  refine ent (n := 69) Try.func12 rfl rfl ?_
  refine wp_seq_k ?_; intro K1 hK1
  refine wlit ?_
  refine wl_e rfl ?_; intro K hK
  refine ow_alloc hS tz_29 rfl ?_
  clear hS; intro g0_0 w hg0_0 hS
  refine hK _ _ ?_; clear hK K
  refine wl_v (x_assign ev_c) ?_
  refine wl_v (x_assign ev_c) ?_
  refine wl_nil ?_
  refine then_n (hK1 _ _ ?_); clear hK1 K1
  refine wp_seq_k ?_; intro K2 hK2
  refine wp_seq_k ?_; intro K3 hK3
  refine wlit ?_
  refine wl_v (x_move (tmS rfl rfl)) ?_
  refine wl_v (x_len Try.underlying22 (tmS rfl rfl)) ?_
  refine wl_v (x_lss (tmI rfl rfl) (ev_cN 20)) ?_
  refine wl_nil ?_
  refine then_n (hK3 _ _ ?_); clear hK3 K3
  refine cnd (tm rfl) (fun hc0 => ?_) (fun hc0 => ?_)
  · skip
    all_goals
     try simp only [nrm] at hc0
     refine wp_seq_k ?_; intro K4 hK4
     refine wlit ?_
     refine wl_v (x_build (bc_skipL [.bool false, .int .u64 0, .int .u64 0] <| bc_skipL [.bool false, .int .u64 0, .int .u64 0] <| bc_skip (.int .u16 0) <| bc_skip (.int .u16 0) <| bc_skip (.int .u8 0) <| bc_nil) (by kernel_rfl)) ?_
     refine wl_e rfl ?_; intro K hK
     refine ow_storeA hS 0 rfl ts_29 (tmP rfl rfl) (tmA rfl rfl) rfl rfl rfl ?_
     clear hS; intro w hS
     try replace hS := St.nm (M' := [.blk _ _ [_, _, _, _, _, _, _, _, _], .vw _ _]) hS rfl
     refine hK _ _ ?_; clear hK K
     refine wl_v (x_assign ev_c) ?_
     refine wl_v (x_assign ev_c) ?_
     refine wl_nil ?_
     refine then_n (hK4 _ _ ?_); clear hK4 K4
     refine wp_ret ?_
     refine then_r ?_
     refine ret3 rfl (.cell rfl rfl (load_rowB (cs := [_, _, _, _, _, _, _, _, _]) hS.ok 0 rfl Try.underlying29 rfl ts_29 rfl)) (.tmp rfl (show _ = Value.slice _ _ _ from rfl)) (.tmp rfl (show _ = Value.bool _ from rfl)) ?_
     exact ⟨rfl, hS.kp⟩
  all_goals
   try simp only [nrm] at hc0
   obtain ⟨b4, o4, rfl⟩ := view_some hv (by rw [List.length_map]; first | omega | (simp at hc0; omega))
   refine wp_skip ?_
   refine then_n (hK2 _ _ ?_); clear hK2 K2
   refine wp_seq_k ?_; intro K6 hK6
   refine wlit ?_
   refine wl_v (x_move (tmS rfl rfl)) ?_
   refine wl_v (x_ixs1 Try.underlying22 ts_5 (tmS rfl rfl) (ev_cN 0) (by omega)) ?_
   refine wl_v (x_load Try.underlying5 rfl (tmP rfl rfl) (cellV hS.ok 1 rfl (getm (by omega)))) ?_
   refine wl_v (x_andN (tmI rfl rfl) (ev_cN 15) (fit_u8 (by omega)) (fit_u8 (by omega))) ?_
   refine wl_v (x_convN Try.underlying5 Try.underlying3 (tmI rfl rfl) (fit_i64 (by omega))) ?_
   refine wl_v (x_mulN (tmI rfl rfl) (ev_cN 4) (fit_i64 (by omega))) ?_
   refine wl_v (x_assign (tmI rfl (congrArg (fun q : Nat => Value.int .i64 (q : Int)) hz))) ?_
   refine wl_nil ?_
   refine then_n (hK6 _ _ ?_); clear hK6 K6
   refine wp_seq_k ?_; intro K7 hK7
   refine wp_seq_k ?_; intro K8 hK8
   refine wlit ?_
   refine wl_v (x_move (tmS rfl rfl)) ?_
   refine wl_v (x_ixs1 Try.underlying22 ts_5 (tmS rfl rfl) (ev_cN 0) (by omega)) ?_
   refine wl_v (x_load Try.underlying5 rfl (tmP rfl rfl) (cellV hS.ok 1 rfl (getm (by omega)))) ?_
   refine wl_v (x_shrN (tmI rfl rfl) (ev_cN 4) (fit_u8 (by omega))) ?_
   refine wl_v (x_neq (tmI rfl rfl) (ev_cN 4)) ?_
   refine wl_v (x_move (tmB rfl rfl)) ?_
   refine gs_wl (tm (t := 23) rfl) (fun hg4_5 => ?_) (fun hg4_5 => ?_)
   · have hg4_5' := hg4_5; (try simp only [nrm] at hg4_5')
     all_goals
      refine wl_s rfl (want_n rfl rfl rfl rfl (by rw [hg4_5]; rfl)) ?_
      refine wl_s rfl (want_n rfl rfl rfl rfl (by rw [hg4_5]; rfl)) ?_
      refine wl_v (x_pickT (tmB rfl rfl) hg4_5 ev_c) ?_
      refine wl_v (x_move (tmB rfl rfl)) ?_
      refine wl_s rfl (want_n rfl rfl rfl rfl rfl) ?_
      refine wl_s rfl (want_n rfl rfl rfl rfl rfl) ?_
      refine wl_s rfl (want_n rfl rfl rfl rfl rfl) ?_
      refine wl_s rfl (want_n rfl rfl rfl rfl rfl) ?_
      refine wl_s rfl (want_n rfl rfl rfl rfl rfl) ?_
      refine wl_v (x_pickT (tmB rfl rfl) rfl ev_c) ?_
      refine wl_nil ?_
      refine then_n (hK8 _ _ ?_); clear hK8 K8
      refine cnd_t (tmB rfl rfl) rfl ?_
      refine wp_seq_k ?_; intro K9 hK9
      refine wlit ?_
      refine wl_v (x_build (bc_skipL [.bool false, .int .u64 0, .int .u64 0] <| bc_skipL [.bool false, .int .u64 0, .int .u64 0] <| bc_skip (.int .u16 0) <| bc_skip (.int .u16 0) <| bc_skip (.int .u8 0) <| bc_nil) (by kernel_rfl)) ?_
      refine wl_e rfl ?_; intro K hK
      refine ow_storeA hS 0 rfl ts_29 (tmP rfl rfl) (tmA rfl rfl) rfl rfl rfl ?_
      clear hS; intro w hS
      try replace hS := St.nm (M' := [.blk _ _ [_, _, _, _, _, _, _, _, _], .vw _ _]) hS rfl
      refine hK _ _ ?_; clear hK K
      refine wl_v (x_assign ev_c) ?_
      refine wl_v (x_assign ev_c) ?_
      refine wl_nil ?_
      refine then_n (hK9 _ _ ?_); clear hK9 K9
      refine wp_ret ?_
      refine then_r ?_
      refine ret3 rfl (.cell rfl rfl (load_rowB (cs := [_, _, _, _, _, _, _, _, _]) hS.ok 0 rfl Try.underlying29 rfl ts_29 rfl)) (.tmp rfl (show _ = Value.slice _ _ _ from rfl)) (.tmp rfl (show _ = Value.bool _ from rfl)) ?_
      exact ⟨rfl, hS.kp⟩
   have hg4_5' := hg4_5; (try simp only [nrm] at hg4_5')
   all_goals
    refine wl_gv (want_y rfl rfl rfl rfl (by rw [hg4_5]; rfl)) (x_move (tmI rfl rfl)) ?_
    refine wl_gv (want_y rfl rfl rfl rfl (by rw [hg4_5]; rfl)) (x_lss (tmI rfl rfl) (ev_cN 20)) ?_
    refine wl_v (x_pickF (tmB rfl rfl) hg4_5 (tmB rfl rfl)) ?_
    refine wl_v (x_move (tmB rfl rfl)) ?_
    refine gs_wl (tm (t := 27) rfl) (fun hg4_9 => ?_) (fun hg4_9 => ?_)
    · have hg4_9' := hg4_9; (try simp only [nrm] at hg4_9')
      all_goals
       refine wl_s rfl (want_n rfl rfl rfl rfl (by rw [hg4_9]; rfl)) ?_
       refine wl_s rfl (want_n rfl rfl rfl rfl (by rw [hg4_9]; rfl)) ?_
       refine wl_s rfl (want_n rfl rfl rfl rfl (by rw [hg4_9]; rfl)) ?_
       refine wl_s rfl (want_n rfl rfl rfl rfl (by rw [hg4_9]; rfl)) ?_
       refine wl_s rfl (want_n rfl rfl rfl rfl (by rw [hg4_9]; rfl)) ?_
       refine wl_v (x_pickT (tmB rfl rfl) hg4_9 ev_c) ?_
       refine wl_nil ?_
       refine then_n (hK8 _ _ ?_); clear hK8 K8
       refine cnd_t (tmB rfl rfl) rfl ?_
       refine wp_seq_k ?_; intro K11 hK11
       refine wlit ?_
       refine wl_v (x_build (bc_skipL [.bool false, .int .u64 0, .int .u64 0] <| bc_skipL [.bool false, .int .u64 0, .int .u64 0] <| bc_skip (.int .u16 0) <| bc_skip (.int .u16 0) <| bc_skip (.int .u8 0) <| bc_nil) (by kernel_rfl)) ?_
       refine wl_e rfl ?_; intro K hK
       refine ow_storeA hS 0 rfl ts_29 (tmP rfl rfl) (tmA rfl rfl) rfl rfl rfl ?_
       clear hS; intro w hS
       try replace hS := St.nm (M' := [.blk _ _ [_, _, _, _, _, _, _, _, _], .vw _ _]) hS rfl
       refine hK _ _ ?_; clear hK K
       refine wl_v (x_assign ev_c) ?_
       refine wl_v (x_assign ev_c) ?_
       refine wl_nil ?_
       refine then_n (hK11 _ _ ?_); clear hK11 K11
       refine wp_ret ?_
       refine then_r ?_
       refine ret3 rfl (.cell rfl rfl (load_rowB (cs := [_, _, _, _, _, _, _, _, _]) hS.ok 0 rfl Try.underlying29 rfl ts_29 rfl)) (.tmp rfl (show _ = Value.slice _ _ _ from rfl)) (.tmp rfl (show _ = Value.bool _ from rfl)) ?_
       exact ⟨rfl, hS.kp⟩
    have hg4_9' := hg4_9; (try simp only [nrm] at hg4_9')
    all_goals
     refine wl_gv (want_y rfl rfl rfl rfl (by rw [hg4_9]; rfl)) (x_move (tmS rfl rfl)) ?_
     refine wl_gv (want_y rfl rfl rfl rfl (by rw [hg4_9]; rfl)) (x_len Try.underlying22 (tmS rfl rfl)) ?_
     refine wl_gv (want_y rfl rfl rfl rfl (by rw [hg4_9]; rfl)) (x_move (tmI rfl rfl)) ?_
     refine wl_gv (want_y rfl rfl rfl rfl (by rw [hg4_9]; rfl)) (x_addN (tmI rfl rfl) (ev_cN 8) (fit_i64 (by omega))) ?_
     refine wl_gv (want_y rfl rfl rfl rfl (by rw [hg4_9]; rfl)) (x_lss (tmI rfl rfl) (tmI rfl rfl)) ?_
     refine wl_v (x_pickF (tmB rfl rfl) hg4_9 (tmB rfl rfl)) ?_
     refine wl_nil ?_
     refine then_n (hK8 _ _ ?_); clear hK8 K8
     refine cnd (tm rfl) (fun hc1 => ?_) (fun hc1 => ?_)
     · skip
       all_goals
        try simp only [nrm] at hc1
        refine wp_seq_k ?_; intro K13 hK13
        refine wlit ?_
        refine wl_v (x_build (bc_skipL [.bool false, .int .u64 0, .int .u64 0] <| bc_skipL [.bool false, .int .u64 0, .int .u64 0] <| bc_skip (.int .u16 0) <| bc_skip (.int .u16 0) <| bc_skip (.int .u8 0) <| bc_nil) (by kernel_rfl)) ?_
        refine wl_e rfl ?_; intro K hK
        refine ow_storeA hS 0 rfl ts_29 (tmP rfl rfl) (tmA rfl rfl) rfl rfl rfl ?_
        clear hS; intro w hS
        try replace hS := St.nm (M' := [.blk _ _ [_, _, _, _, _, _, _, _, _], .vw _ _]) hS rfl
        refine hK _ _ ?_; clear hK K
        refine wl_v (x_assign ev_c) ?_
        refine wl_v (x_assign ev_c) ?_
        refine wl_nil ?_
        refine then_n (hK13 _ _ ?_); clear hK13 K13
        refine wp_ret ?_
        refine then_r ?_
        refine ret3 rfl (.cell rfl rfl (load_rowB (cs := [_, _, _, _, _, _, _, _, _]) hS.ok 0 rfl Try.underlying29 rfl ts_29 rfl)) (.tmp rfl (show _ = Value.slice _ _ _ from rfl)) (.tmp rfl (show _ = Value.bool _ from rfl)) ?_
        exact ⟨rfl, hS.kp⟩
     all_goals
      try simp only [nrm] at hc1
      refine wp_skip ?_
      refine then_n (hK7 _ _ ?_); clear hK7 K7
      refine wp_seq_k ?_; intro K15 hK15
      refine wlit ?_
      refine wl_v (x_move (tmS rfl rfl)) ?_
      refine wl_e rfl ?_; intro K hK
      refine ow_call Try.func14 rfl rfl (evs_cons (tmS rfl rfl) <| evs_nil) (read_c n _ c l _ (viewV hS.ok 1 rfl) hl hn4) ?_
      rintro e w ⟨gr, A0, rfl, hS2⟩
      refine ⟨_, rfl, ?_⟩
      replace hS := hS.adds hS2 rfl -- +gr,rowb
      clear hS2
      have hA : Off A0 0 n A0 := off_zero
      have hcp : n - 0 ≤ n := by omega
      refine hK _ _ ?_; clear hK K
      refine wl_v (x_assign (tmP rfl rfl)) ?_
      refine wl_nil ?_
      refine then_n (hK15 _ _ ?_); clear hK15 K15
      refine wp_seq_k ?_; intro K16 hK16
      refine wlit ?_
      refine wl_v (x_move (tmP rfl rfl)) ?_
      refine wl_e rfl ?_; intro K hK
      refine ow_call Try.func29 rfl rfl (evs_cons (tmP rfl rfl) <| evs_cons (ev_cN 6) <| evs_nil) (bytes_c gr A0 A0 0 6 n _ l false _ _ (hS.enter [0] [1] rfl rfl) hA (by omega) hcp) ?_
      rintro e w ⟨A1, c1, rfl, hS2, hA, hcp⟩
      refine ⟨_, rfl, ?_⟩
      replace hS := hS.turn 0 rfl rfl hS2 rfl
      clear hS2
      try replace hS := St.nm (M' := [_, .row _ _ _ _ _, .blk _ _ [_, _, _, _, _, _, _, _, _], .vw _ _]) hS rfl
      refine hK _ _ ?_; clear hK K
      refine wl_nil ?_
      refine then_n (hK16 _ _ ?_); clear hK16 K16
      refine wp_seq_k ?_; intro K17 hK17
      refine wp_seq_k ?_; intro K18 hK18
      refine wlit ?_
      refine wl_v (x_move (tmP rfl rfl)) ?_
      refine wl_e rfl ?_; intro K hK
      refine ow_call Try.func15 rfl rfl (evs_cons (tmP rfl rfl) <| evs_nil) (word_c gr A0 _ _ n _ l false _ _ (hS.enter [0] [1] rfl rfl) hA (by omega) hcp hl hb) ?_
      rintro e w ⟨A1, c1, rfl, hS2, hA, hcp⟩
      refine ⟨_, rfl, ?_⟩
      replace hS := hS.turn 0 rfl rfl hS2 rfl
      clear hS2
      try replace hS := St.nm (M' := [_, .row _ _ _ _ _, .blk _ _ [_, _, _, _, _, _, _, _, _], .vw _ _]) hS rfl
      refine hK _ _ ?_; clear hK K
      refine wl_v (x_andN (tmI rfl rfl) (ev_cN 16383) (fit_u16 (by omega)) (fit_u16 (by omega))) ?_
      refine wl_v (x_neq (tmI rfl rfl) (ev_cN 0)) ?_
      refine wl_nil ?_
      refine then_n (hK18 _ _ ?_); clear hK18 K18
      refine cnds (tm rfl) (fun hc2 => ?_) (fun hc2 => ?_)
      · exfalso
        first | omega | (simp at hc2; omega) | (simp only [nrm] at hc2; omega)
      all_goals
       try simp only [nrm] at hc2
       refine wp_seq_k ?_; intro K19 hK19
       refine wlit ?_
       refine wl_v (x_build (bc_skipL [.bool false, .int .u64 0, .int .u64 0] <| bc_skipL [.bool false, .int .u64 0, .int .u64 0] <| bc_skip (.int .u16 0) <| bc_skip (.int .u16 0) <| bc_skip (.int .u8 0) <| bc_nil) (by kernel_rfl)) ?_
       refine wl_e rfl ?_; intro K hK
       refine ow_storeA hS 2 rfl ts_29 (tmP rfl rfl) (tmA rfl rfl) rfl rfl rfl ?_
       clear hS; intro w hS
       try replace hS := St.nm (M' := [_, .row _ _ _ _ _, .blk _ _ [_, _, _, _, _, _, _, _, _], .vw _ _]) hS rfl
       refine hK _ _ ?_; clear hK K
       refine wl_v (x_assign ev_c) ?_
       refine wl_v (x_assign ev_c) ?_
       refine wl_nil ?_
       refine then_n (hK19 _ _ ?_); clear hK19 K19
       refine wp_ret ?_
       refine then_r ?_
       refine ret3 rfl (.cell rfl rfl (load_rowB (cs := [_, _, _, _, _, _, _, _, _]) hS.ok 2 rfl Try.underlying29 rfl ts_29 rfl)) (.tmp rfl (show _ = Value.slice _ _ _ from rfl)) (.tmp rfl (show _ = Value.bool _ from rfl)) ?_
       exact ⟨rfl, hS.kp⟩
set_option maxRecDepth 100000 in
set_option maxHeartbeats 8000000 in
theorem header6_c (l : List Nat) (hb : Bytes l) (hn : l.length ≤ 3000) (h : Hd6 l) : HdS 13 l (src6 l) (dst6 l) (nth l 6) 40 := fun w0 A c hv hc => by
  obtain ⟨n, hl⟩ : ∃ n, l.length = n := ⟨_, rfl⟩
  obtain ⟨h48, hver⟩ := h
  have hn4 : n ≤ 1000000 := by omega
  rw [hl] at hc h48 ⊢
  have hS := (St.sv w0).vcons rfl hv
  obtain ⟨b4, o4, rfl⟩ := view_some hv (by rw [List.length_map]; omega)
  have hqb : l.getD 0 0 < 256 := nth_lt hb 0
  have q0 : l.getD 0 0 = nth l 0 := rfl
  have e6 : getN l 6 1 = nth l 6 := getN_one (by omega)
  refine ent (n := 44) Try.func13 rfl rfl ?_
  refine wp_seq_k ?_; intro K1 hK1
  refine wlit ?_
  refine wl_e rfl ?_; intro K hK
  refine ow_alloc hS tz_29 rfl ?_
  clear hS; intro g0_0 w hg0_0 hS
  refine hK _ _ ?_; clear hK K
  refine wl_v (x_assign ev_c) ?_
  refine wl_v (x_assign ev_c) ?_
  refine wl_nil ?_
  refine then_n (hK1 _ _ ?_); clear hK1 K1
  refine wp_seq_k ?_; intro K2 hK2
  refine wp_seq_k ?_; intro K3 hK3
  refine wlit ?_
  refine wl_v (x_move (tmS rfl rfl)) ?_
  refine wl_v (x_len Try.underlying22 (tmS rfl rfl)) ?_
  refine wl_v (x_lss (tmI rfl rfl) (ev_cN 48)) ?_
  refine wl_v (x_move (tmB rfl rfl)) ?_
  refine gs_wl (tm (t := 10) rfl) (fun hg1_3 => ?_) (fun hg1_3 => ?_)
  · exfalso
    simp only [nrm] at hg1_3
    omega
  have hg1_3' := hg1_3; (try simp only [nrm] at hg1_3')
  all_goals
   refine wl_gv (want_y rfl rfl rfl rfl (by rw [hg1_3]; rfl)) (x_move (tmS rfl rfl)) ?_
   refine wl_gv (want_y rfl rfl rfl rfl (by rw [hg1_3]; rfl)) (x_ixs1 Try.underlying22 ts_5 (tmS rfl rfl) (ev_cN 0) (by omega)) ?_
   refine wl_gv (want_y rfl rfl rfl rfl (by rw [hg1_3]; rfl)) (x_load Try.underlying5 rfl (tmP rfl rfl) (cellV hS.ok 1 rfl (getm (by omega)))) ?_
   refine wl_gv (want_y rfl rfl rfl rfl (by rw [hg1_3]; rfl)) (x_shrN (tmI rfl rfl) (ev_cN 4) (fit_u8 (by omega))) ?_
   refine wl_gv (want_y rfl rfl rfl rfl (by rw [hg1_3]; rfl)) (x_neq (tmI rfl rfl) (ev_cN 6)) ?_
   refine wl_v (x_pickF (tmB rfl rfl) hg1_3 (tmB rfl rfl)) ?_
   refine wl_nil ?_
   refine then_n (hK3 _ _ ?_); clear hK3 K3
   refine cnd (tm rfl) (fun hc0 => ?_) (fun hc0 => ?_)
   · exfalso
     simp only [nrm] at hc0
     omega
   all_goals
    try simp only [nrm] at hc0
    refine wp_skip ?_
    refine then_n (hK2 _ _ ?_); clear hK2 K2
    refine wp_seq_k ?_; intro K4 hK4
    refine wlit ?_
    refine wl_v (x_move (tmS rfl rfl)) ?_
    refine wl_e rfl ?_; intro K hK
    refine ow_call Try.func14 rfl rfl (evs_cons (tmS rfl rfl) <| evs_nil) (read_c n _ c l _ (viewV hS.ok 1 rfl) hl hn4) ?_
    rintro e w ⟨gr, A0, rfl, hS2⟩
    refine ⟨_, rfl, ?_⟩
    replace hS := hS.adds hS2 rfl -- +gr,rowb
    clear hS2
    have hA : Off A0 0 n A0 := off_zero
    have hcp : n - 0 ≤ n := by omega
    refine hK _ _ ?_; clear hK K
    refine wl_v (x_assign (tmP rfl rfl)) ?_
    refine wl_nil ?_
    refine then_n (hK4 _ _ ?_); clear hK4 K4
    refine wp_seq_k ?_; intro K5 hK5
    refine wlit ?_
    refine wl_v (x_move (tmP rfl rfl)) ?_
    refine wl_e rfl ?_; intro K hK
    refine ow_call Try.func29 rfl rfl (evs_cons (tmP rfl rfl) <| evs_cons (ev_cN 6) <| evs_nil) (bytes_c gr A0 A0 0 6 n _ l false _ _ (hS.enter [0] [1] rfl rfl) hA (by omega) hcp) ?_
    rintro e w ⟨A1, c1, rfl, hS2, hA, hcp⟩
    refine ⟨_, rfl, ?_⟩
    replace hS := hS.turn 0 rfl rfl hS2 rfl
    clear hS2
    try replace hS := St.nm (M' := [_, .row _ _ _ _ _, .blk _ _ [_, _, _, _, _, _, _, _, _], .vw _ _]) hS rfl
    refine hK _ _ ?_; clear hK K
    refine wl_nil ?_
    refine then_n (hK5 _ _ ?_); clear hK5 K5
    refine wp_seq_k ?_; intro K6 hK6
    refine wlit ?_
    refine wl_v (x_move (tmP rfl rfl)) ?_
    refine wl_e rfl ?_; intro K hK
    refine ow_call Try.func30 rfl rfl (evs_cons (tmP rfl rfl) <| evs_nil) (byte_c gr A0 _ _ n _ l false _ _ (hS.enter [0] [1] rfl rfl) hA (by omega) hcp hl hb) ?_
    rintro e w ⟨A1, c1, rfl, hS2, hA, hcp⟩
    refine ⟨_, rfl, ?_⟩
    replace hS := hS.turn 0 rfl rfl hS2 rfl
    clear hS2
    try replace hS := St.nm (M' := [_, .row _ _ _ _ _, .blk _ _ [_, _, _, _, _, _, _, _, _], .vw _ _]) hS rfl
    refine hK _ _ ?_; clear hK K
    refine wl_v (x_build (bc_skipL [.bool false, .int .u64 0, .int .u64 0] <| bc_skipL [.bool false, .int .u64 0, .int .u64 0] <| bc_skip (.int .u16 0) <| bc_skip (.int .u16 0) <| bc_take (tmI rfl rfl) <| bc_nil) (by kernel_rfl)) ?_
    refine wl_e rfl ?_; intro K hK
    refine ow_alloc hS tz_29 rfl ?_
    clear hS; intro g5_3 w hg5_3 hS
    refine hK _ _ ?_; clear hK K
    refine wl_e rfl ?_; intro K hK
    refine ow_storeA hS 0 rfl ts_29 (tmP rfl rfl) (tmA rfl rfl) rfl rfl rfl ?_
    clear hS; intro w hS
    try replace hS := St.nm (M' := [.blk _ _ [_, _, _, _, _, _, _, _, _], _, .row _ _ _ _ _, .blk _ _ [_, _, _, _, _, _, _, _, _], .vw _ _]) hS rfl
    refine hK _ _ ?_; clear hK K
    refine wl_nil ?_
    refine then_n (hK6 _ _ ?_); clear hK6 K6
    refine wp_seq_k ?_; intro K7 hK7
    refine wlit ?_
    refine wl_v (x_move (tmP rfl rfl)) ?_
    refine wl_e rfl ?_; intro K hK
    refine ow_call Try.func30 rfl rfl (evs_cons (tmP rfl rfl) <| evs_nil) (byte_c gr A0 _ _ n _ l false _ _ (hS.enter [1] [2] rfl rfl) hA (by omega) hcp hl hb) ?_
    rintro e w ⟨A1, c1, rfl, hS2, hA, hcp⟩
    refine ⟨_, rfl, ?_⟩
    replace hS := hS.turn 1 rfl rfl hS2 rfl
    clear hS2
    try replace hS := St.nm (M' := [.blk _ _ [_, _, _, _, _, _, _, _, _], _, .row _ _ _ _ _, .blk _ _ [_, _, _, _, _, _, _, _, _], .vw _ _]) hS rfl
    refine hK _ _ ?_; clear hK K
    refine wl_nil ?_
    refine then_n (hK7 _ _ ?_); clear hK7 K7
    refine wp_seq_k ?_; intro K8 hK8
    refine wlit ?_
    refine wl_v (x_move (tmP rfl rfl)) ?_
    refine wl_e rfl ?_; intro K hK
    refine ow_call Try.func29 rfl rfl (evs_cons (tmP rfl rfl) <| evs_cons (ev_cN 16) <| evs_nil) (bytes_c gr A0 A1 _ 16 n _ l false _ _ (hS.enter [1] [2] rfl rfl) hA (by omega) hcp) ?_
    rintro e w ⟨A2, c2, rfl, hS2, hA2, hcp2⟩
    refine ⟨_, rfl, ?_⟩
    replace hS := hS.turn 1 rfl rfl hS2 rfl
    clear hS2
    try replace hS := St.nm (M' := [.blk _ _ [_, _, _, _, _, _, _, _, _], _, .row _ _ _ _ _, .blk _ _ [_, _, _, _, _, _, _, _, _], .vw _ _]) hS rfl
    refine hK _ _ ?_; clear hK K
    refine wl_e rfl ?_; intro K hK
    refine ow_call Try.func31 rfl rfl (evs_cons (tmS rfl rfl) <| evs_nil) (ad_of16_c A1 _ _ _ (by have h := (NewV.offb (hS.newv 2 rfl) hl hA 16).1; exact h) (by rw [List.length_take, List.length_drop]; omega) ((hb.drop _).take 16)) ?_
    rintro e w ⟨rfl, hk⟩
    refine ⟨_, rfl, ?_⟩
    replace hS := hS.kept hk
    clear hk
    refine hK _ _ ?_; clear hK K
    refine wl_v (x_move (tmT rfl rfl)) ?_
    refine wl_v (x_ext (tmT rfl rfl) rfl) ?_
    refine wl_v (x_ext (tmT rfl rfl) rfl) ?_
    refine wl_v (x_fa 0 Try.underlying29 rfl rfl ts_26 (tmP rfl rfl)) ?_
    refine wl_e rfl ?_; intro K hK
    refine ow_storeA hS 0 rfl ts_26 (tmP rfl rfl) (tmA rfl rfl) rfl rfl rfl ?_
    clear hS; intro w hS
    try replace hS := St.nm (M' := [.blk _ _ [_, _, _, _, _, _, _, _, _], _, .row _ _ _ _ _, .blk _ _ [_, _, _, _, _, _, _, _, _], .vw _ _]) hS rfl
    refine hK _ _ ?_; clear hK K
    refine wl_nil ?_
    refine then_n (hK8 _ _ ?_); clear hK8 K8
    refine wp_seq_k ?_; intro K9 hK9
    refine wlit ?_
    refine wl_v (x_move (tmP rfl rfl)) ?_
    refine wl_e rfl ?_; intro K hK
    refine ow_call Try.func29 rfl rfl (evs_cons (tmP rfl rfl) <| evs_cons (ev_cN 16) <| evs_nil) (bytes_c gr A0 A2 _ 16 n _ l false _ _ (hS.enter [1] [2] rfl rfl) hA2 (by omega) hcp2) ?_
    rintro e w ⟨A3, c3, rfl, hS2, hA3, hcp3⟩
    refine ⟨_, rfl, ?_⟩
    replace hS := hS.turn 1 rfl rfl hS2 rfl
    clear hS2
    try replace hS := St.nm (M' := [.blk _ _ [_, _, _, _, _, _, _, _, _], _, .row _ _ _ _ _, .blk _ _ [_, _, _, _, _, _, _, _, _], .vw _ _]) hS rfl
    refine hK _ _ ?_; clear hK K
    refine wl_e rfl ?_; intro K hK
    refine ow_call Try.func31 rfl rfl (evs_cons (tmS rfl rfl) <| evs_nil) (ad_of16_c A2 _ _ _ (by have h := (NewV.offb (hS.newv 2 rfl) hl hA2 16).1; exact h) (by rw [List.length_take, List.length_drop]; omega) ((hb.drop _).take 16)) ?_
    rintro e w ⟨rfl, hk⟩
    refine ⟨_, rfl, ?_⟩
    replace hS := hS.kept hk
    clear hk
    refine hK _ _ ?_; clear hK K
    refine wl_v (x_move (tmT rfl rfl)) ?_
    refine wl_v (x_ext (tmT rfl rfl) rfl) ?_
    refine wl_v (x_ext (tmT rfl rfl) rfl) ?_
    refine wl_v (x_fa 3 Try.underlying29 rfl rfl ts_26 (tmP rfl rfl)) ?_
    refine wl_e rfl ?_; intro K hK
    refine ow_storeA hS 0 rfl ts_26 (tmP rfl rfl) (tmA rfl rfl) rfl rfl rfl ?_
    clear hS; intro w hS
    try replace hS := St.nm (M' := [.blk _ _ [_, _, _, _, _, _, _, _, _], _, .row _ _ _ _ _, .blk _ _ [_, _, _, _, _, _, _, _, _], .vw _ _]) hS rfl
    refine hK _ _ ?_; clear hK K
    refine wl_nil ?_
    refine then_n (hK9 _ _ ?_); clear hK9 K9
    refine wp_seq_k ?_; intro K10 hK10
    replace hS := hS.pick [3, 0, 1, 2] rfl rfl
    try replace hS := St.nm (M' := [.blk _ _ [_, _, _, _, _, _, _, _, _], .blk _ _ [_, _, _, _, _, _, _, _, _], _, .row _ _ _ _ _]) hS rfl
    refine rg_startk 1 hS mixed_ ?_
    clear hS; intro w hS
    refine rg_take 0 rfl rfl (by kernel_rfl) (by kernel_rfl) (by kernel_rfl) (want_0) (fun w hok => x_loadA (cs := [_, _, _, _, _, _, _, _, _]) Try.underlying29 rfl ts_29 (tmP rfl rfl) (rangeB hok 0 rfl rfl)) ?_
    refine rg_take 1 rfl rfl (by kernel_rfl) (by kernel_rfl) (by kernel_rfl) (want_0) (fun w hok => x_move (tmS rfl rfl)) ?_
    refine rg_take 2 rfl rfl (by kernel_rfl) (by kernel_rfl) (by kernel_rfl) (want_0) (fun w hok => x_sliceL Try.underlying22 ts_5 (tmS rfl rfl) (ev_cN 40) (by omega)) ?_
    refine rg_step 3 rfl (by kernel_rfl) (want_0) (oks_drop hS 1 rfl) ?_; intro K hK
    refine ow_storeA hS 0 rfl ts_29 (tmP rfl rfl) (tmA rfl rfl) rfl rfl rfl ?_
    clear hS; intro w hS
    try replace hS := St.nm (M' := [.blk _ _ [_, _, _, _, _, _, _, _, _], .blk _ _ [_, _, _, _, _, _, _, _, _], _, .row _ _ _ _ _]) hS rfl
    refine hK _ _ ?_; clear hK K
    refine rg_take 4 rfl rfl (by kernel_rfl) (by kernel_rfl) (by kernel_rfl) (want_0) (fun w hok => x_assign (tmS rfl rfl)) ?_
    refine rg_take 5 rfl rfl (by kernel_rfl) (by kernel_rfl) (by kernel_rfl) (want_0) (fun w hok => x_assign ev_c) ?_
    refine rg_done (oks_drop hS 1 rfl) (by kernel_rfl) ?_
    refine then_n (hK10 _ _ ?_); clear hK10 K10
    refine wp_ret ?_
    refine ret3 rfl (.cell rfl rfl (load_rowB (cs := [_, _, _, _, _, _, _, _, _]) hS.ok 0 rfl Try.underlying29 rfl ts_29 rfl)) (.tmp rfl (show _ = Value.slice _ _ _ from rfl)) (.tmp rfl (show _ = Value.bool _ from rfl)) ?_
    refine ⟨?_, hS.kp⟩
    rw [← e6]
    have x1 : getN ((l.drop (0 + 6 + 1 + 1)).take 16) 0 8 = getN l 8 8 := by unfold getN; rw [List.drop_zero, List.take_take]; rfl
    have x2 : getN ((l.drop (0 + 6 + 1 + 1)).take 16) 8 8 = getN l 16 8 := by unfold getN; rw [List.drop_take, List.drop_drop, List.take_take]; rfl
    have x3 : getN ((l.drop (0 + 6 + 1 + 1 + 16)).take 16) 0 8 = getN l 24 8 := by unfold getN; rw [List.drop_zero, List.take_take]; rfl
    have x4 : getN ((l.drop (0 + 6 + 1 + 1 + 16)).take 16) 8 8 = getN l 32 8 := by unfold getN; rw [List.drop_take, List.drop_drop, List.take_take]; rfl
    rw [x1, x2, x3, x4]
    rfl
set_option maxRecDepth 100000 in
set_option maxHeartbeats 8000000 in
theorem header6_bad (l : List Nat) (hb : Bytes l) (hn : l.length ≤ 3000) (h : ¬ Hd6 l) : HdN 13 l := fun w0 A c hv hc => by
  obtain ⟨n, hl⟩ : ∃ n, l.length = n := ⟨_, rfl⟩
  have hqb : l.getD 0 0 < 256 := nth_lt hb 0
  have h0 : ¬ (48 ≤ n ∧ l.getD 0 0 / 16 = 6) := fun ⟨x1, x2⟩ => h ⟨by omega, x2⟩
  rw [hl] at hc ⊢
  have hS := (St.sv w0).vcons rfl hv
  refine ent (n := 44) Try.func13 rfl rfl ?_
  refine wp_seq_k ?_; intro K1 hK1
  refine wlit ?_
  refine wl_e rfl ?_; intro K hK
  refine ow_alloc hS tz_29 rfl ?_
  clear hS; intro g0_0 w hg0_0 hS
  refine hK _ _ ?_; clear hK K
  refine wl_v (x_assign ev_c) ?_
  refine wl_v (x_assign ev_c) ?_
  refine wl_nil ?_
  refine then_n (hK1 _ _ ?_); clear hK1 K1
  refine wp_seq_k ?_; intro K2 hK2
  refine wp_seq_k ?_; intro K3 hK3
  refine wlit ?_
  refine wl_v (x_move (tmS rfl rfl)) ?_
  refine wl_v (x_len Try.underlying22 (tmS rfl rfl)) ?_
  refine wl_v (x_lss (tmI rfl rfl) (ev_cN 48)) ?_
  refine wl_v (x_move (tmB rfl rfl)) ?_
  refine gs_wl (tm (t := 10) rfl) (fun hg1_3 => ?_) (fun hg1_3 => ?_)
  · have hg1_3' := hg1_3; (try simp only [nrm] at hg1_3')
    all_goals
     refine wl_s rfl (want_n rfl rfl rfl rfl (by rw [hg1_3]; rfl)) ?_
     refine wl_s rfl (want_n rfl rfl rfl rfl (by rw [hg1_3]; rfl)) ?_
     refine wl_s rfl (want_n rfl rfl rfl rfl (by rw [hg1_3]; rfl)) ?_
     refine wl_s rfl (want_n rfl rfl rfl rfl (by rw [hg1_3]; rfl)) ?_
     refine wl_s rfl (want_n rfl rfl rfl rfl (by rw [hg1_3]; rfl)) ?_
     refine wl_v (x_pickT (tmB rfl rfl) hg1_3 ev_c) ?_
     refine wl_nil ?_
     refine then_n (hK3 _ _ ?_); clear hK3 K3
     refine cnd_t (tmB rfl rfl) rfl ?_
     refine wp_seq_k ?_; intro K4 hK4
     refine wlit ?_
     refine wl_v (x_build (bc_skipL [.bool false, .int .u64 0, .int .u64 0] <| bc_skipL [.bool false, .int .u64 0, .int .u64 0] <| bc_skip (.int .u16 0) <| bc_skip (.int .u16 0) <| bc_skip (.int .u8 0) <| bc_nil) (by kernel_rfl)) ?_
     refine wl_e rfl ?_; intro K hK
     refine ow_storeA hS 0 rfl ts_29 (tmP rfl rfl) (tmA rfl rfl) rfl rfl rfl ?_
     clear hS; intro w hS
     try replace hS := St.nm (M' := [.blk _ _ [_, _, _, _, _, _, _, _, _], .vw _ _]) hS rfl
     refine hK _ _ ?_; clear hK K
     refine wl_v (x_assign ev_c) ?_
     refine wl_v (x_assign ev_c) ?_
     refine wl_nil ?_
     refine then_n (hK4 _ _ ?_); clear hK4 K4
     refine wp_ret ?_
     refine then_r ?_
     refine ret3 rfl (.cell rfl rfl (load_rowB (cs := [_, _, _, _, _, _, _, _, _]) hS.ok 0 rfl Try.underlying29 rfl ts_29 rfl)) (.tmp rfl (show _ = Value.slice _ _ _ from rfl)) (.tmp rfl (show _ = Value.bool _ from rfl)) ?_
     exact ⟨rfl, hS.kp⟩
  have hg1_3' := hg1_3; (try simp only [nrm] at hg1_3')
  all_goals
   obtain ⟨b4, o4, rfl⟩ := view_some hv (by rw [List.length_map]; first | omega | (simp at hg1_3; omega))
   refine wl_gv (want_y rfl rfl rfl rfl (by rw [hg1_3]; rfl)) (x_move (tmS rfl rfl)) ?_
   refine wl_gv (want_y rfl rfl rfl rfl (by rw [hg1_3]; rfl)) (x_ixs1 Try.underlying22 ts_5 (tmS rfl rfl) (ev_cN 0) (by omega)) ?_
   refine wl_gv (want_y rfl rfl rfl rfl (by rw [hg1_3]; rfl)) (x_load Try.underlying5 rfl (tmP rfl rfl) (cellV hS.ok 1 rfl (getm (by omega)))) ?_
   refine wl_gv (want_y rfl rfl rfl rfl (by rw [hg1_3]; rfl)) (x_shrN (tmI rfl rfl) (ev_cN 4) (fit_u8 (by omega))) ?_
   refine wl_gv (want_y rfl rfl rfl rfl (by rw [hg1_3]; rfl)) (x_neq (tmI rfl rfl) (ev_cN 6)) ?_
   refine wl_v (x_pickF (tmB rfl rfl) hg1_3 (tmB rfl rfl)) ?_
   refine wl_nil ?_
   refine then_n (hK3 _ _ ?_); clear hK3 K3
   refine cnds (tm rfl) (fun hc0 => ?_) (fun hc0 => ?_)
   · exfalso
     first | omega | (simp at hc0; omega) | (simp only [nrm] at hc0; omega)
   all_goals
    try simp only [nrm] at hc0
    refine wp_seq_k ?_; intro K6 hK6
    refine wlit ?_
    refine wl_v (x_build (bc_skipL [.bool false, .int .u64 0, .int .u64 0] <| bc_skipL [.bool false, .int .u64 0, .int .u64 0] <| bc_skip (.int .u16 0) <| bc_skip (.int .u16 0) <| bc_skip (.int .u8 0) <| bc_nil) (by kernel_rfl)) ?_
    refine wl_e rfl ?_; intro K hK
    refine ow_storeA hS 0 rfl ts_29 (tmP rfl rfl) (tmA rfl rfl) rfl rfl rfl ?_
    clear hS; intro w hS
    try replace hS := St.nm (M' := [.blk _ _ [_, _, _, _, _, _, _, _, _], .vw _ _]) hS rfl
    refine hK _ _ ?_; clear hK K
    refine wl_v (x_assign ev_c) ?_
    refine wl_v (x_assign ev_c) ?_
    refine wl_nil ?_
    refine then_n (hK6 _ _ ?_); clear hK6 K6
    refine wp_ret ?_
    refine then_r ?_
    refine ret3 rfl (.cell rfl rfl (load_rowB (cs := [_, _, _, _, _, _, _, _, _]) hS.ok 0 rfl Try.underlying29 rfl ts_29 rfl)) (.tmp rfl (show _ = Value.slice _ _ _ from rfl)) (.tmp rfl (show _ = Value.bool _ from rfl)) ?_
    exact ⟨rfl, hS.kp⟩
end Go.Proofs.Ytcobjneobdihkaa
