import Derived.Test.YtcobjneobdihkaaSteerWholeZD
/- The references' Parse of both families once more, with the room behind what they answer. Conditions: none but bounds. -/
namespace Go.Proofs.Ytcobjneobdihkaa
open Go.ChangeAt Go.ChangeShapes Go.RowKit Go.WideShapes
/-- What a header that is fine says. -/
def Xpl (six : Bool) (l : List Nat) (s d : Ad) (pr : Nat) (x : List Nat) : Prop := (six = false ∧ ∃ sz len, Ip4Form l l.length sz len ∧ len ≤ l.length ∧ getN l 6 2 % 16384 = 0 ∧ s = src4 l ∧ d = dst4 l ∧ pr = nth l 9 ∧ x = (l.drop sz).take (len - sz)) ∨ (six = true ∧ nth l 0 / 16 = 6 ∧ 40 ≤ l.length ∧ s = src6 l ∧ d = dst6 l ∧ pr = nth l 6 ∧ ∃ len, x = (l.drop 40).take len)
set_option maxRecDepth 100000 in
set_option maxHeartbeats 8000000 in
theorem rip4_parse_k (n : Nat) (A : Option Addr) (c : Nat) (l : List Nat) (w0 : World) (hv : View w0 w0.heap.size A (l.map u8v)) (hl : l.length = n) (hc : n ≤ c) (hb : Bytes l) (hn4 : n ≤ 1000000)
    (sz len : Nat) (hf : Ip4Form l n sz len) (hlen : len ≤ n) (hsum : SumOk l sz) :
    Calls Try.prog 38 #[.slice A n c] w0 fun e w' => ∃ O co L cl, e = .returned (.tuple #[.agg (hdV (getN l 1 1) (len : Int) (getN l 4 2) (decide (getN l 6 2 / 2 ^ 14 % 2 = 1)) (decide (getN l 6 2 / 2 ^ 13 % 2 = 1)) ((getN l 6 2 % 8192 : Nat) : Int) (getN l 8 1) (getN l 9 1) (getN l 10 2) ⟨false, 0, getN l 12 4⟩ ⟨false, 0, getN l 16 4⟩ O (sz - 20) co).toArray, .slice L (len - sz) cl, .int .i64 0]) ∧
      NewV w0 w' O (((l.drop 20).take (sz - 20)).map u8v) ∧ NewV w0 w' L (((l.drop sz).take (len - sz)).map u8v) ∧ len - sz ≤ cl ∧ Kp [] w0 w' := by
  obtain ⟨n20, four, size, sz20, flags, hle, szlen⟩ := hf
  have hS := (St.sv w0).vcons rfl hv
  have hq : l.getD 0 0 = nth l 0 := rfl
  have hqb := nth_lt hb 0
  have hz : l.getD 0 0 % 16 * 4 = sz := size
  have hfl := getN_lt hb 6 2
  have hle2 := getN_lt hb 2 2
  have h4_ := getN_lt hb 4 2
  have h10_ := getN_lt hb 10 2
  have h12_ := getN_lt hb 12 4
  have h16_ := getN_lt hb 16 4
  have e1 : getN l 1 1 = l.getD 1 0 := getN_one (by omega)
  have e8 : getN l 8 1 = l.getD 8 0 := getN_one (by omega)
  have e9 : getN l 9 1 = l.getD 9 0 := getN_one (by omega)
  have e14 : decide (((getN l 6 2 / 16384 % 2 : Nat) : Int) = ((1 : Nat) : Int)) = decide (getN l 6 2 / 2 ^ 14 % 2 = 1) := by
    rw [Bool.eq_iff_iff]; simp only [nrm, decide_eq_true_eq]; try omega
  have e13 : decide (((getN l 6 2 / 8192 % 2 : Nat) : Int) = ((1 : Nat) : Int)) = decide (getN l 6 2 / 2 ^ 13 % 2 = 1) := by
    rw [Bool.eq_iff_iff]; simp only [nrm, decide_eq_true_eq]; try omega
  have htl : (l.take sz).length = sz := by rw [List.length_take]; omega
  have hfb := foldN_bd (psum (l.take sz) sz)
  have hsum' : foldN (psum (l.take sz) sz) = 65535 := hsum
  obtain ⟨b4, o4, rfl⟩ := view_some hv (by rw [List.length_map]; omega)
  refine ent (n := 103) Try.func38 rfl rfl ?_
  refine wp_seq_k ?_; intro K1 hK1
  refine wlit ?_
  refine wl_e rfl ?_; intro K hK
  refine ow_alloc hS tz_102 rfl ?_
  clear hS; intro g0_0 w hg0_0 hS
  refine hK _ _ ?_; clear hK K
  refine wl_v (x_assign ev_c) ?_
  refine wl_v (x_assign (ev_cN 0)) ?_
  refine wl_nil ?_
  refine then_n (hK1 _ _ ?_); clear hK1 K1
  refine wp_seq_k ?_; intro K2 hK2
  refine wp_seq_k ?_; intro K3 hK3
  refine wlit ?_
  refine wl_v (x_move (tmS rfl rfl)) ?_
  refine wl_v (x_len Try.underlying22 (tmS rfl rfl)) ?_
  refine wl_v (x_lss (tmI rfl rfl) (ev_cN 20)) ?_
  refine wl_nil ?_
  refine then_n (hK3 _ _ ?_); clear hK3 K3
  refine cnd (tm rfl) (fun hc0 => ?_) (fun hc0 => ?_)
  · exfalso
    simp only [nrm] at hc0
    omega
  try simp only [nrm] at hc0
  refine wp_skip ?_
  refine then_n (hK2 _ _ ?_); clear hK2 K2
  refine wp_seq_k ?_; intro K4 hK4
  refine wlit ?_
  refine wl_v (x_move (tmS rfl rfl)) ?_
  refine wl_v (x_ixs1 Try.underlying22 ts_5 (tmS rfl rfl) (ev_cN 0) (by omega)) ?_
  refine wl_v (x_load Try.underlying5 rfl (tmP rfl rfl) (cellV hS.ok 1 rfl (getm (by omega)))) ?_
  refine wl_v (x_remN (tmI rfl rfl) (ev_cN 16) (by omega)) ?_
  refine wl_v (x_convN Try.underlying5 Try.underlying3 (tmI rfl rfl) (fit_i64 (by omega))) ?_
  refine wl_v (x_mulN (tmI rfl rfl) (ev_cN 4) (fit_i64 (by omega))) ?_
  refine wl_v (x_assign (tmI rfl (congrArg (fun q : Nat => Value.int .i64 (q : Int)) hz))) ?_
  refine wl_nil ?_
  refine then_n (hK4 _ _ ?_); clear hK4 K4
  refine wp_seq_k ?_; intro K5 hK5
  refine wp_seq_k ?_; intro K6 hK6
  refine wlit ?_
  refine wl_v (x_move (tmS rfl rfl)) ?_
  refine wl_v (x_ixs1 Try.underlying22 ts_5 (tmS rfl rfl) (ev_cN 0) (by omega)) ?_
  refine wl_v (x_load Try.underlying5 rfl (tmP rfl rfl) (cellV hS.ok 1 rfl (getm (by omega)))) ?_
  refine wl_v (x_quoN (tmI rfl rfl) (ev_cN 16) (by omega) (fit_u8 (by omega))) ?_
  refine wl_v (x_neq (tmI rfl rfl) (ev_cN 4)) ?_
  refine wl_v (x_move (tmB rfl rfl)) ?_
  refine gs_wl (tm (t := 23) rfl) (fun hg4_5 => ?_) (fun hg4_5 => ?_)
  · have hg4_5' := hg4_5; (try simp only [nrm] at hg4_5'); try (exfalso; first | with_reducible exact absurd hg4_5 Bool.false_ne_true | with_reducible exact absurd hg4_5.symm Bool.false_ne_true | omega | (simp at hg4_5; done))
  have hg4_5' := hg4_5; (try simp only [nrm] at hg4_5')
  refine wl_gv (want_y rfl rfl rfl rfl (by rw [hg4_5]; rfl)) (x_move (tmI rfl rfl)) ?_
  refine wl_gv (want_y rfl rfl rfl rfl (by rw [hg4_5]; rfl)) (x_lss (tmI rfl rfl) (ev_cN 20)) ?_
  refine wl_v (x_pickF (tmB rfl rfl) hg4_5 (tmB rfl rfl)) ?_
  refine wl_nil ?_
  refine then_n (hK6 _ _ ?_); clear hK6 K6
  refine cnd (tm rfl) (fun hc1 => ?_) (fun hc1 => ?_)
  · exfalso
    simp only [nrm] at hc1
    omega
  try simp only [nrm] at hc1
  refine wp_skip ?_
  refine then_n (hK5 _ _ ?_); clear hK5 K5
  refine wp_seq_k ?_; intro K9 hK9
  refine wlit ?_
  refine wl_v (x_move (tmS rfl rfl)) ?_
  refine wl_e rfl ?_; intro K hK
  refine ow_call Try.func17 rfl rfl (evs_cons (tmS rfl rfl) <| evs_cons (ev_cN 6) <| evs_cons (ev_cN 2) <| evs_nil) (get_c n _ c l _ _ _ (viewV hS.ok 1 rfl) hl hc hn4 hb (by omega) (by omega)) ?_
  rintro e w ⟨rfl, hk⟩
  refine ⟨_, rfl, ?_⟩
  replace hS := hS.kept hk
  clear hk
  refine hK _ _ ?_; clear hK K
  refine wl_v (x_assign (tmI rfl rfl)) ?_
  refine wl_nil ?_
  refine then_n (hK9 _ _ ?_); clear hK9 K9
  refine wp_seq_k ?_; intro K10 hK10
  refine cutc [7, 30, 31, 32, 33, 34, 35, 36, 37, 38, 39, 40, 41, 42, 43, 44, 45, 46, 47, 48, 49, 50, 51, 52, 53, 54, 55, 56, 57, 58, 59] (fun g w => ∃ (gq : Nat), g 7 = .pointer (some ⟨gq, 0, none⟩) ∧ St [] w0 [.blk gq 102 (hdV (l.getD 1 0) (len : Int) (getN l 4 2) (decide (getN l 6 2 / 2 ^ 14 % 2 = 1)) (decide (getN l 6 2 / 2 ^ 13 % 2 = 1)) ((getN l 6 2 % 8192 : Nat) : Int) (l.getD 8 0) (l.getD 9 0) (getN l 10 2) ⟨false, 0, 0⟩ ⟨false, 0, 0⟩ none 0 0), .blk g0_0 102 (hdV 0 0 0 false false 0 0 0 0 ⟨false, 0, 0⟩ ⟨false, 0, 0⟩ none 0 0), .vw (some ⟨b4, o4, none⟩) (l.map u8v)] w) ?_ ?_
  · skip
    refine rg_startk 0 hS mixed_ ?_
    clear hS; intro w hS
    refine rg_take 0 rfl rfl (by kernel_rfl) (by kernel_rfl) (by kernel_rfl) (want_0) (fun w hok => x_move (tmS rfl rfl)) ?_
    refine rg_take 1 rfl rfl (by kernel_rfl) (by kernel_rfl) (by kernel_rfl) (want_0) (fun w hok => x_ixs1 Try.underlying22 ts_5 (tmS rfl rfl) (ev_cN 1) (by omega)) ?_
    refine rg_take 2 rfl rfl (by kernel_rfl) (by kernel_rfl) (by kernel_rfl) (want_0) (fun w hok => x_load Try.underlying5 rfl (tmP rfl rfl) (cellV hok 1 rfl (getm (by omega)))) ?_
    refine rg_take 3 rfl rfl (by kernel_rfl) (by kernel_rfl) (by kernel_rfl) (want_0) (fun w hok => x_move (tmS rfl rfl)) ?_
    refine rg_take 6 rfl rfl (by kernel_rfl) (by kernel_rfl) (by kernel_rfl) (want_0) (fun w hok => x_move (tmS rfl rfl)) ?_
    refine rg_take 9 rfl rfl (by kernel_rfl) (by kernel_rfl) (by kernel_rfl) (want_0) (fun w hok => x_move (tmI rfl rfl)) ?_
    refine rg_take 10 rfl rfl (by kernel_rfl) (by kernel_rfl) (by kernel_rfl) (want_0) (fun w hok => x_quoN (tmI rfl rfl) (ev_cN 16384) (by omega) (fit_u64 (by omega))) ?_
    refine rg_take 11 rfl rfl (by kernel_rfl) (by kernel_rfl) (by kernel_rfl) (want_0) (fun w hok => x_remN (tmI rfl rfl) (ev_cN 2) (by omega)) ?_
    refine rg_take 12 rfl rfl (by kernel_rfl) (by kernel_rfl) (by kernel_rfl) (want_0) (fun w hok => (congrArg (fun q : Bool => Value.bool q) e14) ▸ x_eql (tmI rfl rfl) (ev_cN 1)) ?_
    refine rg_take 13 rfl rfl (by kernel_rfl) (by kernel_rfl) (by kernel_rfl) (want_0) (fun w hok => x_move (tmI rfl rfl)) ?_
    refine rg_take 14 rfl rfl (by kernel_rfl) (by kernel_rfl) (by kernel_rfl) (want_0) (fun w hok => x_quoN (tmI rfl rfl) (ev_cN 8192) (by omega) (fit_u64 (by omega))) ?_
    refine rg_take 15 rfl rfl (by kernel_rfl) (by kernel_rfl) (by kernel_rfl) (want_0) (fun w hok => x_remN (tmI rfl rfl) (ev_cN 2) (by omega)) ?_
    refine rg_take 16 rfl rfl (by kernel_rfl) (by kernel_rfl) (by kernel_rfl) (want_0) (fun w hok => (congrArg (fun q : Bool => Value.bool q) e13) ▸ x_eql (tmI rfl rfl) (ev_cN 1)) ?_
    refine rg_take 17 rfl rfl (by kernel_rfl) (by kernel_rfl) (by kernel_rfl) (want_0) (fun w hok => x_move (tmI rfl rfl)) ?_
    refine rg_take 18 rfl rfl (by kernel_rfl) (by kernel_rfl) (by kernel_rfl) (want_0) (fun w hok => x_remN (tmI rfl rfl) (ev_cN 8192) (by omega)) ?_
    refine rg_take 19 rfl rfl (by kernel_rfl) (by kernel_rfl) (by kernel_rfl) (want_0) (fun w hok => x_convN Try.underlying24 Try.underlying3 (tmI rfl rfl) (fit_i64 (by omega))) ?_
    refine rg_take 20 rfl rfl (by kernel_rfl) (by kernel_rfl) (by kernel_rfl) (want_0) (fun w hok => x_move (tmS rfl rfl)) ?_
    refine rg_take 21 rfl rfl (by kernel_rfl) (by kernel_rfl) (by kernel_rfl) (want_0) (fun w hok => x_ixs1 Try.underlying22 ts_5 (tmS rfl rfl) (ev_cN 8) (by omega)) ?_
    refine rg_take 22 rfl rfl (by kernel_rfl) (by kernel_rfl) (by kernel_rfl) (want_0) (fun w hok => x_load Try.underlying5 rfl (tmP rfl rfl) (cellV hok 1 rfl (getm (by omega)))) ?_
    refine rg_take 23 rfl rfl (by kernel_rfl) (by kernel_rfl) (by kernel_rfl) (want_0) (fun w hok => x_move (tmS rfl rfl)) ?_
    refine rg_take 24 rfl rfl (by kernel_rfl) (by kernel_rfl) (by kernel_rfl) (want_0) (fun w hok => x_ixs1 Try.underlying22 ts_5 (tmS rfl rfl) (ev_cN 9) (by omega)) ?_
    refine rg_take 25 rfl rfl (by kernel_rfl) (by kernel_rfl) (by kernel_rfl) (want_0) (fun w hok => x_load Try.underlying5 rfl (tmP rfl rfl) (cellV hok 1 rfl (getm (by omega)))) ?_
    refine rg_take 26 rfl rfl (by kernel_rfl) (by kernel_rfl) (by kernel_rfl) (want_0) (fun w hok => x_move (tmS rfl rfl)) ?_
    refine rg_step2 4 30 rfl rfl (by kernel_rfl) (want_0) (want_0) (oks_drop hS 0 rfl) ?_ ?_
    · intro K hK
      refine ow_call Try.func17 rfl rfl (evs_cons (tmS rfl rfl) <| evs_cons (ev_cN 2) <| evs_cons (ev_cN 2) <| evs_nil) (get_c n _ c l _ _ _ (viewV hS.ok 1 rfl) hl hc hn4 hb (by omega) (by omega)) ?_
      rintro e w ⟨rfl, hk⟩
      refine ⟨_, rfl, ?_⟩
      replace hS := hS.kept hk
      clear hk
      refine hK _ _ ?_; clear hK K
      refine rg_take 5 rfl rfl (by kernel_rfl) (by kernel_rfl) (by kernel_rfl) (want_0) (fun w hok => x_convN Try.underlying24 Try.underlying3 (tmI rfl (congrArg (fun q : Nat => Value.int .u64 (q : Int)) hle)) (fit_i64 (by omega))) ?_
      refine rg_step2 7 30 rfl rfl (by kernel_rfl) (want_0) (want_0) (oks_drop hS 0 rfl) ?_ ?_
      · intro K hK
        refine ow_call Try.func17 rfl rfl (evs_cons (tmS rfl rfl) <| evs_cons (ev_cN 4) <| evs_cons (ev_cN 2) <| evs_nil) (get_c n _ c l _ _ _ (viewV hS.ok 1 rfl) hl hc hn4 hb (by omega) (by omega)) ?_
        rintro e w ⟨rfl, hk⟩
        refine ⟨_, rfl, ?_⟩
        replace hS := hS.kept hk
        clear hk
        refine hK _ _ ?_; clear hK K
        refine rg_take 8 rfl rfl (by kernel_rfl) (by kernel_rfl) (by kernel_rfl) (want_0) (fun w hok => x_convN Try.underlying24 Try.underlying27 (tmI rfl rfl) (fit_u16 (by omega))) ?_
        refine rg_step2 27 30 rfl rfl (by kernel_rfl) (want_0) (want_0) (oks_drop hS 0 rfl) ?_ ?_
        · intro K hK
          refine ow_call Try.func17 rfl rfl (evs_cons (tmS rfl rfl) <| evs_cons (ev_cN 10) <| evs_cons (ev_cN 2) <| evs_nil) (get_c n _ c l _ _ _ (viewV hS.ok 1 rfl) hl hc hn4 hb (by omega) (by omega)) ?_
          rintro e w ⟨rfl, hk⟩
          refine ⟨_, rfl, ?_⟩
          replace hS := hS.kept hk
          clear hk
          refine hK _ _ ?_; clear hK K
          refine rg_take 28 rfl rfl (by kernel_rfl) (by kernel_rfl) (by kernel_rfl) (want_0) (fun w hok => x_convN Try.underlying24 Try.underlying27 (tmI rfl rfl) (fit_u16 (by omega))) ?_
          refine rg_take 29 rfl rfl (by kernel_rfl) (by kernel_rfl) (by kernel_rfl) (want_0) (fun w hok => x_build (bc_take (tmI rfl rfl) <| bc_take (tmI rfl rfl) <| bc_take (tmI rfl rfl) <| bc_take (tmB rfl rfl) <| bc_take (tmB rfl rfl) <| bc_take (tmI rfl rfl) <| bc_take (tmI rfl rfl) <| bc_take (tmI rfl rfl) <| bc_take (tmI rfl rfl) <| bc_skipL [.bool false, .int .u64 0, .int .u64 0] <| bc_skipL [.bool false, .int .u64 0, .int .u64 0] <| bc_skip (.slice none 0 0) <| bc_nil) (by kernel_rfl)) ?_
          refine rg_step 30 rfl (by kernel_rfl) (want_0) (oks_drop hS 0 rfl) ?_; intro K hK
          refine ow_alloc hS tz_102 rfl ?_
          clear hS; intro g7_30 w hg7_30 hS
          refine hK _ _ ?_; clear hK K
          refine rg_step 31 rfl (by kernel_rfl) (want_0) (oks_drop hS 1 rfl) ?_; intro K hK
          refine ow_storeA hS 0 rfl ts_102 (tmP rfl rfl) (tmA rfl rfl) rfl rfl rfl ?_
          clear hS; intro w hS
          try replace hS := St.nm (M' := [.blk _ _ [_, _, _, _, _, _, _, _, _, _, _, _, _, _, _, _], .blk _ _ [_, _, _, _, _, _, _, _, _, _, _, _, _, _, _, _], .vw _ _]) hS rfl
          refine hK _ _ ?_; clear hK K
          refine rg_done (oks_drop hS 1 rfl) (by kernel_rfl) ?_
          exact then_n ⟨_, rfl, (by repeat (first | exact agree_self | exact agree_refl | refine agree_upd rfl ?_ | refine agree_mix rfl ?_)), g7_30, (by first | rfl | go_num | exact congrArg (Value.int _) (by first | omega | (simp; done) | (simp; omega))), hS⟩
        · intro K hK
          refine ow_alloc hS tz_102 rfl ?_
          clear hS; intro g7_30 w hg7_30 hS
          refine hK _ _ ?_; clear hK K
          refine rg_step 27 rfl (by kernel_rfl) (want_0) (oks_drop hS 1 rfl) ?_; intro K hK
          refine ow_call Try.func17 rfl rfl (evs_cons (tmS rfl rfl) <| evs_cons (ev_cN 10) <| evs_cons (ev_cN 2) <| evs_nil) (get_c n _ c l _ _ _ (viewV hS.ok 2 rfl) hl hc hn4 hb (by omega) (by omega)) ?_
          rintro e w ⟨rfl, hk⟩
          refine ⟨_, rfl, ?_⟩
          replace hS := hS.kept hk
          clear hk
          refine hK _ _ ?_; clear hK K
          refine rg_take 28 rfl rfl (by kernel_rfl) (by kernel_rfl) (by kernel_rfl) (want_0) (fun w hok => x_convN Try.underlying24 Try.underlying27 (tmI rfl rfl) (fit_u16 (by omega))) ?_
          refine rg_take 29 rfl rfl (by kernel_rfl) (by kernel_rfl) (by kernel_rfl) (want_0) (fun w hok => x_build (bc_take (tmI rfl rfl) <| bc_take (tmI rfl rfl) <| bc_take (tmI rfl rfl) <| bc_take (tmB rfl rfl) <| bc_take (tmB rfl rfl) <| bc_take (tmI rfl rfl) <| bc_take (tmI rfl rfl) <| bc_take (tmI rfl rfl) <| bc_take (tmI rfl rfl) <| bc_skipL [.bool false, .int .u64 0, .int .u64 0] <| bc_skipL [.bool false, .int .u64 0, .int .u64 0] <| bc_skip (.slice none 0 0) <| bc_nil) (by kernel_rfl)) ?_
          refine rg_step 31 rfl (by kernel_rfl) (want_0) (oks_drop hS 1 rfl) ?_; intro K hK
          refine ow_storeA hS 0 rfl ts_102 (tmP rfl rfl) (tmA rfl rfl) rfl rfl rfl ?_
          clear hS; intro w hS
          try replace hS := St.nm (M' := [.blk _ _ [_, _, _, _, _, _, _, _, _, _, _, _, _, _, _, _], .blk _ _ [_, _, _, _, _, _, _, _, _, _, _, _, _, _, _, _], .vw _ _]) hS rfl
          refine hK _ _ ?_; clear hK K
          refine rg_done (oks_drop hS 1 rfl) (by kernel_rfl) ?_
          exact then_n ⟨_, rfl, (by repeat (first | exact agree_self | exact agree_refl | refine agree_upd rfl ?_ | refine agree_mix rfl ?_)), g7_30, (by first | rfl | go_num | exact congrArg (Value.int _) (by first | omega | (simp; done) | (simp; omega))), hS⟩
      · intro K hK
        refine ow_alloc hS tz_102 rfl ?_
        clear hS; intro g7_30 w hg7_30 hS
        refine hK _ _ ?_; clear hK K
        refine rg_step 7 rfl (by kernel_rfl) (want_0) (oks_drop hS 1 rfl) ?_; intro K hK
        refine ow_call Try.func17 rfl rfl (evs_cons (tmS rfl rfl) <| evs_cons (ev_cN 4) <| evs_cons (ev_cN 2) <| evs_nil) (get_c n _ c l _ _ _ (viewV hS.ok 2 rfl) hl hc hn4 hb (by omega) (by omega)) ?_
        rintro e w ⟨rfl, hk⟩
        refine ⟨_, rfl, ?_⟩
        replace hS := hS.kept hk
        clear hk
        refine hK _ _ ?_; clear hK K
        refine rg_take 8 rfl rfl (by kernel_rfl) (by kernel_rfl) (by kernel_rfl) (want_0) (fun w hok => x_convN Try.underlying24 Try.underlying27 (tmI rfl rfl) (fit_u16 (by omega))) ?_
        refine rg_step 27 rfl (by kernel_rfl) (want_0) (oks_drop hS 1 rfl) ?_; intro K hK
        refine ow_call Try.func17 rfl rfl (evs_cons (tmS rfl rfl) <| evs_cons (ev_cN 10) <| evs_cons (ev_cN 2) <| evs_nil) (get_c n _ c l _ _ _ (viewV hS.ok 2 rfl) hl hc hn4 hb (by omega) (by omega)) ?_
        rintro e w ⟨rfl, hk⟩
        refine ⟨_, rfl, ?_⟩
        replace hS := hS.kept hk
        clear hk
        refine hK _ _ ?_; clear hK K
        refine rg_take 28 rfl rfl (by kernel_rfl) (by kernel_rfl) (by kernel_rfl) (want_0) (fun w hok => x_convN Try.underlying24 Try.underlying27 (tmI rfl rfl) (fit_u16 (by omega))) ?_
        refine rg_take 29 rfl rfl (by kernel_rfl) (by kernel_rfl) (by kernel_rfl) (want_0) (fun w hok => x_build (bc_take (tmI rfl rfl) <| bc_take (tmI rfl rfl) <| bc_take (tmI rfl rfl) <| bc_take (tmB rfl rfl) <| bc_take (tmB rfl rfl) <| bc_take (tmI rfl rfl) <| bc_take (tmI rfl rfl) <| bc_take (tmI rfl rfl) <| bc_take (tmI rfl rfl) <| bc_skipL [.bool false, .int .u64 0, .int .u64 0] <| bc_skipL [.bool false, .int .u64 0, .int .u64 0] <| bc_skip (.slice none 0 0) <| bc_nil) (by kernel_rfl)) ?_
        refine rg_step 31 rfl (by kernel_rfl) (want_0) (oks_drop hS 1 rfl) ?_; intro K hK
        refine ow_storeA hS 0 rfl ts_102 (tmP rfl rfl) (tmA rfl rfl) rfl rfl rfl ?_
        clear hS; intro w hS
        try replace hS := St.nm (M' := [.blk _ _ [_, _, _, _, _, _, _, _, _, _, _, _, _, _, _, _], .blk _ _ [_, _, _, _, _, _, _, _, _, _, _, _, _, _, _, _], .vw _ _]) hS rfl
        refine hK _ _ ?_; clear hK K
        refine rg_done (oks_drop hS 1 rfl) (by kernel_rfl) ?_
        exact then_n ⟨_, rfl, (by repeat (first | exact agree_self | exact agree_refl | refine agree_upd rfl ?_ | refine agree_mix rfl ?_)), g7_30, (by first | rfl | go_num | exact congrArg (Value.int _) (by first | omega | (simp; done) | (simp; omega))), hS⟩
    · intro K hK
      refine ow_alloc hS tz_102 rfl ?_
      clear hS; intro g7_30 w hg7_30 hS
      refine hK _ _ ?_; clear hK K
      refine rg_step 4 rfl (by kernel_rfl) (want_0) (oks_drop hS 1 rfl) ?_; intro K hK
      refine ow_call Try.func17 rfl rfl (evs_cons (tmS rfl rfl) <| evs_cons (ev_cN 2) <| evs_cons (ev_cN 2) <| evs_nil) (get_c n _ c l _ _ _ (viewV hS.ok 2 rfl) hl hc hn4 hb (by omega) (by omega)) ?_
      rintro e w ⟨rfl, hk⟩
      refine ⟨_, rfl, ?_⟩
      replace hS := hS.kept hk
      clear hk
      refine hK _ _ ?_; clear hK K
      refine rg_take 5 rfl rfl (by kernel_rfl) (by kernel_rfl) (by kernel_rfl) (want_0) (fun w hok => x_convN Try.underlying24 Try.underlying3 (tmI rfl (congrArg (fun q : Nat => Value.int .u64 (q : Int)) hle)) (fit_i64 (by omega))) ?_
      refine rg_step 7 rfl (by kernel_rfl) (want_0) (oks_drop hS 1 rfl) ?_; intro K hK
      refine ow_call Try.func17 rfl rfl (evs_cons (tmS rfl rfl) <| evs_cons (ev_cN 4) <| evs_cons (ev_cN 2) <| evs_nil) (get_c n _ c l _ _ _ (viewV hS.ok 2 rfl) hl hc hn4 hb (by omega) (by omega)) ?_
      rintro e w ⟨rfl, hk⟩
      refine ⟨_, rfl, ?_⟩
      replace hS := hS.kept hk
      clear hk
      refine hK _ _ ?_; clear hK K
      refine rg_take 8 rfl rfl (by kernel_rfl) (by kernel_rfl) (by kernel_rfl) (want_0) (fun w hok => x_convN Try.underlying24 Try.underlying27 (tmI rfl rfl) (fit_u16 (by omega))) ?_
      refine rg_step 27 rfl (by kernel_rfl) (want_0) (oks_drop hS 1 rfl) ?_; intro K hK
      refine ow_call Try.func17 rfl rfl (evs_cons (tmS rfl rfl) <| evs_cons (ev_cN 10) <| evs_cons (ev_cN 2) <| evs_nil) (get_c n _ c l _ _ _ (viewV hS.ok 2 rfl) hl hc hn4 hb (by omega) (by omega)) ?_
      rintro e w ⟨rfl, hk⟩
      refine ⟨_, rfl, ?_⟩
      replace hS := hS.kept hk
      clear hk
      refine hK _ _ ?_; clear hK K
      refine rg_take 28 rfl rfl (by kernel_rfl) (by kernel_rfl) (by kernel_rfl) (want_0) (fun w hok => x_convN Try.underlying24 Try.underlying27 (tmI rfl rfl) (fit_u16 (by omega))) ?_
      refine rg_take 29 rfl rfl (by kernel_rfl) (by kernel_rfl) (by kernel_rfl) (want_0) (fun w hok => x_build (bc_take (tmI rfl rfl) <| bc_take (tmI rfl rfl) <| bc_take (tmI rfl rfl) <| bc_take (tmB rfl rfl) <| bc_take (tmB rfl rfl) <| bc_take (tmI rfl rfl) <| bc_take (tmI rfl rfl) <| bc_take (tmI rfl rfl) <| bc_take (tmI rfl rfl) <| bc_skipL [.bool false, .int .u64 0, .int .u64 0] <| bc_skipL [.bool false, .int .u64 0, .int .u64 0] <| bc_skip (.slice none 0 0) <| bc_nil) (by kernel_rfl)) ?_
      refine rg_step 31 rfl (by kernel_rfl) (want_0) (oks_drop hS 1 rfl) ?_; intro K hK
      refine ow_storeA hS 0 rfl ts_102 (tmP rfl rfl) (tmA rfl rfl) rfl rfl rfl ?_
      clear hS; intro w hS
      try replace hS := St.nm (M' := [.blk _ _ [_, _, _, _, _, _, _, _, _, _, _, _, _, _, _, _], .blk _ _ [_, _, _, _, _, _, _, _, _, _, _, _, _, _, _, _], .vw _ _]) hS rfl
      refine hK _ _ ?_; clear hK K
      refine rg_done (oks_drop hS 1 rfl) (by kernel_rfl) ?_
      exact then_n ⟨_, rfl, (by repeat (first | exact agree_self | exact agree_refl | refine agree_upd rfl ?_ | refine agree_mix rfl ?_)), g7_30, (by first | rfl | go_num | exact congrArg (Value.int _) (by first | omega | (simp; done) | (simp; omega))), hS⟩
  · clear hS; intro g w hI
    obtain ⟨gq, hs7, hS⟩ := hI
    refine fr_knowQ (d := 7) hs7 ?_; clear hs7
    refine then_n (hK10 _ _ ?_); clear hK10 K10
    refine wp_seq_k ?_; intro K12 hK12
    refine wlit ?_
    refine wl_v (x_move (tmS rfl rfl)) ?_
    refine wl_e rfl ?_; intro K hK
    refine ow_call Try.func17 rfl rfl (evs_cons (tmS rfl rfl) <| evs_cons (ev_cN 12) <| evs_cons (ev_cN 4) <| evs_nil) (get_c n _ c l _ _ _ (viewV hS.ok 2 rfl) hl hc hn4 hb (by omega) (by omega)) ?_
    rintro e w ⟨rfl, hk⟩
    refine ⟨_, rfl, ?_⟩
    replace hS := hS.kept hk
    clear hk
    refine hK _ _ ?_; clear hK K
    refine wl_v (x_build (bc_skip (.bool false) <| bc_skip (.int .u64 0) <| bc_take (tmI rfl rfl) <| bc_nil) (by kernel_rfl)) ?_
    refine wl_v (x_fa 9 Try.underlying102 rfl rfl ts_26 (tmP rfl rfl)) ?_
    refine wl_e rfl ?_; intro K hK
    refine ow_storeA hS 0 rfl ts_26 (tmP rfl rfl) (tmA rfl rfl) rfl rfl rfl ?_
    clear hS; intro w hS
    try replace hS := St.nm (M' := [.blk _ _ [_, _, _, _, _, _, _, _, _, _, _, _, _, _, _, _], .blk _ _ [_, _, _, _, _, _, _, _, _, _, _, _, _, _, _, _], .vw _ _]) hS rfl
    refine hK _ _ ?_; clear hK K
    refine wl_nil ?_
    refine then_n (hK12 _ _ ?_); clear hK12 K12
    refine wp_seq_k ?_; intro K13 hK13
    refine wlit ?_
    refine wl_v (x_move (tmS rfl rfl)) ?_
    refine wl_e rfl ?_; intro K hK
    refine ow_call Try.func17 rfl rfl (evs_cons (tmS rfl rfl) <| evs_cons (ev_cN 16) <| evs_cons (ev_cN 4) <| evs_nil) (get_c n _ c l _ _ _ (viewV hS.ok 2 rfl) hl hc hn4 hb (by omega) (by omega)) ?_
    rintro e w ⟨rfl, hk⟩
    refine ⟨_, rfl, ?_⟩
    replace hS := hS.kept hk
    clear hk
    refine hK _ _ ?_; clear hK K
    refine wl_v (x_build (bc_skip (.bool false) <| bc_skip (.int .u64 0) <| bc_take (tmI rfl rfl) <| bc_nil) (by kernel_rfl)) ?_
    refine wl_v (x_fa 12 Try.underlying102 rfl rfl ts_26 (tmP rfl rfl)) ?_
    refine wl_e rfl ?_; intro K hK
    refine ow_storeA hS 0 rfl ts_26 (tmP rfl rfl) (tmA rfl rfl) rfl rfl rfl ?_
    clear hS; intro w hS
    try replace hS := St.nm (M' := [.blk _ _ [_, _, _, _, _, _, _, _, _, _, _, _, _, _, _, _], .blk _ _ [_, _, _, _, _, _, _, _, _, _, _, _, _, _, _, _], .vw _ _]) hS rfl
    refine hK _ _ ?_; clear hK K
    refine wl_nil ?_
    refine then_n (hK13 _ _ ?_); clear hK13 K13
    refine wp_seq_k ?_; intro K14 hK14
    refine wp_seq_k ?_; intro K15 hK15
    refine wlit ?_
    refine wl_v (x_move (tmI rfl rfl)) ?_
    refine wl_v (x_gtr (tmI rfl rfl) (ev_cN 32767)) ?_
    refine wl_v (x_move (tmB rfl rfl)) ?_
    refine gs_wl (tm (t := 70) rfl) (fun hg10_2 => ?_) (fun hg10_2 => ?_)
    · have hg10_2' := hg10_2; (try simp only [nrm] at hg10_2'); try (exfalso; first | with_reducible exact absurd hg10_2 Bool.false_ne_true | with_reducible exact absurd hg10_2.symm Bool.false_ne_true | omega | (simp at hg10_2; done))
    have hg10_2' := hg10_2; (try simp only [nrm] at hg10_2')
    refine wl_gv (want_y rfl rfl rfl rfl (by rw [hg10_2]; rfl)) (x_fa 1 Try.underlying102 rfl rfl ts_3 (tmP rfl rfl)) ?_
    refine wl_gv (want_y rfl rfl rfl rfl (by rw [hg10_2]; rfl)) (x_load Try.underlying3 rfl (tmP rfl rfl) (cellB hS.ok 0 rfl rfl)) ?_
    refine wl_gv (want_y rfl rfl rfl rfl (by rw [hg10_2]; rfl)) (x_move (tmI rfl rfl)) ?_
    refine wl_gv (want_y rfl rfl rfl rfl (by rw [hg10_2]; rfl)) (x_lss (tmI rfl rfl) (tmI rfl rfl)) ?_
    refine wl_v (x_pickF (tmB rfl rfl) hg10_2 (tmB rfl rfl)) ?_
    refine wl_nil ?_
    refine then_n (hK15 _ _ ?_); clear hK15 K15
    refine cnd (tm rfl) (fun hc2 => ?_) (fun hc2 => ?_)
    · exfalso
      simp only [nrm] at hc2
      omega
    try simp only [nrm] at hc2
    refine wp_skip ?_
    refine then_n (hK14 _ _ ?_); clear hK14 K14
    refine wp_seq_k ?_; intro K18 hK18
    refine wp_seq_k ?_; intro K19 hK19
    refine wlit ?_
    refine wl_v (x_move (tmS rfl rfl)) ?_
    refine wl_v (x_len Try.underlying22 (tmS rfl rfl)) ?_
    refine wl_v (x_fa 1 Try.underlying102 rfl rfl ts_3 (tmP rfl rfl)) ?_
    refine wl_v (x_load Try.underlying3 rfl (tmP rfl rfl) (cellB hS.ok 0 rfl rfl)) ?_
    refine wl_v (x_lss (tmI rfl rfl) (tmI rfl rfl)) ?_
    refine wl_nil ?_
    refine then_n (hK19 _ _ ?_); clear hK19 K19
    refine cnd (tm rfl) (fun hc3 => ?_) (fun hc3 => ?_)
    · exfalso
      simp only [nrm] at hc3
      omega
    try simp only [nrm] at hc3
    refine wp_skip ?_
    refine then_n (hK18 _ _ ?_); clear hK18 K18
    refine wp_seq_k ?_; intro K20 hK20
    refine wp_seq_k ?_; intro K21 hK21
    refine wlit ?_
    refine wl_v (x_move (tmS rfl rfl)) ?_
    refine wl_v (x_move (tmI rfl rfl)) ?_
    refine wl_v (x_sliceH Try.underlying22 ts_5 (tmS rfl rfl) (tmI rfl rfl) (by omega)) ?_
    replace hS := hS.cutb 2 0 sz rfl (by omega : l.length ≤ c)
    refine wl_e rfl ?_; intro K hK
    refine ow_call Try.func56 rfl rfl (evs_cons (tmS rfl rfl) <| evs_nil) (rsum_of_c sz _ _ (l.take sz) _ (viewV hS.ok 0 rfl) htl (hb.take sz) (by omega)) ?_
    rintro e w ⟨rfl, hk⟩
    refine ⟨_, rfl, ?_⟩
    replace hS := hS.kept hk
    clear hk
    refine hK _ _ ?_; clear hK K
    refine wl_v (x_neq (tmI rfl rfl) (ev_cN 0)) ?_
    refine wl_nil ?_
    refine then_n (hK21 _ _ ?_); clear hK21 K21
    refine cnd (tm rfl) (fun hc4 => ?_) (fun hc4 => ?_)
    · exfalso
      simp only [nrm] at hc4
      omega
    try simp only [nrm] at hc4
    refine wp_skip ?_
    refine then_n (hK20 _ _ ?_); clear hK20 K20
    refine wp_seq_k ?_; intro K22 hK22
    refine wlit ?_
    refine wl_e rfl ?_; intro K hK
    refine ow_build0 hS Try.underlying22 tz_5 rfl rfl ?_
    clear hS; intro g16_0 w hg16_0 hS
    refine hK _ _ ?_; clear hK K
    refine wl_v (x_move (tmS rfl rfl)) ?_
    refine wl_v (x_move (tmI rfl rfl)) ?_
    refine wl_v (x_sliceLH Try.underlying22 ts_5 (tmS rfl rfl) (ev_cN 20) (tmI rfl rfl) (by omega)) ?_
    replace hS := hS.cutb 4 20 (sz - 20) rfl (by omega : l.length ≤ c)
    refine wl_e rfl ?_; intro K hK
    refine ow_appendV hS 1 rfl (viewV hS.ok 0 rfl) Try.underlying22 tz_5 rfl (tmS rfl rfl) (tmS rfl rfl) (by first | exact u8v_one _ | (intro u hu; simp at hu; first | (rcases hu with rfl | rfl <;> rfl) | (obtain ⟨_, _, rfl⟩ := hu; rfl))) ⟨by decide, by first | rfl | (simp; done) | (simp; omega)⟩ (by simp only [maxLen]; omega) (by omega) ?_; clear hS; intro g16_4 cg16_4 w hAg16_4 hCg16_4 hS
    refine hK _ _ ?_; clear hK K
    refine wl_v (x_fa 15 Try.underlying102 rfl rfl ts_22 (tmP rfl rfl)) ?_
    refine wl_e rfl ?_; intro K hK
    refine ow_store hS 3 rfl ts_22 (tmP rfl rfl) (tmS rfl rfl) rfl rfl ?_
    clear hS; intro w hS
    try replace hS := St.nm (M' := [.vw _ _, .row _ _ _ _ _, .vw _ _, .blk _ _ [_, _, _, _, _, _, _, _, _, _, _, _, _, _, _, _], .blk _ _ [_, _, _, _, _, _, _, _, _, _, _, _, _, _, _, _], .vw _ _]) hS rfl
    refine hK _ _ ?_; clear hK K
    refine wl_nil ?_
    simp only [List.nil_append, Nat.zero_add] at hS
    refine then_n (hK22 _ _ ?_); clear hK22 K22
    refine wp_seq_k ?_; intro K23 hK23
    replace hS := hS.cutb 5 sz (len - sz) rfl (by omega : l.length ≤ c)
    replace hS := hS.pick [5, 4, 0, 2, 6] rfl rfl
    try replace hS := St.nm (M' := [.blk _ _ [_, _, _, _, _, _, _, _, _, _, _, _, _, _, _, _], .blk _ _ [_, _, _, _, _, _, _, _, _, _, _, _, _, _, _, _], .vw _ _, .row _ _ _ _ _, .vw _ _]) hS rfl
    refine rg_startk 1 hS mixed_ ?_
    clear hS; intro w hS
    refine rg_take 0 rfl rfl (by kernel_rfl) (by kernel_rfl) (by kernel_rfl) (want_0) (fun w hok => x_loadA (cs := [_, _, _, _, _, _, _, _, _, _, _, _, _, _, _, _]) Try.underlying102 rfl ts_102 (tmP rfl rfl) (rangeB hok 0 rfl rfl)) ?_
    refine rg_take 2 rfl rfl (by kernel_rfl) (by kernel_rfl) (by kernel_rfl) (want_0) (fun w hok => x_move (tmS rfl rfl)) ?_
    refine rg_take 3 rfl rfl (by kernel_rfl) (by kernel_rfl) (by kernel_rfl) (want_0) (fun w hok => x_move (tmI rfl rfl)) ?_
    refine rg_take 4 rfl rfl (by kernel_rfl) (by kernel_rfl) (by kernel_rfl) (want_0) (fun w hok => x_fa 1 Try.underlying102 rfl rfl ts_3 (tmP rfl rfl)) ?_
    refine rg_take 5 rfl rfl (by kernel_rfl) (by kernel_rfl) (by kernel_rfl) (want_0) (fun w hok => x_load Try.underlying3 rfl (tmP rfl rfl) (cellB hok 0 rfl rfl)) ?_
    refine rg_take 6 rfl rfl (by kernel_rfl) (by kernel_rfl) (by kernel_rfl) (want_0) (fun w hok => x_sliceLH Try.underlying22 ts_5 (tmS rfl rfl) (tmI rfl rfl) (tmI rfl rfl) (by omega)) ?_
    refine rg_step 1 rfl (by kernel_rfl) (want_0) (oks_drop hS 1 rfl) ?_; intro K hK
    refine ow_build0 hS Try.underlying22 tz_5 rfl rfl ?_
    clear hS; intro g17_1 w hg17_1 hS
    refine hK _ _ ?_; clear hK K
    refine rg_step 7 rfl (by kernel_rfl) (want_0) (oks_drop hS 2 rfl) ?_; intro K hK
    refine ow_appendV hS 0 rfl (viewV hS.ok 3 rfl) Try.underlying22 tz_5 rfl (tmS rfl rfl) (tmS rfl rfl) (by first | exact u8v_one _ | (intro u hu; simp at hu; first | (rcases hu with rfl | rfl <;> rfl) | (obtain ⟨_, _, rfl⟩ := hu; rfl))) ⟨by decide, by first | rfl | (simp; done) | (simp; omega)⟩ (by simp only [maxLen]; omega) (by omega) ?_; clear hS; intro g17_7 cg17_7 w hAg17_7 hCg17_7 hS
    refine hK _ _ ?_; clear hK K
    refine rg_step 8 rfl (by kernel_rfl) (want_0) (oks_drop hS 2 rfl) ?_; intro K hK
    refine ow_storeA hS 1 rfl ts_102 (tmP rfl rfl) (tmA rfl rfl) rfl rfl rfl ?_
    clear hS; intro w hS
    try replace hS := St.nm (M' := [.row _ _ _ _ _, .blk _ _ [_, _, _, _, _, _, _, _, _, _, _, _, _, _, _, _], .blk _ _ [_, _, _, _, _, _, _, _, _, _, _, _, _, _, _, _], .vw _ _, .row _ _ _ _ _, .vw _ _]) hS rfl
    refine hK _ _ ?_; clear hK K
    refine rg_take 9 rfl rfl (by kernel_rfl) (by kernel_rfl) (by kernel_rfl) (want_0) (fun w hok => x_assign (tmS rfl rfl)) ?_
    refine rg_take 10 rfl rfl (by kernel_rfl) (by kernel_rfl) (by kernel_rfl) (want_0) (fun w hok => x_assign (ev_cN 0)) ?_
    refine rg_done (oks_drop hS 2 rfl) (by kernel_rfl) ?_
    simp only [List.nil_append, Nat.zero_add] at hS
    refine then_n (hK23 _ _ ?_); clear hK23 K23
    refine wp_ret ?_
    refine ret3 rfl (.cell rfl rfl (load_rowB (cs := [_, _, _, _, _, _, _, _, _, _, _, _, _, _, _, _]) hS.ok 1 rfl Try.underlying102 rfl ts_102 rfl)) (.tmp rfl (show _ = Value.slice _ _ _ from rfl)) (.tmp rfl (show _ = Value.int _ _ from rfl)) ?_
    have hcp := row_cap (hS.rowOk 0 rfl) (by decide)
    refine ⟨g16_4, cg16_4, g17_7, cg17_7, ?_, hS.newv 4 rfl, hS.newv 0 rfl, by omega, hS.kp⟩
    rw [e1, e8, e9, Nat.zero_add]
    rfl
set_option maxRecDepth 100000 in
set_option maxHeartbeats 8000000 in
theorem rip6_parse_k (n : Nat) (A : Option Addr) (c : Nat) (l : List Nat) (w0 : World) (hv : View w0 w0.heap.size A (l.map u8v)) (hl : l.length = n) (hc : n ≤ c) (hb : Bytes l) (hn4 : n ≤ 1000000)
    (len : Nat) (hf : Ip6Form l n len) :
    Calls Try.prog 36 #[.slice A n c] w0 fun e w' => ∃ L cc, e = .returned (.tuple #[.agg (hd6V (l.getD 0 0 % 16 * 16 + l.getD 1 0 / 16) (l.getD 1 0 % 16 * 65536 + getN l 2 2) (len : Int) (getN l 6 1) (getN l 7 1) (ad6 l 8) (ad6 l 24)).toArray, .slice L len cc, .int .i64 0]) ∧
      NewV w0 w' L (((l.drop 40).take len).map u8v) ∧ len ≤ cc ∧ Kp [] w0 w' := by
  obtain ⟨n40, six, hle, room⟩ := hf
  have hS := (St.sv w0).vcons rfl hv
  rw [six_first hb (by omega)] at six
  obtain ⟨b4, o4, rfl⟩ := view_some hv (by rw [List.length_map]; omega)
  have hq : l.getD 0 0 = nth l 0 := rfl
  have hq1 : l.getD 1 0 = nth l 1 := rfl
  have hqb := nth_lt hb 0
  have hqb1 := nth_lt hb 1
  have hle2 := getN_lt hb 4 2
  have h2_ := getN_lt hb 2 2
  have e6 : getN l 6 1 = l.getD 6 0 := getN_one (by omega)
  have e7 : getN l 7 1 = l.getD 7 0 := getN_one (by omega)
  refine ent (n := 75) Try.func36 rfl rfl ?_
  refine wp_seq_k ?_; intro K1 hK1
  refine wlit ?_
  refine wl_e rfl ?_; intro K hK
  refine ow_alloc hS tz_98 rfl ?_
  clear hS; intro g0_0 w hg0_0 hS
  refine hK _ _ ?_; clear hK K
  refine wl_v (x_assign ev_c) ?_
  refine wl_v (x_assign (ev_cN 0)) ?_
  refine wl_nil ?_
  refine then_n (hK1 _ _ ?_); clear hK1 K1
  refine wp_seq_k ?_; intro K2 hK2
  refine wp_seq_k ?_; intro K3 hK3
  refine wlit ?_
  refine wl_v (x_move (tmS rfl rfl)) ?_
  refine wl_v (x_len Try.underlying22 (tmS rfl rfl)) ?_
  refine wl_v (x_lss (tmI rfl rfl) (ev_cN 40)) ?_
  refine wl_nil ?_
  refine then_n (hK3 _ _ ?_); clear hK3 K3
  refine cnd (tm rfl) (fun hc0 => ?_) (fun hc0 => ?_)
  · exfalso
    simp only [nrm] at hc0
    omega
  try simp only [nrm] at hc0
  refine wp_skip ?_
  refine then_n (hK2 _ _ ?_); clear hK2 K2
  refine wp_seq_k ?_; intro K4 hK4
  refine wp_seq_k ?_; intro K5 hK5
  refine wlit ?_
  refine wl_v (x_move (tmS rfl rfl)) ?_
  refine wl_v (x_ixs1 Try.underlying22 ts_5 (tmS rfl rfl) (ev_cN 0) (by omega)) ?_
  refine wl_v (x_load Try.underlying5 rfl (tmP rfl rfl) (cellV hS.ok 1 rfl (getm (by omega)))) ?_
  refine wl_v (x_quoN (tmI rfl rfl) (ev_cN 16) (by omega) (fit_u8 (by omega))) ?_
  refine wl_v (x_neq (tmI rfl rfl) (ev_cN 6)) ?_
  refine wl_nil ?_
  refine then_n (hK5 _ _ ?_); clear hK5 K5
  refine cnd (tm rfl) (fun hc1 => ?_) (fun hc1 => ?_)
  · exfalso
    simp only [nrm] at hc1
    omega
  try simp only [nrm] at hc1
  refine wp_skip ?_
  refine then_n (hK4 _ _ ?_); clear hK4 K4
  refine wp_seq_k ?_; intro K6 hK6
  refine rg_startk 0 hS mixed_ ?_
  clear hS; intro w hS
  refine rg_take 0 rfl rfl (by kernel_rfl) (by kernel_rfl) (by kernel_rfl) (want_0) (fun w hok => x_move (tmS rfl rfl)) ?_
  refine rg_take 1 rfl rfl (by kernel_rfl) (by kernel_rfl) (by kernel_rfl) (want_0) (fun w hok => x_ixs1 Try.underlying22 ts_5 (tmS rfl rfl) (ev_cN 0) (by omega)) ?_
  refine rg_take 2 rfl rfl (by kernel_rfl) (by kernel_rfl) (by kernel_rfl) (want_0) (fun w hok => x_load Try.underlying5 rfl (tmP rfl rfl) (cellV hok 1 rfl (getm (by omega)))) ?_
  refine rg_take 3 rfl rfl (by kernel_rfl) (by kernel_rfl) (by kernel_rfl) (want_0) (fun w hok => x_remN (tmI rfl rfl) (ev_cN 16) (by omega)) ?_
  refine rg_take 4 rfl rfl (by kernel_rfl) (by kernel_rfl) (by kernel_rfl) (want_0) (fun w hok => x_mulN (tmI rfl rfl) (ev_cN 16) (fit_u8 (by omega))) ?_
  refine rg_take 5 rfl rfl (by kernel_rfl) (by kernel_rfl) (by kernel_rfl) (want_0) (fun w hok => x_move (tmS rfl rfl)) ?_
  refine rg_take 6 rfl rfl (by kernel_rfl) (by kernel_rfl) (by kernel_rfl) (want_0) (fun w hok => x_ixs1 Try.underlying22 ts_5 (tmS rfl rfl) (ev_cN 1) (by omega)) ?_
  refine rg_take 7 rfl rfl (by kernel_rfl) (by kernel_rfl) (by kernel_rfl) (want_0) (fun w hok => x_load Try.underlying5 rfl (tmP rfl rfl) (cellV hok 1 rfl (getm (by omega)))) ?_
  refine rg_take 8 rfl rfl (by kernel_rfl) (by kernel_rfl) (by kernel_rfl) (want_0) (fun w hok => x_quoN (tmI rfl rfl) (ev_cN 16) (by omega) (fit_u8 (by omega))) ?_
  refine rg_take 9 rfl rfl (by kernel_rfl) (by kernel_rfl) (by kernel_rfl) (want_0) (fun w hok => x_addN (tmI rfl rfl) (tmI rfl rfl) (fit_u8 (by omega))) ?_
  refine rg_take 10 rfl rfl (by kernel_rfl) (by kernel_rfl) (by kernel_rfl) (want_0) (fun w hok => x_move (tmS rfl rfl)) ?_
  refine rg_take 11 rfl rfl (by kernel_rfl) (by kernel_rfl) (by kernel_rfl) (want_0) (fun w hok => x_ixs1 Try.underlying22 ts_5 (tmS rfl rfl) (ev_cN 1) (by omega)) ?_
  refine rg_take 12 rfl rfl (by kernel_rfl) (by kernel_rfl) (by kernel_rfl) (want_0) (fun w hok => x_load Try.underlying5 rfl (tmP rfl rfl) (cellV hok 1 rfl (getm (by omega)))) ?_
  refine rg_take 13 rfl rfl (by kernel_rfl) (by kernel_rfl) (by kernel_rfl) (want_0) (fun w hok => x_remN (tmI rfl rfl) (ev_cN 16) (by omega)) ?_
  refine rg_take 14 rfl rfl (by kernel_rfl) (by kernel_rfl) (by kernel_rfl) (want_0) (fun w hok => x_convN Try.underlying5 Try.underlying30 (tmI rfl rfl) (fit_u32 (by omega))) ?_
  refine rg_take 15 rfl rfl (by kernel_rfl) (by kernel_rfl) (by kernel_rfl) (want_0) (fun w hok => x_mulN (tmI rfl rfl) (ev_cN 65536) (fit_u32 (by omega))) ?_
  refine rg_take 16 rfl rfl (by kernel_rfl) (by kernel_rfl) (by kernel_rfl) (want_0) (fun w hok => x_move (tmS rfl rfl)) ?_
  refine rg_take 20 rfl rfl (by kernel_rfl) (by kernel_rfl) (by kernel_rfl) (want_0) (fun w hok => x_move (tmS rfl rfl)) ?_
  refine rg_take 23 rfl rfl (by kernel_rfl) (by kernel_rfl) (by kernel_rfl) (want_0) (fun w hok => x_move (tmS rfl rfl)) ?_
  refine rg_take 24 rfl rfl (by kernel_rfl) (by kernel_rfl) (by kernel_rfl) (want_0) (fun w hok => x_ixs1 Try.underlying22 ts_5 (tmS rfl rfl) (ev_cN 6) (by omega)) ?_
  refine rg_take 25 rfl rfl (by kernel_rfl) (by kernel_rfl) (by kernel_rfl) (want_0) (fun w hok => x_load Try.underlying5 rfl (tmP rfl rfl) (cellV hok 1 rfl (getm (by omega)))) ?_
  refine rg_take 26 rfl rfl (by kernel_rfl) (by kernel_rfl) (by kernel_rfl) (want_0) (fun w hok => x_move (tmS rfl rfl)) ?_
  refine rg_take 27 rfl rfl (by kernel_rfl) (by kernel_rfl) (by kernel_rfl) (want_0) (fun w hok => x_ixs1 Try.underlying22 ts_5 (tmS rfl rfl) (ev_cN 7) (by omega)) ?_
  refine rg_take 28 rfl rfl (by kernel_rfl) (by kernel_rfl) (by kernel_rfl) (want_0) (fun w hok => x_load Try.underlying5 rfl (tmP rfl rfl) (cellV hok 1 rfl (getm (by omega)))) ?_
  refine rg_step2 17 30 rfl rfl (by kernel_rfl) (want_0) (want_0) (oks_drop hS 0 rfl) ?_ ?_
  · intro K hK
    refine ow_call Try.func17 rfl rfl (evs_cons (tmS rfl rfl) <| evs_cons (ev_cN 2) <| evs_cons (ev_cN 2) <| evs_nil) (get_c n _ c l _ _ _ (viewV hS.ok 1 rfl) hl hc hn4 hb (by omega) (by omega)) ?_
    rintro e w ⟨rfl, hk⟩
    refine ⟨_, rfl, ?_⟩
    replace hS := hS.kept hk
    clear hk
    refine hK _ _ ?_; clear hK K
    refine rg_take 18 rfl rfl (by kernel_rfl) (by kernel_rfl) (by kernel_rfl) (want_0) (fun w hok => x_convN Try.underlying24 Try.underlying30 (tmI rfl rfl) (fit_u32 (by omega))) ?_
    refine rg_take 19 rfl rfl (by kernel_rfl) (by kernel_rfl) (by kernel_rfl) (want_0) (fun w hok => x_addN (tmI rfl rfl) (tmI rfl rfl) (fit_u32 (by omega))) ?_
    refine rg_step2 21 30 rfl rfl (by kernel_rfl) (want_0) (want_0) (oks_drop hS 0 rfl) ?_ ?_
    · intro K hK
      refine ow_call Try.func17 rfl rfl (evs_cons (tmS rfl rfl) <| evs_cons (ev_cN 4) <| evs_cons (ev_cN 2) <| evs_nil) (get_c n _ c l _ _ _ (viewV hS.ok 1 rfl) hl hc hn4 hb (by omega) (by omega)) ?_
      rintro e w ⟨rfl, hk⟩
      refine ⟨_, rfl, ?_⟩
      replace hS := hS.kept hk
      clear hk
      refine hK _ _ ?_; clear hK K
      refine rg_take 22 rfl rfl (by kernel_rfl) (by kernel_rfl) (by kernel_rfl) (want_0) (fun w hok => x_convN Try.underlying24 Try.underlying3 (tmI rfl (congrArg (fun q : Nat => Value.int .u64 (q : Int)) hle)) (fit_i64 (by omega))) ?_
      refine rg_take 29 rfl rfl (by kernel_rfl) (by kernel_rfl) (by kernel_rfl) (want_0) (fun w hok => x_build (bc_take (tmI rfl rfl) <| bc_take (tmI rfl rfl) <| bc_take (tmI rfl rfl) <| bc_take (tmI rfl rfl) <| bc_take (tmI rfl rfl) <| bc_skipL [.bool false, .int .u64 0, .int .u64 0] <| bc_skipL [.bool false, .int .u64 0, .int .u64 0] <| bc_nil) (by kernel_rfl)) ?_
      refine rg_step 30 rfl (by kernel_rfl) (want_0) (oks_drop hS 0 rfl) ?_; intro K hK
      refine ow_alloc hS tz_98 rfl ?_
      clear hS; intro g5_30 w hg5_30 hS
      refine hK _ _ ?_; clear hK K
      refine rg_step 31 rfl (by kernel_rfl) (want_0) (oks_drop hS 1 rfl) ?_; intro K hK
      refine ow_storeA hS 0 rfl ts_98 (tmP rfl rfl) (tmA rfl rfl) rfl rfl rfl ?_
      clear hS; intro w hS
      try replace hS := St.nm (M' := [.blk _ _ [_, _, _, _, _, _, _, _, _, _, _], .blk _ _ [_, _, _, _, _, _, _, _, _, _, _], .vw _ _]) hS rfl
      refine hK _ _ ?_; clear hK K
      refine rg_done (oks_drop hS 1 rfl) (by kernel_rfl) ?_
      refine then_n (hK6 _ _ ?_); clear hK6 K6
      refine wp_seq_k ?_; intro K7 hK7
      refine wlit ?_
      refine wl_v (x_move (tmS rfl rfl)) ?_
      refine wl_v (x_sliceLH Try.underlying22 ts_5 (tmS rfl rfl) (ev_cN 8) (ev_cN 24) (by omega)) ?_
      replace hS := hS.cutb 2 8 16 rfl (by omega : l.length ≤ c)
      refine wl_e rfl ?_; intro K hK
      refine ow_call Try.func18 rfl rfl (evs_cons (tmS rfl rfl) <| evs_nil) (rad_of16_c _ _ _ _ (viewV hS.ok 0 rfl) (by rw [List.length_take, List.length_drop]; omega) (by omega) ((hb.drop _).take 16)) ?_
      rintro e w ⟨rfl, hk⟩
      refine ⟨_, rfl, ?_⟩
      replace hS := hS.kept hk
      clear hk
      refine hK _ _ ?_; clear hK K
      refine wl_v (x_move (tmT rfl rfl)) ?_
      refine wl_v (x_ext (tmT rfl rfl) rfl) ?_
      refine wl_v (x_ext (tmT rfl rfl) rfl) ?_
      refine wl_v (x_fa 5 Try.underlying98 rfl rfl ts_26 (tmP rfl rfl)) ?_
      refine wl_e rfl ?_; intro K hK
      refine ow_storeA hS 1 rfl ts_26 (tmP rfl rfl) (tmA rfl rfl) rfl rfl rfl ?_
      clear hS; intro w hS
      try replace hS := St.nm (M' := [.vw _ _, .blk _ _ [_, _, _, _, _, _, _, _, _, _, _], .blk _ _ [_, _, _, _, _, _, _, _, _, _, _], .vw _ _]) hS rfl
      refine hK _ _ ?_; clear hK K
      refine wl_nil ?_
      refine then_n (hK7 _ _ ?_); clear hK7 K7
      refine wp_seq_k ?_; intro K8 hK8
      refine wlit ?_
      refine wl_v (x_move (tmS rfl rfl)) ?_
      refine wl_v (x_sliceLH Try.underlying22 ts_5 (tmS rfl rfl) (ev_cN 24) (ev_cN 40) (by omega)) ?_
      replace hS := hS.cutb 3 24 16 rfl (by omega : l.length ≤ c)
      refine wl_e rfl ?_; intro K hK
      refine ow_call Try.func18 rfl rfl (evs_cons (tmS rfl rfl) <| evs_nil) (rad_of16_c _ _ _ _ (viewV hS.ok 0 rfl) (by rw [List.length_take, List.length_drop]; omega) (by omega) ((hb.drop _).take 16)) ?_
      rintro e w ⟨rfl, hk⟩
      refine ⟨_, rfl, ?_⟩
      replace hS := hS.kept hk
      clear hk
      refine hK _ _ ?_; clear hK K
      refine wl_v (x_move (tmT rfl rfl)) ?_
      refine wl_v (x_ext (tmT rfl rfl) rfl) ?_
      refine wl_v (x_ext (tmT rfl rfl) rfl) ?_
      refine wl_v (x_fa 8 Try.underlying98 rfl rfl ts_26 (tmP rfl rfl)) ?_
      refine wl_e rfl ?_; intro K hK
      refine ow_storeA hS 2 rfl ts_26 (tmP rfl rfl) (tmA rfl rfl) rfl rfl rfl ?_
      clear hS; intro w hS
      try replace hS := St.nm (M' := [.vw _ _, .vw _ _, .blk _ _ [_, _, _, _, _, _, _, _, _, _, _], .blk _ _ [_, _, _, _, _, _, _, _, _, _, _], .vw _ _]) hS rfl
      refine hK _ _ ?_; clear hK K
      refine wl_nil ?_
      refine then_n (hK8 _ _ ?_); clear hK8 K8
      refine wp_seq_k ?_; intro K9 hK9
      refine wp_seq_k ?_; intro K10 hK10
      refine wlit ?_
      refine wl_v (x_fa 2 Try.underlying98 rfl rfl ts_3 (tmP rfl rfl)) ?_
      refine wl_v (x_load Try.underlying3 rfl (tmP rfl rfl) (cellB hS.ok 2 rfl rfl)) ?_
      refine wl_v (x_move (tmS rfl rfl)) ?_
      refine wl_v (x_len Try.underlying22 (tmS rfl rfl)) ?_
      refine wl_v (x_subN (tmI rfl rfl) (ev_cN 40) (fit_i64 (by omega)) (by omega)) ?_
      refine wl_v (x_gtr (tmI rfl rfl) (tmI rfl rfl)) ?_
      refine wl_nil ?_
      refine then_n (hK10 _ _ ?_); clear hK10 K10
      refine cnd (tm rfl) (fun hc2 => ?_) (fun hc2 => ?_)
      · exfalso
        simp only [nrm] at hc2
        omega
      try simp only [nrm] at hc2
      refine wp_skip ?_
      refine then_n (hK9 _ _ ?_); clear hK9 K9
      refine wp_seq_k ?_; intro K11 hK11
      replace hS := hS.cutb 4 40 len rfl (by omega : l.length ≤ c)
      replace hS := hS.pick [4, 3, 0, 5] rfl rfl
      try replace hS := St.nm (M' := [.blk _ _ [_, _, _, _, _, _, _, _, _, _, _], .blk _ _ [_, _, _, _, _, _, _, _, _, _, _], .vw _ _, .vw _ _]) hS rfl
      refine rg_startk 1 hS mixed_ ?_
      clear hS; intro w hS
      refine rg_take 0 rfl rfl (by kernel_rfl) (by kernel_rfl) (by kernel_rfl) (want_0) (fun w hok => x_loadA (cs := [_, _, _, _, _, _, _, _, _, _, _]) Try.underlying98 rfl ts_98 (tmP rfl rfl) (rangeB hok 0 rfl rfl)) ?_
      refine rg_take 2 rfl rfl (by kernel_rfl) (by kernel_rfl) (by kernel_rfl) (want_0) (fun w hok => x_move (tmS rfl rfl)) ?_
      refine rg_take 3 rfl rfl (by kernel_rfl) (by kernel_rfl) (by kernel_rfl) (want_0) (fun w hok => x_fa 2 Try.underlying98 rfl rfl ts_3 (tmP rfl rfl)) ?_
      refine rg_take 4 rfl rfl (by kernel_rfl) (by kernel_rfl) (by kernel_rfl) (want_0) (fun w hok => x_load Try.underlying3 rfl (tmP rfl rfl) (cellB hok 0 rfl rfl)) ?_
      refine rg_take 5 rfl rfl (by kernel_rfl) (by kernel_rfl) (by kernel_rfl) (want_0) (fun w hok => x_addN (ev_cN 40) (tmI rfl rfl) (fit_i64 (by omega))) ?_
      refine rg_take 6 rfl rfl (by kernel_rfl) (by kernel_rfl) (by kernel_rfl) (want_0) (fun w hok => x_sliceLH Try.underlying22 ts_5 (tmS rfl rfl) (ev_cN 40) (tmI rfl rfl) (by omega)) ?_
      refine rg_step 1 rfl (by kernel_rfl) (want_0) (oks_drop hS 1 rfl) ?_; intro K hK
      refine ow_build0 hS Try.underlying22 tz_5 rfl rfl ?_
      clear hS; intro g10_1 w hg10_1 hS
      refine hK _ _ ?_; clear hK K
      refine rg_step 7 rfl (by kernel_rfl) (want_0) (oks_drop hS 2 rfl) ?_; intro K hK
      refine ow_appendV hS 0 rfl (viewV hS.ok 3 rfl) Try.underlying22 tz_5 rfl (tmS rfl rfl) (tmS rfl rfl) (by first | exact u8v_one _ | (intro u hu; simp at hu; first | (rcases hu with rfl | rfl <;> rfl) | (obtain ⟨_, _, rfl⟩ := hu; rfl))) ⟨by decide, by first | rfl | (simp; done) | (simp; omega)⟩ (by simp only [maxLen]; omega) (by omega) ?_; clear hS; intro g10_7 cg10_7 w hAg10_7 hCg10_7 hS
      refine hK _ _ ?_; clear hK K
      refine rg_step 8 rfl (by kernel_rfl) (want_0) (oks_drop hS 2 rfl) ?_; intro K hK
      refine ow_storeA hS 1 rfl ts_98 (tmP rfl rfl) (tmA rfl rfl) rfl rfl rfl ?_
      clear hS; intro w hS
      try replace hS := St.nm (M' := [.row _ _ _ _ _, .blk _ _ [_, _, _, _, _, _, _, _, _, _, _], .blk _ _ [_, _, _, _, _, _, _, _, _, _, _], .vw _ _, .vw _ _]) hS rfl
      refine hK _ _ ?_; clear hK K
      refine rg_take 9 rfl rfl (by kernel_rfl) (by kernel_rfl) (by kernel_rfl) (want_0) (fun w hok => x_assign (tmS rfl rfl)) ?_
      refine rg_take 10 rfl rfl (by kernel_rfl) (by kernel_rfl) (by kernel_rfl) (want_0) (fun w hok => x_assign (ev_cN 0)) ?_
      refine rg_done (oks_drop hS 2 rfl) (by kernel_rfl) ?_
      simp only [List.nil_append, Nat.zero_add] at hS
      refine then_n (hK11 _ _ ?_); clear hK11 K11
      refine wp_ret ?_
      refine ret3 rfl (.cell rfl rfl (load_rowB (cs := [_, _, _, _, _, _, _, _, _, _, _]) hS.ok 1 rfl Try.underlying98 rfl ts_98 rfl)) (.tmp rfl (show _ = Value.slice _ _ _ from rfl)) (.tmp rfl (show _ = Value.int _ _ from rfl)) ?_
      have hcp := row_cap (hS.rowOk 0 rfl) (by decide)
      refine ⟨g10_7, cg10_7, ?_, hS.newv 0 rfl, by omega, hS.kp⟩
      rw [e6, e7, show 0 + (40 + len - 40) = len by omega]
      rfl
    · intro K hK
      refine ow_alloc hS tz_98 rfl ?_
      clear hS; intro g5_30 w hg5_30 hS
      refine hK _ _ ?_; clear hK K
      refine rg_step 21 rfl (by kernel_rfl) (want_0) (oks_drop hS 1 rfl) ?_; intro K hK
      refine ow_call Try.func17 rfl rfl (evs_cons (tmS rfl rfl) <| evs_cons (ev_cN 4) <| evs_cons (ev_cN 2) <| evs_nil) (get_c n _ c l _ _ _ (viewV hS.ok 2 rfl) hl hc hn4 hb (by omega) (by omega)) ?_
      rintro e w ⟨rfl, hk⟩
      refine ⟨_, rfl, ?_⟩
      replace hS := hS.kept hk
      clear hk
      refine hK _ _ ?_; clear hK K
      refine rg_take 22 rfl rfl (by kernel_rfl) (by kernel_rfl) (by kernel_rfl) (want_0) (fun w hok => x_convN Try.underlying24 Try.underlying3 (tmI rfl (congrArg (fun q : Nat => Value.int .u64 (q : Int)) hle)) (fit_i64 (by omega))) ?_
      refine rg_take 29 rfl rfl (by kernel_rfl) (by kernel_rfl) (by kernel_rfl) (want_0) (fun w hok => x_build (bc_take (tmI rfl rfl) <| bc_take (tmI rfl rfl) <| bc_take (tmI rfl rfl) <| bc_take (tmI rfl rfl) <| bc_take (tmI rfl rfl) <| bc_skipL [.bool false, .int .u64 0, .int .u64 0] <| bc_skipL [.bool false, .int .u64 0, .int .u64 0] <| bc_nil) (by kernel_rfl)) ?_
      refine rg_step 31 rfl (by kernel_rfl) (want_0) (oks_drop hS 1 rfl) ?_; intro K hK
      refine ow_storeA hS 0 rfl ts_98 (tmP rfl rfl) (tmA rfl rfl) rfl rfl rfl ?_
      clear hS; intro w hS
      try replace hS := St.nm (M' := [.blk _ _ [_, _, _, _, _, _, _, _, _, _, _], .blk _ _ [_, _, _, _, _, _, _, _, _, _, _], .vw _ _]) hS rfl
      refine hK _ _ ?_; clear hK K
      refine rg_done (oks_drop hS 1 rfl) (by kernel_rfl) ?_
      refine then_n (hK6 _ _ ?_); clear hK6 K6
      refine wp_seq_k ?_; intro K13 hK13
      refine wlit ?_
      refine wl_v (x_move (tmS rfl rfl)) ?_
      refine wl_v (x_sliceLH Try.underlying22 ts_5 (tmS rfl rfl) (ev_cN 8) (ev_cN 24) (by omega)) ?_
      replace hS := hS.cutb 2 8 16 rfl (by omega : l.length ≤ c)
      refine wl_e rfl ?_; intro K hK
      refine ow_call Try.func18 rfl rfl (evs_cons (tmS rfl rfl) <| evs_nil) (rad_of16_c _ _ _ _ (viewV hS.ok 0 rfl) (by rw [List.length_take, List.length_drop]; omega) (by omega) ((hb.drop _).take 16)) ?_
      rintro e w ⟨rfl, hk⟩
      refine ⟨_, rfl, ?_⟩
      replace hS := hS.kept hk
      clear hk
      refine hK _ _ ?_; clear hK K
      refine wl_v (x_move (tmT rfl rfl)) ?_
      refine wl_v (x_ext (tmT rfl rfl) rfl) ?_
      refine wl_v (x_ext (tmT rfl rfl) rfl) ?_
      refine wl_v (x_fa 5 Try.underlying98 rfl rfl ts_26 (tmP rfl rfl)) ?_
      refine wl_e rfl ?_; intro K hK
      refine ow_storeA hS 1 rfl ts_26 (tmP rfl rfl) (tmA rfl rfl) rfl rfl rfl ?_
      clear hS; intro w hS
      try replace hS := St.nm (M' := [.vw _ _, .blk _ _ [_, _, _, _, _, _, _, _, _, _, _], .blk _ _ [_, _, _, _, _, _, _, _, _, _, _], .vw _ _]) hS rfl
      refine hK _ _ ?_; clear hK K
      refine wl_nil ?_
      refine then_n (hK13 _ _ ?_); clear hK13 K13
      refine wp_seq_k ?_; intro K14 hK14
      refine wlit ?_
      refine wl_v (x_move (tmS rfl rfl)) ?_
      refine wl_v (x_sliceLH Try.underlying22 ts_5 (tmS rfl rfl) (ev_cN 24) (ev_cN 40) (by omega)) ?_
      replace hS := hS.cutb 3 24 16 rfl (by omega : l.length ≤ c)
      refine wl_e rfl ?_; intro K hK
      refine ow_call Try.func18 rfl rfl (evs_cons (tmS rfl rfl) <| evs_nil) (rad_of16_c _ _ _ _ (viewV hS.ok 0 rfl) (by rw [List.length_take, List.length_drop]; omega) (by omega) ((hb.drop _).take 16)) ?_
      rintro e w ⟨rfl, hk⟩
      refine ⟨_, rfl, ?_⟩
      replace hS := hS.kept hk
      clear hk
      refine hK _ _ ?_; clear hK K
      refine wl_v (x_move (tmT rfl rfl)) ?_
      refine wl_v (x_ext (tmT rfl rfl) rfl) ?_
      refine wl_v (x_ext (tmT rfl rfl) rfl) ?_
      refine wl_v (x_fa 8 Try.underlying98 rfl rfl ts_26 (tmP rfl rfl)) ?_
      refine wl_e rfl ?_; intro K hK
      refine ow_storeA hS 2 rfl ts_26 (tmP rfl rfl) (tmA rfl rfl) rfl rfl rfl ?_
      clear hS; intro w hS
      try replace hS := St.nm (M' := [.vw _ _, .vw _ _, .blk _ _ [_, _, _, _, _, _, _, _, _, _, _], .blk _ _ [_, _, _, _, _, _, _, _, _, _, _], .vw _ _]) hS rfl
      refine hK _ _ ?_; clear hK K
      refine wl_nil ?_
      refine then_n (hK14 _ _ ?_); clear hK14 K14
      refine wp_seq_k ?_; intro K15 hK15
      refine wp_seq_k ?_; intro K16 hK16
      refine wlit ?_
      refine wl_v (x_fa 2 Try.underlying98 rfl rfl ts_3 (tmP rfl rfl)) ?_
      refine wl_v (x_load Try.underlying3 rfl (tmP rfl rfl) (cellB hS.ok 2 rfl rfl)) ?_
      refine wl_v (x_move (tmS rfl rfl)) ?_
      refine wl_v (x_len Try.underlying22 (tmS rfl rfl)) ?_
      refine wl_v (x_subN (tmI rfl rfl) (ev_cN 40) (fit_i64 (by omega)) (by omega)) ?_
      refine wl_v (x_gtr (tmI rfl rfl) (tmI rfl rfl)) ?_
      refine wl_nil ?_
      refine then_n (hK16 _ _ ?_); clear hK16 K16
      refine cnd (tm rfl) (fun hc2 => ?_) (fun hc2 => ?_)
      · exfalso
        simp only [nrm] at hc2
        omega
      try simp only [nrm] at hc2
      refine wp_skip ?_
      refine then_n (hK15 _ _ ?_); clear hK15 K15
      refine wp_seq_k ?_; intro K17 hK17
      replace hS := hS.cutb 4 40 len rfl (by omega : l.length ≤ c)
      replace hS := hS.pick [4, 3, 0, 5] rfl rfl
      try replace hS := St.nm (M' := [.blk _ _ [_, _, _, _, _, _, _, _, _, _, _], .blk _ _ [_, _, _, _, _, _, _, _, _, _, _], .vw _ _, .vw _ _]) hS rfl
      refine rg_startk 1 hS mixed_ ?_
      clear hS; intro w hS
      refine rg_take 0 rfl rfl (by kernel_rfl) (by kernel_rfl) (by kernel_rfl) (want_0) (fun w hok => x_loadA (cs := [_, _, _, _, _, _, _, _, _, _, _]) Try.underlying98 rfl ts_98 (tmP rfl rfl) (rangeB hok 0 rfl rfl)) ?_
      refine rg_take 2 rfl rfl (by kernel_rfl) (by kernel_rfl) (by kernel_rfl) (want_0) (fun w hok => x_move (tmS rfl rfl)) ?_
      refine rg_take 3 rfl rfl (by kernel_rfl) (by kernel_rfl) (by kernel_rfl) (want_0) (fun w hok => x_fa 2 Try.underlying98 rfl rfl ts_3 (tmP rfl rfl)) ?_
      refine rg_take 4 rfl rfl (by kernel_rfl) (by kernel_rfl) (by kernel_rfl) (want_0) (fun w hok => x_load Try.underlying3 rfl (tmP rfl rfl) (cellB hok 0 rfl rfl)) ?_
      refine rg_take 5 rfl rfl (by kernel_rfl) (by kernel_rfl) (by kernel_rfl) (want_0) (fun w hok => x_addN (ev_cN 40) (tmI rfl rfl) (fit_i64 (by omega))) ?_
      refine rg_take 6 rfl rfl (by kernel_rfl) (by kernel_rfl) (by kernel_rfl) (want_0) (fun w hok => x_sliceLH Try.underlying22 ts_5 (tmS rfl rfl) (ev_cN 40) (tmI rfl rfl) (by omega)) ?_
      refine rg_step 1 rfl (by kernel_rfl) (want_0) (oks_drop hS 1 rfl) ?_; intro K hK
      refine ow_build0 hS Try.underlying22 tz_5 rfl rfl ?_
      clear hS; intro g10_1 w hg10_1 hS
      refine hK _ _ ?_; clear hK K
      refine rg_step 7 rfl (by kernel_rfl) (want_0) (oks_drop hS 2 rfl) ?_; intro K hK
      refine ow_appendV hS 0 rfl (viewV hS.ok 3 rfl) Try.underlying22 tz_5 rfl (tmS rfl rfl) (tmS rfl rfl) (by first | exact u8v_one _ | (intro u hu; simp at hu; first | (rcases hu with rfl | rfl <;> rfl) | (obtain ⟨_, _, rfl⟩ := hu; rfl))) ⟨by decide, by first | rfl | (simp; done) | (simp; omega)⟩ (by simp only [maxLen]; omega) (by omega) ?_; clear hS; intro g10_7 cg10_7 w hAg10_7 hCg10_7 hS
      refine hK _ _ ?_; clear hK K
      refine rg_step 8 rfl (by kernel_rfl) (want_0) (oks_drop hS 2 rfl) ?_; intro K hK
      refine ow_storeA hS 1 rfl ts_98 (tmP rfl rfl) (tmA rfl rfl) rfl rfl rfl ?_
      clear hS; intro w hS
      try replace hS := St.nm (M' := [.row _ _ _ _ _, .blk _ _ [_, _, _, _, _, _, _, _, _, _, _], .blk _ _ [_, _, _, _, _, _, _, _, _, _, _], .vw _ _, .vw _ _]) hS rfl
      refine hK _ _ ?_; clear hK K
      refine rg_take 9 rfl rfl (by kernel_rfl) (by kernel_rfl) (by kernel_rfl) (want_0) (fun w hok => x_assign (tmS rfl rfl)) ?_
      refine rg_take 10 rfl rfl (by kernel_rfl) (by kernel_rfl) (by kernel_rfl) (want_0) (fun w hok => x_assign (ev_cN 0)) ?_
      refine rg_done (oks_drop hS 2 rfl) (by kernel_rfl) ?_
      simp only [List.nil_append, Nat.zero_add] at hS
      refine then_n (hK17 _ _ ?_); clear hK17 K17
      refine wp_ret ?_
      refine ret3 rfl (.cell rfl rfl (load_rowB (cs := [_, _, _, _, _, _, _, _, _, _, _]) hS.ok 1 rfl Try.underlying98 rfl ts_98 rfl)) (.tmp rfl (show _ = Value.slice _ _ _ from rfl)) (.tmp rfl (show _ = Value.int _ _ from rfl)) ?_
      have hcp := row_cap (hS.rowOk 0 rfl) (by decide)
      refine ⟨g10_7, cg10_7, ?_, hS.newv 0 rfl, by omega, hS.kp⟩
      rw [e6, e7, show 0 + (40 + len - 40) = len by omega]
      rfl
  · intro K hK
    refine ow_alloc hS tz_98 rfl ?_
    clear hS; intro g5_30 w hg5_30 hS
    refine hK _ _ ?_; clear hK K
    refine rg_step 17 rfl (by kernel_rfl) (want_0) (oks_drop hS 1 rfl) ?_; intro K hK
    refine ow_call Try.func17 rfl rfl (evs_cons (tmS rfl rfl) <| evs_cons (ev_cN 2) <| evs_cons (ev_cN 2) <| evs_nil) (get_c n _ c l _ _ _ (viewV hS.ok 2 rfl) hl hc hn4 hb (by omega) (by omega)) ?_
    rintro e w ⟨rfl, hk⟩
    refine ⟨_, rfl, ?_⟩
    replace hS := hS.kept hk
    clear hk
    refine hK _ _ ?_; clear hK K
    refine rg_take 18 rfl rfl (by kernel_rfl) (by kernel_rfl) (by kernel_rfl) (want_0) (fun w hok => x_convN Try.underlying24 Try.underlying30 (tmI rfl rfl) (fit_u32 (by omega))) ?_
    refine rg_take 19 rfl rfl (by kernel_rfl) (by kernel_rfl) (by kernel_rfl) (want_0) (fun w hok => x_addN (tmI rfl rfl) (tmI rfl rfl) (fit_u32 (by omega))) ?_
    refine rg_step 21 rfl (by kernel_rfl) (want_0) (oks_drop hS 1 rfl) ?_; intro K hK
    refine ow_call Try.func17 rfl rfl (evs_cons (tmS rfl rfl) <| evs_cons (ev_cN 4) <| evs_cons (ev_cN 2) <| evs_nil) (get_c n _ c l _ _ _ (viewV hS.ok 2 rfl) hl hc hn4 hb (by omega) (by omega)) ?_
    rintro e w ⟨rfl, hk⟩
    refine ⟨_, rfl, ?_⟩
    replace hS := hS.kept hk
    clear hk
    refine hK _ _ ?_; clear hK K
    refine rg_take 22 rfl rfl (by kernel_rfl) (by kernel_rfl) (by kernel_rfl) (want_0) (fun w hok => x_convN Try.underlying24 Try.underlying3 (tmI rfl (congrArg (fun q : Nat => Value.int .u64 (q : Int)) hle)) (fit_i64 (by omega))) ?_
    refine rg_take 29 rfl rfl (by kernel_rfl) (by kernel_rfl) (by kernel_rfl) (want_0) (fun w hok => x_build (bc_take (tmI rfl rfl) <| bc_take (tmI rfl rfl) <| bc_take (tmI rfl rfl) <| bc_take (tmI rfl rfl) <| bc_take (tmI rfl rfl) <| bc_skipL [.bool false, .int .u64 0, .int .u64 0] <| bc_skipL [.bool false, .int .u64 0, .int .u64 0] <| bc_nil) (by kernel_rfl)) ?_
    refine rg_step 31 rfl (by kernel_rfl) (want_0) (oks_drop hS 1 rfl) ?_; intro K hK
    refine ow_storeA hS 0 rfl ts_98 (tmP rfl rfl) (tmA rfl rfl) rfl rfl rfl ?_
    clear hS; intro w hS
    try replace hS := St.nm (M' := [.blk _ _ [_, _, _, _, _, _, _, _, _, _, _], .blk _ _ [_, _, _, _, _, _, _, _, _, _, _], .vw _ _]) hS rfl
    refine hK _ _ ?_; clear hK K
    refine rg_done (oks_drop hS 1 rfl) (by kernel_rfl) ?_
    refine then_n (hK6 _ _ ?_); clear hK6 K6
    refine wp_seq_k ?_; intro K19 hK19
    refine wlit ?_
    refine wl_v (x_move (tmS rfl rfl)) ?_
    refine wl_v (x_sliceLH Try.underlying22 ts_5 (tmS rfl rfl) (ev_cN 8) (ev_cN 24) (by omega)) ?_
    replace hS := hS.cutb 2 8 16 rfl (by omega : l.length ≤ c)
    refine wl_e rfl ?_; intro K hK
    refine ow_call Try.func18 rfl rfl (evs_cons (tmS rfl rfl) <| evs_nil) (rad_of16_c _ _ _ _ (viewV hS.ok 0 rfl) (by rw [List.length_take, List.length_drop]; omega) (by omega) ((hb.drop _).take 16)) ?_
    rintro e w ⟨rfl, hk⟩
    refine ⟨_, rfl, ?_⟩
    replace hS := hS.kept hk
    clear hk
    refine hK _ _ ?_; clear hK K
    refine wl_v (x_move (tmT rfl rfl)) ?_
    refine wl_v (x_ext (tmT rfl rfl) rfl) ?_
    refine wl_v (x_ext (tmT rfl rfl) rfl) ?_
    refine wl_v (x_fa 5 Try.underlying98 rfl rfl ts_26 (tmP rfl rfl)) ?_
    refine wl_e rfl ?_; intro K hK
    refine ow_storeA hS 1 rfl ts_26 (tmP rfl rfl) (tmA rfl rfl) rfl rfl rfl ?_
    clear hS; intro w hS
    try replace hS := St.nm (M' := [.vw _ _, .blk _ _ [_, _, _, _, _, _, _, _, _, _, _], .blk _ _ [_, _, _, _, _, _, _, _, _, _, _], .vw _ _]) hS rfl
    refine hK _ _ ?_; clear hK K
    refine wl_nil ?_
    refine then_n (hK19 _ _ ?_); clear hK19 K19
    refine wp_seq_k ?_; intro K20 hK20
    refine wlit ?_
    refine wl_v (x_move (tmS rfl rfl)) ?_
    refine wl_v (x_sliceLH Try.underlying22 ts_5 (tmS rfl rfl) (ev_cN 24) (ev_cN 40) (by omega)) ?_
    replace hS := hS.cutb 3 24 16 rfl (by omega : l.length ≤ c)
    refine wl_e rfl ?_; intro K hK
    refine ow_call Try.func18 rfl rfl (evs_cons (tmS rfl rfl) <| evs_nil) (rad_of16_c _ _ _ _ (viewV hS.ok 0 rfl) (by rw [List.length_take, List.length_drop]; omega) (by omega) ((hb.drop _).take 16)) ?_
    rintro e w ⟨rfl, hk⟩
    refine ⟨_, rfl, ?_⟩
    replace hS := hS.kept hk
    clear hk
    refine hK _ _ ?_; clear hK K
    refine wl_v (x_move (tmT rfl rfl)) ?_
    refine wl_v (x_ext (tmT rfl rfl) rfl) ?_
    refine wl_v (x_ext (tmT rfl rfl) rfl) ?_
    refine wl_v (x_fa 8 Try.underlying98 rfl rfl ts_26 (tmP rfl rfl)) ?_
    refine wl_e rfl ?_; intro K hK
    refine ow_storeA hS 2 rfl ts_26 (tmP rfl rfl) (tmA rfl rfl) rfl rfl rfl ?_
    clear hS; intro w hS
    try replace hS := St.nm (M' := [.vw _ _, .vw _ _, .blk _ _ [_, _, _, _, _, _, _, _, _, _, _], .blk _ _ [_, _, _, _, _, _, _, _, _, _, _], .vw _ _]) hS rfl
    refine hK _ _ ?_; clear hK K
    refine wl_nil ?_
    refine then_n (hK20 _ _ ?_); clear hK20 K20
    refine wp_seq_k ?_; intro K21 hK21
    refine wp_seq_k ?_; intro K22 hK22
    refine wlit ?_
    refine wl_v (x_fa 2 Try.underlying98 rfl rfl ts_3 (tmP rfl rfl)) ?_
    refine wl_v (x_load Try.underlying3 rfl (tmP rfl rfl) (cellB hS.ok 2 rfl rfl)) ?_
    refine wl_v (x_move (tmS rfl rfl)) ?_
    refine wl_v (x_len Try.underlying22 (tmS rfl rfl)) ?_
    refine wl_v (x_subN (tmI rfl rfl) (ev_cN 40) (fit_i64 (by omega)) (by omega)) ?_
    refine wl_v (x_gtr (tmI rfl rfl) (tmI rfl rfl)) ?_
    refine wl_nil ?_
    refine then_n (hK22 _ _ ?_); clear hK22 K22
    refine cnd (tm rfl) (fun hc2 => ?_) (fun hc2 => ?_)
    · exfalso
      simp only [nrm] at hc2
      omega
    try simp only [nrm] at hc2
    refine wp_skip ?_
    refine then_n (hK21 _ _ ?_); clear hK21 K21
    refine wp_seq_k ?_; intro K23 hK23
    replace hS := hS.cutb 4 40 len rfl (by omega : l.length ≤ c)
    replace hS := hS.pick [4, 3, 0, 5] rfl rfl
    try replace hS := St.nm (M' := [.blk _ _ [_, _, _, _, _, _, _, _, _, _, _], .blk _ _ [_, _, _, _, _, _, _, _, _, _, _], .vw _ _, .vw _ _]) hS rfl
    refine rg_startk 1 hS mixed_ ?_
    clear hS; intro w hS
    refine rg_take 0 rfl rfl (by kernel_rfl) (by kernel_rfl) (by kernel_rfl) (want_0) (fun w hok => x_loadA (cs := [_, _, _, _, _, _, _, _, _, _, _]) Try.underlying98 rfl ts_98 (tmP rfl rfl) (rangeB hok 0 rfl rfl)) ?_
    refine rg_take 2 rfl rfl (by kernel_rfl) (by kernel_rfl) (by kernel_rfl) (want_0) (fun w hok => x_move (tmS rfl rfl)) ?_
    refine rg_take 3 rfl rfl (by kernel_rfl) (by kernel_rfl) (by kernel_rfl) (want_0) (fun w hok => x_fa 2 Try.underlying98 rfl rfl ts_3 (tmP rfl rfl)) ?_
    refine rg_take 4 rfl rfl (by kernel_rfl) (by kernel_rfl) (by kernel_rfl) (want_0) (fun w hok => x_load Try.underlying3 rfl (tmP rfl rfl) (cellB hok 0 rfl rfl)) ?_
    refine rg_take 5 rfl rfl (by kernel_rfl) (by kernel_rfl) (by kernel_rfl) (want_0) (fun w hok => x_addN (ev_cN 40) (tmI rfl rfl) (fit_i64 (by omega))) ?_
    refine rg_take 6 rfl rfl (by kernel_rfl) (by kernel_rfl) (by kernel_rfl) (want_0) (fun w hok => x_sliceLH Try.underlying22 ts_5 (tmS rfl rfl) (ev_cN 40) (tmI rfl rfl) (by omega)) ?_
    refine rg_step 1 rfl (by kernel_rfl) (want_0) (oks_drop hS 1 rfl) ?_; intro K hK
    refine ow_build0 hS Try.underlying22 tz_5 rfl rfl ?_
    clear hS; intro g10_1 w hg10_1 hS
    refine hK _ _ ?_; clear hK K
    refine rg_step 7 rfl (by kernel_rfl) (want_0) (oks_drop hS 2 rfl) ?_; intro K hK
    refine ow_appendV hS 0 rfl (viewV hS.ok 3 rfl) Try.underlying22 tz_5 rfl (tmS rfl rfl) (tmS rfl rfl) (by first | exact u8v_one _ | (intro u hu; simp at hu; first | (rcases hu with rfl | rfl <;> rfl) | (obtain ⟨_, _, rfl⟩ := hu; rfl))) ⟨by decide, by first | rfl | (simp; done) | (simp; omega)⟩ (by simp only [maxLen]; omega) (by omega) ?_; clear hS; intro g10_7 cg10_7 w hAg10_7 hCg10_7 hS
    refine hK _ _ ?_; clear hK K
    refine rg_step 8 rfl (by kernel_rfl) (want_0) (oks_drop hS 2 rfl) ?_; intro K hK
    refine ow_storeA hS 1 rfl ts_98 (tmP rfl rfl) (tmA rfl rfl) rfl rfl rfl ?_
    clear hS; intro w hS
    try replace hS := St.nm (M' := [.row _ _ _ _ _, .blk _ _ [_, _, _, _, _, _, _, _, _, _, _], .blk _ _ [_, _, _, _, _, _, _, _, _, _, _], .vw _ _, .vw _ _]) hS rfl
    refine hK _ _ ?_; clear hK K
    refine rg_take 9 rfl rfl (by kernel_rfl) (by kernel_rfl) (by kernel_rfl) (want_0) (fun w hok => x_assign (tmS rfl rfl)) ?_
    refine rg_take 10 rfl rfl (by kernel_rfl) (by kernel_rfl) (by kernel_rfl) (want_0) (fun w hok => x_assign (ev_cN 0)) ?_
    refine rg_done (oks_drop hS 2 rfl) (by kernel_rfl) ?_
    simp only [List.nil_append, Nat.zero_add] at hS
    refine then_n (hK23 _ _ ?_); clear hK23 K23
    refine wp_ret ?_
    refine ret3 rfl (.cell rfl rfl (load_rowB (cs := [_, _, _, _, _, _, _, _, _, _, _]) hS.ok 1 rfl Try.underlying98 rfl ts_98 rfl)) (.tmp rfl (show _ = Value.slice _ _ _ from rfl)) (.tmp rfl (show _ = Value.int _ _ from rfl)) ?_
    have hcp := row_cap (hS.rowOk 0 rfl) (by decide)
    refine ⟨g10_7, cg10_7, ?_, hS.newv 0 rfl, by omega, hS.kp⟩
    rw [e6, e7, show 0 + (40 + len - 40) = len by omega]
    rfl
/-- What a Parse answers: its header, with options o, and whatever load. -/
def PartsK (fn : Nat) (l : List Nat) (H : Option Addr → Nat → List Value) (o x : List Nat) (er : Nat) : Prop := ∀ (w : World) (A : Option Addr) (c : Nat), View w w.heap.size A (l.map u8v) → l.length ≤ c →
  Calls Try.prog fn #[.slice A l.length c] w fun e w' => ∃ (O : Option Addr) (co : Nat) (L : Option Addr) (k c' : Nat), k = x.length ∧ k ≤ c' ∧ e = .returned (.tuple #[.agg (H O co).toArray, .slice L k c', .int .i64 (er : Int)]) ∧ NewV w w' O (o.map u8v) ∧ NewV w w' L (x.map u8v) ∧ Kp [] w w'
theorem k4_ex (l : List Nat) (hb : Bytes l) (hn : l.length ≤ 3000) : ∃ (tos : Nat) (len : Int) (id : Nat) (stay more : Bool) (off ttl pr sum : Nat) (s d : Ad) (o x : List Nat) (er : Nat), tos < 256 ∧ id < 65536 ∧ ttl < 256 ∧ pr < 256 ∧ off < 8192 ∧ Bytes o ∧ o.length ≤ 100 ∧ Bytes x ∧ x.length ≤ 3000 ∧ er < 100 ∧ s.six = d.six ∧ adLim s ∧ adLim d ∧ (er = 0 → sixN l = 4) ∧ (er = 0 → ∃ sz len, Ip4Form l l.length sz len ∧ len ≤ l.length ∧ s = src4 l ∧ d = dst4 l ∧ pr = nth l 9 ∧ x = (l.drop sz).take (len - sz) ∧ (more = false → off = 0 → getN l 6 2 % 16384 = 0)) ∧
    PartsK 64 l (fun O c => hdV tos len id stay more (off : Int) ttl pr sum s d O o.length c) o x er ∧ PartsK 38 l (fun O c => hdV tos len id stay more (off : Int) ttl pr sum s d O o.length c) o x er := by
  rcases ip4_all l l.length with ⟨sz, len, hf, hle, hs⟩ | ⟨er, hbad⟩
  · have hsl := hf.szlen
    have h20 := hf.n20
    have hs20 := hf.sz20
    have hsz := hf.size
    have hlx : ((l.drop sz).take (len - sz)).length = len - sz := by rw [List.length_take, List.length_drop]; omega
    have hlo : ((l.drop 20).take (sz - 20)).length = sz - 20 := by rw [List.length_take, List.length_drop]; omega
    have b1 : getN l 1 1 < 256 := getN_lt hb 1 1
    have b4 : getN l 4 2 < 65536 := getN_lt hb 4 2
    have b8 : getN l 8 1 < 256 := getN_lt hb 8 1
    have b9 : getN l 9 1 < 256 := getN_lt hb 9 1
    have b12 := getN_lt hb 12 4
    have b16 := getN_lt hb 16 4
    refine ⟨getN l 1 1, len, getN l 4 2, decide (getN l 6 2 / 2 ^ 14 % 2 = 1), decide (getN l 6 2 / 2 ^ 13 % 2 = 1), getN l 6 2 % 8192, getN l 8 1, getN l 9 1, getN l 10 2, ⟨false, 0, getN l 12 4⟩, ⟨false, 0, getN l 16 4⟩, (l.drop 20).take (sz - 20), (l.drop sz).take (len - sz), 0, b1, b4, b8, b9, by omega, (hb.drop _).take _, by rw [hlo]; omega, (hb.drop _).take _, by rw [hlx]; omega, by omega, rfl, ⟨Nat.zero_le _, by show getN l 12 4 ≤ _; omega⟩, ⟨Nat.zero_le _, by show getN l 16 4 ≤ _; omega⟩, fun _ => ?_, fun _ => ⟨sz, len, hf, hle, rfl, rfl, getN_one (by omega), rfl, fun hm ho => by have := of_decide_eq_false hm; omega⟩, fun w A c hv hc => ?_, fun w A c hv hc => ?_⟩
    · unfold sixN
      rw [if_neg (by omega), if_pos hf.four]
    · exact Calls.mono (ip4_parse_c l.length A c l w hv rfl hc hb (by omega) sz len hf hle hs) fun e w' ⟨O, L, h1, h2, h3, h4⟩ => ⟨O, sz - 20, L, len - sz, len - sz, hlx.symm, Nat.le_refl _, by rw [hlo]; exact h1, h2, h3, h4⟩
    · exact Calls.mono (rip4_parse_k l.length A c l w hv rfl hc hb (by omega) sz len hf hle hs) fun e w' ⟨O, co, L, cl, h1, h2, h3, h5, h4⟩ => ⟨O, co, L, len - sz, cl, hlx.symm, h5, by rw [hlo]; exact h1, h2, h3, h4⟩
  · have her : er < 100 ∧ er ≠ 0 := by cases hbad <;> omega
    refine ⟨0, 0, 0, false, false, 0, 0, 0, 0, ad0, ad0, [], [], er, by omega, by omega, by omega, by omega, by omega, Bytes.nil, by simp, Bytes.nil, by simp, her.1, rfl, ⟨Nat.zero_le _, Nat.zero_le _⟩, ⟨Nat.zero_le _, Nat.zero_le _⟩, fun h => absurd h her.2, fun h => absurd h her.2, fun w A c hv hc => ?_, fun w A c hv hc => ?_⟩
    · exact Calls.mono (ip4_parse_bad l.length A c l w hv rfl hc hb (by omega) er hbad) fun e w' ⟨h1, h3⟩ => ⟨none, 0, none, 0, 0, rfl, Nat.le_refl _, h1, newV_nil w w', newV_nil w w', h3⟩
    · exact Calls.mono (rip4_parse_bad l.length A c l w hv rfl hc hb (by omega) er hbad) fun e w' ⟨h1, h3⟩ => ⟨none, 0, none, 0, 0, rfl, Nat.le_refl _, h1, newV_nil w w', newV_nil w w', h3⟩
theorem k6_ex (l : List Nat) (hb : Bytes l) (hn : l.length ≤ 3000) (h6 : nth l 0 / 16 = 6) : ∃ (cl lb : Nat) (len : Int) (pr ttl : Nat) (s d : Ad) (x : List Nat) (er : Nat), cl < 256 ∧ pr < 256 ∧ ttl < 256 ∧ s.six = d.six ∧ adLim s ∧ adLim d ∧ Bytes x ∧ x.length ≤ 3000 ∧ er < 100 ∧ (er = 0 → 40 ≤ l.length ∧ s = src6 l ∧ d = dst6 l ∧ pr = nth l 6 ∧ ∃ len, x = (l.drop 40).take len) ∧
    PartsK 63 l (fun _ _ => hd6V cl lb len pr ttl s d) [] x er ∧ PartsK 36 l (fun _ _ => hd6V cl lb len pr ttl s d) [] x er := by
  rcases ip6_all l hb h6 with ⟨len, hf⟩ | hbad
  · have hlx : ((l.drop 40).take len).length = len := by rw [List.length_take, List.length_drop]; have := hf.room; have := hf.n40; omega
    have b6 : getN l 6 1 < 256 := getN_lt hb 6 1
    have b7 : getN l 7 1 < 256 := getN_lt hb 7 1
    have hro := hf.room
    have h40 := hf.n40
    obtain ⟨f1, f2⟩ := first4 (l := l) (by omega)
    have n0 := nth_lt hb 0
    have n1 := nth_lt hb 1
    have n2 := nth_lt hb 2
    have n3 := nth_lt hb 3
    have e1 : l.getD 0 0 % 16 * 16 + l.getD 1 0 / 16 = getN l 0 4 / 2 ^ 20 % 256 := by
      show nth l 0 % 16 * 16 + nth l 1 / 16 = _
      omega
    have e2 : l.getD 1 0 % 16 * 65536 + getN l 2 2 = getN l 0 4 % 1048576 := by
      show nth l 1 % 16 * 65536 + _ = _
      omega
    refine ⟨getN l 0 4 / 2 ^ 20 % 256, getN l 0 4 % 1048576, len, getN l 6 1, getN l 7 1, ad6 l 8, ad6 l 24, (l.drop 40).take len, 0, by omega, b6, b7, rfl, adLim6 hb 8, adLim6 hb 24, (hb.drop _).take _, by rw [hlx]; omega, by omega, fun _ => ⟨h40, six_ad l 8, six_ad l 24, getN_one (by omega), len, rfl⟩, fun w A c hv hc => ?_, fun w A c hv hc => ?_⟩
    · exact Calls.mono (ip6_parse_c l.length A c l w hv rfl hc hb (by omega) len hf) fun e w' ⟨L, h1, h2, h3⟩ => ⟨none, 0, L, len, len, hlx.symm, Nat.le_refl _, h1, newV_nil w w', h2, h3⟩
    · exact Calls.mono (rip6_parse_k l.length A c l w hv rfl hc hb (by omega) len hf) fun e w' ⟨L, cc, h1, h2, h5, h3⟩ => ⟨none, 0, L, len, cc, hlx.symm, h5, by rw [← e1, ← e2]; exact h1, newV_nil w w', h2, h3⟩
  · refine ⟨0, 0, 0, 0, 0, ad0_, ad0_, [], 20, by omega, by omega, by omega, rfl, ⟨Nat.zero_le _, Nat.zero_le _⟩, ⟨Nat.zero_le _, Nat.zero_le _⟩, Bytes.nil, by simp, by omega, fun h => absurd h (by omega), fun w A c hv hc => ?_, fun w A c hv hc => ?_⟩
    · exact Calls.mono (ip6_parse_bad l.length A c l w hv rfl hc hb (by omega) hbad) fun e w' ⟨h1, h3⟩ => ⟨none, 0, none, 0, 0, rfl, Nat.le_refl _, h1, newV_nil w w', newV_nil w w', h3⟩
    · exact Calls.mono (rip6_parse_bad l.length A c l w hv rfl hc hb (by omega) hbad) fun e w' ⟨h1, h3⟩ => ⟨none, 0, none, 0, 0, rfl, Nat.le_refl _, h1, newV_nil w w', newV_nil w w', h3⟩
def mkI (six stay : Bool) (ttl : Nat) (s d : Ad) (pr : Nat) : Inf := ⟨six, stay, ttl, s, d, 0, 0, pr, Sg.Z, Dg.Z, Mg.Z⟩
theorem pkOf_ne {er : Nat} (h : er ≠ 0) : pkOf (er : Int) ≠ 0 := by
  unfold pkOf
  rw [if_neg (by omega)]
  (repeat' split) <;> decide
/-- What a header answers. -/
def HdP (fn : Nat) (l : List Nat) (i : Inf) (x : List Nat) (why : Int) : Prop := ∀ (w : World) (A : Option Addr) (c : Nat), View w w.heap.size A (l.map u8v) → l.length ≤ c →
  Calls Try.prog fn #[.slice A l.length c] w fun e w' => ∃ (i0 : Inf) (x0 : List Nat) (L : Option Addr) (cl : Nat), (why = 0 → i0 = i ∧ x0 = x) ∧ x0.length ≤ cl ∧ e = .returned (.tuple #[.agg (i0.V Pl.Z).toArray, .slice L x0.length cl, .int .i64 why]) ∧ NewV w w' L (x0.map u8v) ∧ Kp [] w w'
set_option maxRecDepth 100000 in
set_option maxHeartbeats 8000000 in
theorem header_bad (l : List Nat) (hb : Bytes l) (hn : l.length ≤ 3000) (i : Inf) (x : List Nat) (why : Int) (h0 : sixE l ≠ 0) (hw : why = pkOf (sixE l : Int)) : HdP 44 l i x why := fun w0 A c hv hc => by
  have hS := (St.sv w0).vcons rfl hv
  have hne := pkOf_ne h0
  refine ent (n := 71) Try.func44 rfl rfl ?_
  refine wp_seq_k ?_; intro K1 hK1
  refine wlit ?_
  refine wl_e rfl ?_; intro K hK
  refine ow_alloc hS tz_53 rfl ?_
  clear hS; intro g0_0 w hg0_0 hS
  refine hK _ _ ?_; clear hK K
  refine wl_v (x_assign ev_c) ?_
  refine wl_v (x_assign (ev_cN 0)) ?_
  refine wl_nil ?_
  refine then_n (hK1 _ _ ?_); clear hK1 K1
  refine wp_seq_k ?_; intro K2 hK2
  refine wlit ?_
  refine wl_v (x_move (tmS rfl rfl)) ?_
  refine wl_e rfl ?_; intro K hK
  refine ow_call Try.func61 rfl rfl (evs_cons (tmS rfl rfl) <| evs_nil) (six_c l.length A c l _ (viewV hS.ok 1 rfl) rfl hb (by omega)) ?_
  rintro e w ⟨rfl, hk⟩
  refine ⟨_, rfl, ?_⟩
  replace hS := hS.kept hk
  clear hk
  refine hK _ _ ?_; clear hK K
  refine wl_v (x_move (tmT rfl rfl)) ?_
  refine wl_v (x_ext (tmT rfl rfl) rfl) ?_
  refine wl_v (x_ext (tmT rfl rfl) rfl) ?_
  refine wl_v (x_assign (tmB rfl rfl)) ?_
  refine wl_v (x_assign (tmI rfl rfl)) ?_
  refine wl_nil ?_
  refine then_n (hK2 _ _ ?_); clear hK2 K2
  refine wp_seq_k ?_; intro K3 hK3
  refine wp_seq_k ?_; intro K4 hK4
  refine wlit ?_
  refine wl_v (x_move (tmI rfl rfl)) ?_
  refine wl_v (x_neq (tmI rfl rfl) (ev_cN 0)) ?_
  refine wl_nil ?_
  refine then_n (hK4 _ _ ?_); clear hK4 K4
  refine cnds (tm rfl) (fun hc0 => ?_) (fun hc0 => ?_)
  · exfalso
    first | omega | (simp at hc0; omega)
  try simp only [nrm] at hc0
  refine wp_seq_k ?_; intro K5 hK5
  refine wlit ?_
  refine wl_v (x_build (bc_skip (.bool false) <| bc_skip (.bool false) <| bc_skip (.int .u8 0) <| bc_skipL [.bool false, .int .u64 0, .int .u64 0, .bool false, .int .u64 0, .int .u64 0, .int .u16 0, .int .u16 0, .int .u8 0] <| bc_skipL [.int .u16 0, .int .u16 0, .int .u32 0, .int .u32 0, .int .u8 0, .int .u16 0, .int .u16 0, .int .u16 0, .slice none 0 0, .slice none 0 0] <| bc_skipL [.int .u16 0, .int .u16 0, .int .u16 0, .slice none 0 0] <| bc_skipL [.int .u8 0, .int .u8 0, .int .u16 0, .int .u32 0, .slice none 0 0] <| bc_nil) (by kernel_rfl)) ?_
  refine wl_v (x_move (tmI rfl rfl)) ?_
  refine wl_e rfl ?_; intro K hK
  refine ow_call Try.func62 rfl rfl (evs_cons (tmI rfl rfl) <| evs_nil) (of_c (sixE l : Int) _) ?_
  rintro e w ⟨rfl, hk⟩
  refine ⟨_, rfl, ?_⟩
  replace hS := hS.kept hk
  clear hk
  refine hK _ _ ?_; clear hK K
  refine wl_e rfl ?_; intro K hK
  refine ow_storeA hS 0 rfl ts_53 (tmP rfl rfl) (tmA rfl rfl) rfl rfl rfl ?_
  clear hS; intro w hS
  try replace hS := St.nm (M' := [.blk _ _ [_, _, _, _, _, _, _, _, _, _, _, _, _, _, _, _, _, _, _, _, _, _, _, _, _, _, _, _, _, _, _], .vw _ _]) hS rfl
  refine hK _ _ ?_; clear hK K
  refine wl_v (x_assign ev_c) ?_
  refine wl_v (x_assign (tmI rfl rfl)) ?_
  refine wl_nil ?_
  refine then_n (hK5 _ _ ?_); clear hK5 K5
  refine wp_ret ?_
  refine then_r ?_
  refine ret3 rfl (.cell rfl rfl (load_rowB (cs := [_, _, _, _, _, _, _, _, _, _, _, _, _, _, _, _, _, _, _, _, _, _, _, _, _, _, _, _, _, _, _]) hS.ok 0 rfl Try.underlying53 rfl ts_53 rfl)) (.tmp rfl (show _ = Value.slice _ _ _ from rfl)) (.tmp rfl (show _ = Value.int _ _ from rfl)) ?_
  subst hw
  exact ⟨Inf.Z, [], none, 0, fun h => absurd h hne, Nat.le_refl _, rfl, newV_nil _ _, hS.kp⟩
set_option maxRecDepth 100000 in
set_option maxHeartbeats 8000000 in
theorem header_six (l : List Nat) (hb : Bytes l) (hn : l.length ≤ 3000) (cl lb : Nat) (len : Int) (pr ttl : Nat) (s d : Ad) (x : List Nat) (er : Nat) (h0 : sixE l = 0) (h6 : decide (sixP l) = true)
    (hP : PartsK 63 l (fun _ _ => hd6V cl lb len pr ttl s d) [] x er) : HdP 44 l (mkI true true ttl s d pr) x (pkOf (er : Int)) := fun w0 A c hv hc => by
  have hS := (St.sv w0).vcons rfl hv
  refine ent (n := 71) Try.func44 rfl rfl ?_
  refine wp_seq_k ?_; intro K1 hK1
  refine wlit ?_
  refine wl_e rfl ?_; intro K hK
  refine ow_alloc hS tz_53 rfl ?_
  clear hS; intro g0_0 w hg0_0 hS
  refine hK _ _ ?_; clear hK K
  refine wl_v (x_assign ev_c) ?_
  refine wl_v (x_assign (ev_cN 0)) ?_
  refine wl_nil ?_
  refine then_n (hK1 _ _ ?_); clear hK1 K1
  refine wp_seq_k ?_; intro K2 hK2
  refine wlit ?_
  refine wl_v (x_move (tmS rfl rfl)) ?_
  refine wl_e rfl ?_; intro K hK
  refine ow_call Try.func61 rfl rfl (evs_cons (tmS rfl rfl) <| evs_nil) (six_c l.length A c l _ (viewV hS.ok 1 rfl) rfl hb (by omega)) ?_
  rintro e w ⟨rfl, hk⟩
  refine ⟨_, rfl, ?_⟩
  replace hS := hS.kept hk
  clear hk
  refine hK _ _ ?_; clear hK K
  refine wl_v (x_move (tmT rfl rfl)) ?_
  refine wl_v (x_ext (tmT rfl rfl) rfl) ?_
  refine wl_v (x_ext (tmT rfl rfl) rfl) ?_
  refine wl_v (x_assign (tmB rfl rfl)) ?_
  refine wl_v (x_assign (tmI rfl rfl)) ?_
  refine wl_nil ?_
  refine then_n (hK2 _ _ ?_); clear hK2 K2
  refine wp_seq_k ?_; intro K3 hK3
  refine wp_seq_k ?_; intro K4 hK4
  refine wlit ?_
  refine wl_v (x_move (tmI rfl rfl)) ?_
  refine wl_v (x_neq (tmI rfl rfl) (ev_cN 0)) ?_
  refine wl_nil ?_
  refine then_n (hK4 _ _ ?_); clear hK4 K4
  refine cnd (tm rfl) (fun hc0 => ?_) (fun hc0 => ?_)
  · exfalso
    first | omega | (simp at hc0; omega)
  try simp only [nrm] at hc0
  refine wp_skip ?_
  refine then_n (hK3 _ _ ?_); clear hK3 K3
  refine wp_seq_k ?_; intro K5 hK5
  refine wp_seq_k ?_; intro K6 hK6
  refine wlit ?_
  refine wl_v (x_move (tmB rfl rfl)) ?_
  refine wl_nil ?_
  refine then_n (hK6 _ _ ?_); clear hK6 K6
  refine cnds (tm rfl) (fun hc1 => ?_) (fun hc1 => ?_)
  · exfalso
    rw [h6] at hc1
    cases hc1
  try simp only [nrm] at hc1
  refine wp_seq_k ?_; intro K7 hK7
  refine wlit ?_
  refine wl_v (x_move (tmS rfl rfl)) ?_
  refine wl_e rfl ?_; intro K hK
  refine ow_call Try.func63 rfl rfl (evs_cons (tmS rfl rfl) <| evs_nil) (hP _ A c (viewV hS.ok 1 rfl) hc) ?_
  rintro e w ⟨O, co, L, k, c', rfl, hkc, rfl, hn1, hn2, hk⟩
  refine ⟨_, rfl, ?_⟩
  have hn2' := (hn2.back hS.kp).2
  replace hS := hS.addn hk hn2 -- +vx
  clear hn1 hn2 hk
  refine hK _ _ ?_; clear hK K
  refine wl_v (x_move (tmT rfl rfl)) ?_
  refine wl_v (x_ext (tmT rfl rfl) rfl) ?_
  refine wl_v (x_ext (tmT rfl rfl) rfl) ?_
  refine wl_v (x_ext (tmT rfl rfl) rfl) ?_
  refine wl_e rfl ?_; intro K hK
  refine ow_alloc hS tz_132 rfl ?_
  clear hS; intro g5_6 w hg5_6 hS
  refine hK _ _ ?_; clear hK K
  refine wl_e rfl ?_; intro K hK
  refine ow_storeA hS 0 rfl ts_132 (tmP rfl rfl) (tmA rfl rfl) rfl rfl rfl ?_
  clear hS; intro w hS
  try replace hS := St.nm (M' := [.blk _ _ [_, _, _, _, _, _, _, _, _, _, _], .vw _ _, .blk _ _ [_, _, _, _, _, _, _, _, _, _, _, _, _, _, _, _, _, _, _, _, _, _, _, _, _, _, _, _, _, _, _], .vw _ _]) hS rfl
  refine hK _ _ ?_; clear hK K
  refine wl_v (x_assign (tmS rfl rfl)) ?_
  refine wl_v (x_assign (tmI rfl rfl)) ?_
  refine wl_nil ?_
  refine then_n (hK7 _ _ ?_); clear hK7 K7
  refine wp_seq_k ?_; intro K8 hK8
  replace hS := hS.pick [2, 0, 1, 3] rfl rfl
  try replace hS := St.nm (M' := [.blk _ _ [_, _, _, _, _, _, _, _, _, _, _, _, _, _, _, _, _, _, _, _, _, _, _, _, _, _, _, _, _, _, _], .blk _ _ [_, _, _, _, _, _, _, _, _, _, _], .vw _ _, .vw _ _]) hS rfl
  refine rg_startk 1 hS mixed_ ?_
  clear hS; intro w hS
  refine rg_take 0 rfl rfl (by kernel_rfl) (by kernel_rfl) (by kernel_rfl) (want_0) (fun w hok => x_fa 4 Try.underlying132 rfl rfl ts_5 (tmP rfl rfl)) ?_
  refine rg_take 1 rfl rfl (by kernel_rfl) (by kernel_rfl) (by kernel_rfl) (want_0) (fun w hok => x_load Try.underlying5 rfl (tmP rfl rfl) (cellB hok 0 rfl rfl)) ?_
  refine rg_take 2 rfl rfl (by kernel_rfl) (by kernel_rfl) (by kernel_rfl) (want_0) (fun w hok => x_fa 5 Try.underlying132 rfl rfl ts_26 (tmP rfl rfl)) ?_
  refine rg_take 3 rfl rfl (by kernel_rfl) (by kernel_rfl) (by kernel_rfl) (want_0) (fun w hok => x_loadA (cs := [_, _, _]) Try.underlying26 rfl ts_26 (tmP rfl rfl) (rangeB hok 0 rfl rfl)) ?_
  refine rg_take 4 rfl rfl (by kernel_rfl) (by kernel_rfl) (by kernel_rfl) (want_0) (fun w hok => x_fa 8 Try.underlying132 rfl rfl ts_26 (tmP rfl rfl)) ?_
  refine rg_take 5 rfl rfl (by kernel_rfl) (by kernel_rfl) (by kernel_rfl) (want_0) (fun w hok => x_loadA (cs := [_, _, _]) Try.underlying26 rfl ts_26 (tmP rfl rfl) (rangeB hok 0 rfl rfl)) ?_
  refine rg_take 6 rfl rfl (by kernel_rfl) (by kernel_rfl) (by kernel_rfl) (want_0) (fun w hok => x_fa 3 Try.underlying132 rfl rfl ts_5 (tmP rfl rfl)) ?_
  refine rg_take 7 rfl rfl (by kernel_rfl) (by kernel_rfl) (by kernel_rfl) (want_0) (fun w hok => x_load Try.underlying5 rfl (tmP rfl rfl) (cellB hok 0 rfl rfl)) ?_
  refine rg_take 8 rfl rfl (by kernel_rfl) (by kernel_rfl) (by kernel_rfl) (want_0) (fun w hok => x_build (bc_takeL (tmA rfl rfl) <| bc_takeL (tmA rfl rfl) <| bc_skip (.int .u16 0) <| bc_skip (.int .u16 0) <| bc_take (tmI rfl rfl) <| bc_nil) (by kernel_rfl)) ?_
  refine rg_take 9 rfl rfl (by kernel_rfl) (by kernel_rfl) (by kernel_rfl) (want_0) (fun w hok => x_build (bc_take ev_c <| bc_take ev_c <| bc_take (tmI rfl rfl) <| bc_takeL (tmA rfl rfl) <| bc_skipL [.int .u16 0, .int .u16 0, .int .u32 0, .int .u32 0, .int .u8 0, .int .u16 0, .int .u16 0, .int .u16 0, .slice none 0 0, .slice none 0 0] <| bc_skipL [.int .u16 0, .int .u16 0, .int .u16 0, .slice none 0 0] <| bc_skipL [.int .u8 0, .int .u8 0, .int .u16 0, .int .u32 0, .slice none 0 0] <| bc_nil) (by kernel_rfl)) ?_
  refine rg_take 10 rfl rfl (by kernel_rfl) (by kernel_rfl) (by kernel_rfl) (want_0) (fun w hok => x_move (tmS rfl rfl)) ?_
  refine rg_take 11 rfl rfl (by kernel_rfl) (by kernel_rfl) (by kernel_rfl) (want_0) (fun w hok => x_move (tmI rfl rfl)) ?_
  refine rg_step 12 rfl (by kernel_rfl) (want_0) (oks_drop hS 1 rfl) ?_; intro K hK
  refine ow_call Try.func62 rfl rfl (evs_cons (tmI rfl rfl) <| evs_nil) (of_c (er : Int) _) ?_
  rintro e w ⟨rfl, hk⟩
  refine ⟨_, rfl, ?_⟩
  replace hS := hS.kept hk
  clear hk
  refine hK _ _ ?_; clear hK K
  refine rg_step 13 rfl (by kernel_rfl) (want_0) (oks_drop hS 1 rfl) ?_; intro K hK
  refine ow_storeA hS 0 rfl ts_53 (tmP rfl rfl) (tmA rfl rfl) rfl rfl rfl ?_
  clear hS; intro w hS
  try replace hS := St.nm (M' := [.blk _ _ [_, _, _, _, _, _, _, _, _, _, _, _, _, _, _, _, _, _, _, _, _, _, _, _, _, _, _, _, _, _, _], .blk _ _ [_, _, _, _, _, _, _, _, _, _, _], .vw _ _, .vw _ _]) hS rfl
  refine hK _ _ ?_; clear hK K
  refine rg_take 14 rfl rfl (by kernel_rfl) (by kernel_rfl) (by kernel_rfl) (want_0) (fun w hok => x_assign (tmS rfl rfl)) ?_
  refine rg_take 15 rfl rfl (by kernel_rfl) (by kernel_rfl) (by kernel_rfl) (want_0) (fun w hok => x_assign (tmI rfl rfl)) ?_
  refine rg_done (oks_drop hS 1 rfl) (by kernel_rfl) ?_
  refine then_n (hK8 _ _ ?_); clear hK8 K8
  refine wp_ret ?_
  refine then_r ?_
  refine ret3 rfl (.cell rfl rfl (load_rowB (cs := [_, _, _, _, _, _, _, _, _, _, _, _, _, _, _, _, _, _, _, _, _, _, _, _, _, _, _, _, _, _, _]) hS.ok 0 rfl Try.underlying53 rfl ts_53 rfl)) (.tmp rfl (show _ = Value.slice _ _ _ from rfl)) (.tmp rfl (show _ = Value.int _ _ from rfl)) ?_
  exact ⟨mkI true true ttl s d pr, x, L, c', fun _ => ⟨rfl, rfl⟩, hkc, rfl, ⟨viewV hS.ok 2 rfl, hn2'⟩, hS.kp⟩
set_option maxRecDepth 100000 in
set_option maxHeartbeats 8000000 in
theorem fragment_c (tos : Nat) (len : Int) (id : Nat) (stay more : Bool) (off ttl pr sum : Nat) (s d : Ad) (O : Option Addr) (m c : Nat) (w0 : World) :
    Calls Try.prog 65 #[.agg (hdV tos len id stay more (off : Int) ttl pr sum s d O m c).toArray] w0 fun e w' => e = .returned (.bool (more || decide (0 < off))) ∧ Kp [] w0 w' := by
  have hS := St.sv w0
  refine ent (n := 10) Try.func65 rfl rfl ?_
  refine wp_seq_k ?_; intro K1 hK1
  refine wlit ?_
  refine wl_e rfl ?_; intro K hK
  refine ow_box hS (tmA rfl rfl) rfl ?_
  clear hS; intro g0_0 w hg0_0 hS
  refine hK _ _ ?_; clear hK K
  refine wl_v (x_assign ev_c) ?_
  refine wl_nil ?_
  refine then_n (hK1 _ _ ?_); clear hK1 K1
  refine wp_seq_k ?_; intro K2 hK2
  refine wlit ?_
  refine wl_v (x_fa 4 Try.underlying64 rfl rfl ts_4 (tmP rfl rfl)) ?_
  refine wl_v (x_load Try.underlying4 rfl (tmP rfl rfl) (cellB hS.ok 0 rfl rfl)) ?_
  refine wl_v (x_move (tmB rfl rfl)) ?_
  refine gs_wl (tm (t := 5) rfl) (fun hg1_2 => ?_) (fun hg1_2 => ?_)
  · have hg1_2' := hg1_2; (try simp only [nrm] at hg1_2')
    refine wl_s rfl (want_n rfl rfl rfl rfl (by rw [hg1_2]; rfl)) ?_
    refine wl_s rfl (want_n rfl rfl rfl rfl (by rw [hg1_2]; rfl)) ?_
    refine wl_s rfl (want_n rfl rfl rfl rfl (by rw [hg1_2]; rfl)) ?_
    refine wl_v (x_pickT (tmB rfl rfl) hg1_2 ev_c) ?_
    refine wl_v (x_assign (tmB rfl rfl)) ?_
    refine wl_nil ?_
    refine then_n (hK2 _ _ ?_); clear hK2 K2
    refine wp_ret ?_
    refine ret1 rfl (.tmp rfl (show _ = Value.bool _ from rfl)) ?_
    rw [hg1_2]
    first
      | exact ⟨rfl, hS.kp⟩
      | (rw [Bool.false_or]
         refine ⟨ret_bool (decide_eq_decide.2 ?_), hS.kp⟩
         omega)
  have hg1_2' := hg1_2; (try simp only [nrm] at hg1_2')
  refine wl_gv (want_y rfl rfl rfl rfl (by rw [hg1_2]; rfl)) (x_fa 5 Try.underlying64 rfl rfl ts_3 (tmP rfl rfl)) ?_
  refine wl_gv (want_y rfl rfl rfl rfl (by rw [hg1_2]; rfl)) (x_load Try.underlying3 rfl (tmP rfl rfl) (cellB hS.ok 0 rfl rfl)) ?_
  refine wl_gv (want_y rfl rfl rfl rfl (by rw [hg1_2]; rfl)) (x_gtr (tmI rfl rfl) (ev_cN 0)) ?_
  refine wl_v (x_pickF (tmB rfl rfl) hg1_2 (tmB rfl rfl)) ?_
  refine wl_v (x_assign (tmB rfl rfl)) ?_
  refine wl_nil ?_
  refine then_n (hK2 _ _ ?_); clear hK2 K2
  refine wp_ret ?_
  refine ret1 rfl (.tmp rfl (show _ = Value.bool _ from rfl)) ?_
  rw [hg1_2]
  first
    | exact ⟨rfl, hS.kp⟩
    | (rw [Bool.false_or]
       refine ⟨ret_bool (decide_eq_decide.2 ?_), hS.kp⟩
       omega)
def why4 (er : Nat) (more : Bool) (off : Nat) : Int := if er = 0 then (if (more || decide (0 < off)) = true then 4 else 0) else pkOf (er : Int)
theorem er_zero {er : Nat} (h : pkOf (er : Int) = 0) : er = 0 := by
  by_cases he : er = 0
  · exact he
  · exact absurd h (pkOf_ne he)
theorem why4_a {er : Nat} {more : Bool} {off : Nat} (h : pkOf (er : Int) = 0) (hc : (more || decide (0 < off)) = true) : why4 er more off = 4 := by
  unfold why4
  rw [if_pos (er_zero h), if_pos hc]
theorem why4_b {er : Nat} {more : Bool} {off : Nat} (h : pkOf (er : Int) = 0 → (more || decide (0 < off)) = false) : why4 er more off = pkOf (er : Int) := by
  unfold why4
  by_cases he : er = 0
  · subst he
    rw [if_pos rfl, if_neg (by rw [h rfl]; decide)]; rfl
  · rw [if_neg he]
set_option maxRecDepth 100000 in
set_option maxHeartbeats 8000000 in
theorem header_four (l : List Nat) (hb : Bytes l) (hn : l.length ≤ 3000) (tos : Nat) (len : Int) (id : Nat) (stay more : Bool) (off ttl pr sum : Nat) (s d : Ad) (o x : List Nat) (er : Nat) (h0 : sixE l = 0) (h6 : decide (sixP l) = false)
    (hP : PartsK 64 l (fun O c => hdV tos len id stay more (off : Int) ttl pr sum s d O o.length c) o x er) : HdP 44 l (mkI false stay ttl s d pr) x (why4 er more off) := fun w0 A c hv hc => by
  have hS := (St.sv w0).vcons rfl hv
  refine ent (n := 71) Try.func44 rfl rfl ?_
  refine wp_seq_k ?_; intro K1 hK1
  refine wlit ?_
  refine wl_e rfl ?_; intro K hK
  refine ow_alloc hS tz_53 rfl ?_
  clear hS; intro g0_0 w hg0_0 hS
  refine hK _ _ ?_; clear hK K
  refine wl_v (x_assign ev_c) ?_
  refine wl_v (x_assign (ev_cN 0)) ?_
  refine wl_nil ?_
  refine then_n (hK1 _ _ ?_); clear hK1 K1
  refine wp_seq_k ?_; intro K2 hK2
  refine wlit ?_
  refine wl_v (x_move (tmS rfl rfl)) ?_
  refine wl_e rfl ?_; intro K hK
  refine ow_call Try.func61 rfl rfl (evs_cons (tmS rfl rfl) <| evs_nil) (six_c l.length A c l _ (viewV hS.ok 1 rfl) rfl hb (by omega)) ?_
  rintro e w ⟨rfl, hk⟩
  refine ⟨_, rfl, ?_⟩
  replace hS := hS.kept hk
  clear hk
  refine hK _ _ ?_; clear hK K
  refine wl_v (x_move (tmT rfl rfl)) ?_
  refine wl_v (x_ext (tmT rfl rfl) rfl) ?_
  refine wl_v (x_ext (tmT rfl rfl) rfl) ?_
  refine wl_v (x_assign (tmB rfl rfl)) ?_
  refine wl_v (x_assign (tmI rfl rfl)) ?_
  refine wl_nil ?_
  refine then_n (hK2 _ _ ?_); clear hK2 K2
  refine wp_seq_k ?_; intro K3 hK3
  refine wp_seq_k ?_; intro K4 hK4
  refine wlit ?_
  refine wl_v (x_move (tmI rfl rfl)) ?_
  refine wl_v (x_neq (tmI rfl rfl) (ev_cN 0)) ?_
  refine wl_nil ?_
  refine then_n (hK4 _ _ ?_); clear hK4 K4
  refine cnd (tm rfl) (fun hc0 => ?_) (fun hc0 => ?_)
  · exfalso
    first | omega | (simp at hc0; omega)
  try simp only [nrm] at hc0
  refine wp_skip ?_
  refine then_n (hK3 _ _ ?_); clear hK3 K3
  refine wp_seq_k ?_; intro K5 hK5
  refine wp_seq_k ?_; intro K6 hK6
  refine wlit ?_
  refine wl_v (x_move (tmB rfl rfl)) ?_
  refine wl_nil ?_
  refine then_n (hK6 _ _ ?_); clear hK6 K6
  refine cnd (tm rfl) (fun hc1 => ?_) (fun hc1 => ?_)
  · exfalso
    rw [h6] at hc1
    cases hc1
  try simp only [nrm] at hc1
  refine wp_skip ?_
  refine then_n (hK5 _ _ ?_); clear hK5 K5
  refine wp_seq_k ?_; intro K7 hK7
  refine wlit ?_
  refine wl_v (x_move (tmS rfl rfl)) ?_
  refine wl_e rfl ?_; intro K hK
  refine ow_call Try.func64 rfl rfl (evs_cons (tmS rfl rfl) <| evs_nil) (hP _ A c (viewV hS.ok 1 rfl) hc) ?_
  rintro e w ⟨O, co, L, k, c', rfl, hkc, rfl, hn1, hn2, hk⟩
  refine ⟨_, rfl, ?_⟩
  have hn2' := (hn2.back hS.kp).2
  replace hS := hS.addn2 hk hn1 hn2 -- +vo,vx
  clear hn1 hn2 hk
  refine hK _ _ ?_; clear hK K
  refine wl_v (x_move (tmT rfl rfl)) ?_
  refine wl_v (x_ext (tmT rfl rfl) rfl) ?_
  refine wl_v (x_ext (tmT rfl rfl) rfl) ?_
  refine wl_v (x_ext (tmT rfl rfl) rfl) ?_
  refine wl_e rfl ?_; intro K hK
  refine ow_alloc hS tz_64 rfl ?_
  clear hS; intro g7_6 w hg7_6 hS
  refine hK _ _ ?_; clear hK K
  refine wl_e rfl ?_; intro K hK
  refine ow_storeA hS 0 rfl ts_64 (tmP rfl rfl) (tmA rfl rfl) rfl rfl rfl ?_
  clear hS; intro w hS
  try replace hS := St.nm (M' := [.blk _ _ [_, _, _, _, _, _, _, _, _, _, _, _, _, _, _, _], .vw _ _, .vw _ _, .blk _ _ [_, _, _, _, _, _, _, _, _, _, _, _, _, _, _, _, _, _, _, _, _, _, _, _, _, _, _, _, _, _, _], .vw _ _]) hS rfl
  refine hK _ _ ?_; clear hK K
  refine wl_v (x_assign (tmS rfl rfl)) ?_
  refine wl_v (x_assign (tmI rfl rfl)) ?_
  refine wl_nil ?_
  refine then_n (hK7 _ _ ?_); clear hK7 K7
  refine wp_seq_k ?_; intro K8 hK8
  refine wlit ?_
  refine wl_v (x_move (tmI rfl rfl)) ?_
  refine wl_e rfl ?_; intro K hK
  refine ow_call Try.func62 rfl rfl (evs_cons (tmI rfl rfl) <| evs_nil) (of_c (er : Int) _) ?_
  rintro e w ⟨rfl, hk⟩
  refine ⟨_, rfl, ?_⟩
  replace hS := hS.kept hk
  clear hk
  refine hK _ _ ?_; clear hK K
  refine wl_v (x_assign (tmI rfl rfl)) ?_
  refine wl_nil ?_
  refine then_n (hK8 _ _ ?_); clear hK8 K8
  refine wp_seq_k ?_; intro K9 hK9
  refine wp_seq_k ?_; intro K10 hK10
  refine wlit ?_
  refine wl_v (x_move (tmI rfl rfl)) ?_
  refine wl_v (x_eql (tmI rfl rfl) (ev_cN 0)) ?_
  refine wl_v (x_move (tmB rfl rfl)) ?_
  refine gs_wl (tm (t := 53) rfl) (fun hg9_2 => ?_) (fun hg9_2 => ?_)
  · have hg9_2' := hg9_2; (try simp only [nrm] at hg9_2')
    refine wl_gv (want_y rfl rfl rfl rfl (by rw [hg9_2]; rfl)) (x_loadA (cs := [_, _, _, _, _, _, _, _, _, _, _, _, _, _, _, _]) Try.underlying64 rfl ts_64 (tmP rfl rfl) (rangeB hS.ok 0 rfl rfl)) ?_
    refine wl_g (want_y rfl rfl rfl rfl (by rw [hg9_2]; rfl)) ?_; intro K hK
    refine ow_call Try.func65 rfl rfl (evs_cons (tmA rfl rfl) <| evs_nil) (fragment_c tos len id stay more off ttl pr sum s d O o.length co _) ?_
    rintro e w ⟨rfl, hk⟩
    refine ⟨_, rfl, ?_⟩
    replace hS := hS.kept hk
    clear hk
    refine hK _ _ ?_; clear hK K
    refine wl_v (x_pickT (tmB rfl rfl) hg9_2 (tmB rfl rfl)) ?_
    refine wl_nil ?_
    refine then_n (hK10 _ _ ?_); clear hK10 K10
    refine cnd (tm rfl) (fun hc2 => ?_) (fun hc2 => ?_)
    · skip
      try simp only [nrm] at hc2
      refine wlit ?_
      refine wl_v (x_assign (ev_cN 4)) ?_
      refine wl_nil ?_
      refine then_n (hK9 _ _ ?_); clear hK9 K9
      refine wp_seq_k ?_; intro K11 hK11
      refine wlit ?_
      refine wl_v (x_fa 3 Try.underlying64 rfl rfl ts_4 (tmP rfl rfl)) ?_
      refine wl_v (x_load Try.underlying4 rfl (tmP rfl rfl) (cellB hS.ok 0 rfl rfl)) ?_
      refine wl_v (x_fa 6 Try.underlying64 rfl rfl ts_5 (tmP rfl rfl)) ?_
      refine wl_v (x_load Try.underlying5 rfl (tmP rfl rfl) (cellB hS.ok 0 rfl rfl)) ?_
      refine wl_v (x_fa 9 Try.underlying64 rfl rfl ts_26 (tmP rfl rfl)) ?_
      refine wl_v (x_loadA (cs := [_, _, _]) Try.underlying26 rfl ts_26 (tmP rfl rfl) (rangeB hS.ok 0 rfl rfl)) ?_
      refine wl_v (x_fa 12 Try.underlying64 rfl rfl ts_26 (tmP rfl rfl)) ?_
      refine wl_v (x_loadA (cs := [_, _, _]) Try.underlying26 rfl ts_26 (tmP rfl rfl) (rangeB hS.ok 0 rfl rfl)) ?_
      refine wl_v (x_fa 7 Try.underlying64 rfl rfl ts_5 (tmP rfl rfl)) ?_
      refine wl_v (x_load Try.underlying5 rfl (tmP rfl rfl) (cellB hS.ok 0 rfl rfl)) ?_
      refine wl_v (x_build (bc_takeL (tmA rfl rfl) <| bc_takeL (tmA rfl rfl) <| bc_skip (.int .u16 0) <| bc_skip (.int .u16 0) <| bc_take (tmI rfl rfl) <| bc_nil) (by kernel_rfl)) ?_
      refine wl_v (x_build (bc_skip (.bool false) <| bc_take (tmB rfl rfl) <| bc_take (tmI rfl rfl) <| bc_takeL (tmA rfl rfl) <| bc_skipL [.int .u16 0, .int .u16 0, .int .u32 0, .int .u32 0, .int .u8 0, .int .u16 0, .int .u16 0, .int .u16 0, .slice none 0 0, .slice none 0 0] <| bc_skipL [.int .u16 0, .int .u16 0, .int .u16 0, .slice none 0 0] <| bc_skipL [.int .u8 0, .int .u8 0, .int .u16 0, .int .u32 0, .slice none 0 0] <| bc_nil) (by kernel_rfl)) ?_
      refine wl_v (x_move (tmS rfl rfl)) ?_
      refine wl_v (x_move (tmI rfl rfl)) ?_
      refine wl_e rfl ?_; intro K hK
      refine ow_storeA hS 3 rfl ts_53 (tmP rfl rfl) (tmA rfl rfl) rfl rfl rfl ?_
      clear hS; intro w hS
      try replace hS := St.nm (M' := [.blk _ _ [_, _, _, _, _, _, _, _, _, _, _, _, _, _, _, _], .vw _ _, .vw _ _, .blk _ _ [_, _, _, _, _, _, _, _, _, _, _, _, _, _, _, _, _, _, _, _, _, _, _, _, _, _, _, _, _, _, _], .vw _ _]) hS rfl
      refine hK _ _ ?_; clear hK K
      refine wl_v (x_assign (tmS rfl rfl)) ?_
      refine wl_v (x_assign (tmI rfl rfl)) ?_
      refine wl_nil ?_
      refine then_n (hK11 _ _ ?_); clear hK11 K11
      refine wp_ret ?_
      refine ret3 rfl (.cell rfl rfl (load_rowB (cs := [_, _, _, _, _, _, _, _, _, _, _, _, _, _, _, _, _, _, _, _, _, _, _, _, _, _, _, _, _, _, _]) hS.ok 3 rfl Try.underlying53 rfl ts_53 rfl)) (.tmp rfl (show _ = Value.slice _ _ _ from rfl)) (.tmp rfl (show _ = Value.int _ _ from rfl)) ?_
      first
        | (rw [why4_a (by first | exact hg9_2' | omega) hc2]
           exact ⟨mkI false stay ttl s d pr, x, L, c', fun _ => ⟨rfl, rfl⟩, hkc, rfl, ⟨viewV hS.ok 2 rfl, hn2'⟩, hS.kp⟩)
        | (rw [why4_b (fun h => by first | simpa using hc2 | exact absurd h (by first | exact hg9_2' | omega))]
           exact ⟨mkI false stay ttl s d pr, x, L, c', fun _ => ⟨rfl, rfl⟩, hkc, rfl, ⟨viewV hS.ok 2 rfl, hn2'⟩, hS.kp⟩)
    try simp only [nrm] at hc2
    refine wp_skip ?_
    refine then_n (hK9 _ _ ?_); clear hK9 K9
    refine wp_seq_k ?_; intro K13 hK13
    refine wlit ?_
    refine wl_v (x_fa 3 Try.underlying64 rfl rfl ts_4 (tmP rfl rfl)) ?_
    refine wl_v (x_load Try.underlying4 rfl (tmP rfl rfl) (cellB hS.ok 0 rfl rfl)) ?_
    refine wl_v (x_fa 6 Try.underlying64 rfl rfl ts_5 (tmP rfl rfl)) ?_
    refine wl_v (x_load Try.underlying5 rfl (tmP rfl rfl) (cellB hS.ok 0 rfl rfl)) ?_
    refine wl_v (x_fa 9 Try.underlying64 rfl rfl ts_26 (tmP rfl rfl)) ?_
    refine wl_v (x_loadA (cs := [_, _, _]) Try.underlying26 rfl ts_26 (tmP rfl rfl) (rangeB hS.ok 0 rfl rfl)) ?_
    refine wl_v (x_fa 12 Try.underlying64 rfl rfl ts_26 (tmP rfl rfl)) ?_
    refine wl_v (x_loadA (cs := [_, _, _]) Try.underlying26 rfl ts_26 (tmP rfl rfl) (rangeB hS.ok 0 rfl rfl)) ?_
    refine wl_v (x_fa 7 Try.underlying64 rfl rfl ts_5 (tmP rfl rfl)) ?_
    refine wl_v (x_load Try.underlying5 rfl (tmP rfl rfl) (cellB hS.ok 0 rfl rfl)) ?_
    refine wl_v (x_build (bc_takeL (tmA rfl rfl) <| bc_takeL (tmA rfl rfl) <| bc_skip (.int .u16 0) <| bc_skip (.int .u16 0) <| bc_take (tmI rfl rfl) <| bc_nil) (by kernel_rfl)) ?_
    refine wl_v (x_build (bc_skip (.bool false) <| bc_take (tmB rfl rfl) <| bc_take (tmI rfl rfl) <| bc_takeL (tmA rfl rfl) <| bc_skipL [.int .u16 0, .int .u16 0, .int .u32 0, .int .u32 0, .int .u8 0, .int .u16 0, .int .u16 0, .int .u16 0, .slice none 0 0, .slice none 0 0] <| bc_skipL [.int .u16 0, .int .u16 0, .int .u16 0, .slice none 0 0] <| bc_skipL [.int .u8 0, .int .u8 0, .int .u16 0, .int .u32 0, .slice none 0 0] <| bc_nil) (by kernel_rfl)) ?_
    refine wl_v (x_move (tmS rfl rfl)) ?_
    refine wl_v (x_move (tmI rfl rfl)) ?_
    refine wl_e rfl ?_; intro K hK
    refine ow_storeA hS 3 rfl ts_53 (tmP rfl rfl) (tmA rfl rfl) rfl rfl rfl ?_
    clear hS; intro w hS
    try replace hS := St.nm (M' := [.blk _ _ [_, _, _, _, _, _, _, _, _, _, _, _, _, _, _, _], .vw _ _, .vw _ _, .blk _ _ [_, _, _, _, _, _, _, _, _, _, _, _, _, _, _, _, _, _, _, _, _, _, _, _, _, _, _, _, _, _, _], .vw _ _]) hS rfl
    refine hK _ _ ?_; clear hK K
    refine wl_v (x_assign (tmS rfl rfl)) ?_
    refine wl_v (x_assign (tmI rfl rfl)) ?_
    refine wl_nil ?_
    refine then_n (hK13 _ _ ?_); clear hK13 K13
    refine wp_ret ?_
    refine ret3 rfl (.cell rfl rfl (load_rowB (cs := [_, _, _, _, _, _, _, _, _, _, _, _, _, _, _, _, _, _, _, _, _, _, _, _, _, _, _, _, _, _, _]) hS.ok 3 rfl Try.underlying53 rfl ts_53 rfl)) (.tmp rfl (show _ = Value.slice _ _ _ from rfl)) (.tmp rfl (show _ = Value.int _ _ from rfl)) ?_
    first
      | (rw [why4_a (by first | exact hg9_2' | omega) hc2]
         exact ⟨mkI false stay ttl s d pr, x, L, c', fun _ => ⟨rfl, rfl⟩, hkc, rfl, ⟨viewV hS.ok 2 rfl, hn2'⟩, hS.kp⟩)
      | (rw [why4_b (fun h => by first | simpa using hc2 | exact absurd h (by first | exact hg9_2' | omega))]
         exact ⟨mkI false stay ttl s d pr, x, L, c', fun _ => ⟨rfl, rfl⟩, hkc, rfl, ⟨viewV hS.ok 2 rfl, hn2'⟩, hS.kp⟩)
  have hg9_2' := hg9_2; (try simp only [nrm] at hg9_2')
  refine wl_s rfl (want_n rfl rfl rfl rfl (by rw [hg9_2]; rfl)) ?_
  refine wl_s rfl (want_n rfl rfl rfl rfl (by rw [hg9_2]; rfl)) ?_
  refine wl_v (x_pickF (tmB rfl rfl) hg9_2 ev_c) ?_
  refine wl_nil ?_
  refine then_n (hK10 _ _ ?_); clear hK10 K10
  refine cnd_f (tmB rfl rfl) rfl ?_
  refine wp_skip ?_
  refine then_n (hK9 _ _ ?_); clear hK9 K9
  refine wp_seq_k ?_; intro K15 hK15
  refine wlit ?_
  refine wl_v (x_fa 3 Try.underlying64 rfl rfl ts_4 (tmP rfl rfl)) ?_
  refine wl_v (x_load Try.underlying4 rfl (tmP rfl rfl) (cellB hS.ok 0 rfl rfl)) ?_
  refine wl_v (x_fa 6 Try.underlying64 rfl rfl ts_5 (tmP rfl rfl)) ?_
  refine wl_v (x_load Try.underlying5 rfl (tmP rfl rfl) (cellB hS.ok 0 rfl rfl)) ?_
  refine wl_v (x_fa 9 Try.underlying64 rfl rfl ts_26 (tmP rfl rfl)) ?_
  refine wl_v (x_loadA (cs := [_, _, _]) Try.underlying26 rfl ts_26 (tmP rfl rfl) (rangeB hS.ok 0 rfl rfl)) ?_
  refine wl_v (x_fa 12 Try.underlying64 rfl rfl ts_26 (tmP rfl rfl)) ?_
  refine wl_v (x_loadA (cs := [_, _, _]) Try.underlying26 rfl ts_26 (tmP rfl rfl) (rangeB hS.ok 0 rfl rfl)) ?_
  refine wl_v (x_fa 7 Try.underlying64 rfl rfl ts_5 (tmP rfl rfl)) ?_
  refine wl_v (x_load Try.underlying5 rfl (tmP rfl rfl) (cellB hS.ok 0 rfl rfl)) ?_
  refine wl_v (x_build (bc_takeL (tmA rfl rfl) <| bc_takeL (tmA rfl rfl) <| bc_skip (.int .u16 0) <| bc_skip (.int .u16 0) <| bc_take (tmI rfl rfl) <| bc_nil) (by kernel_rfl)) ?_
  refine wl_v (x_build (bc_skip (.bool false) <| bc_take (tmB rfl rfl) <| bc_take (tmI rfl rfl) <| bc_takeL (tmA rfl rfl) <| bc_skipL [.int .u16 0, .int .u16 0, .int .u32 0, .int .u32 0, .int .u8 0, .int .u16 0, .int .u16 0, .int .u16 0, .slice none 0 0, .slice none 0 0] <| bc_skipL [.int .u16 0, .int .u16 0, .int .u16 0, .slice none 0 0] <| bc_skipL [.int .u8 0, .int .u8 0, .int .u16 0, .int .u32 0, .slice none 0 0] <| bc_nil) (by kernel_rfl)) ?_
  refine wl_v (x_move (tmS rfl rfl)) ?_
  refine wl_v (x_move (tmI rfl rfl)) ?_
  refine wl_e rfl ?_; intro K hK
  refine ow_storeA hS 3 rfl ts_53 (tmP rfl rfl) (tmA rfl rfl) rfl rfl rfl ?_
  clear hS; intro w hS
  try replace hS := St.nm (M' := [.blk _ _ [_, _, _, _, _, _, _, _, _, _, _, _, _, _, _, _], .vw _ _, .vw _ _, .blk _ _ [_, _, _, _, _, _, _, _, _, _, _, _, _, _, _, _, _, _, _, _, _, _, _, _, _, _, _, _, _, _, _], .vw _ _]) hS rfl
  refine hK _ _ ?_; clear hK K
  refine wl_v (x_assign (tmS rfl rfl)) ?_
  refine wl_v (x_assign (tmI rfl rfl)) ?_
  refine wl_nil ?_
  refine then_n (hK15 _ _ ?_); clear hK15 K15
  refine wp_ret ?_
  refine ret3 rfl (.cell rfl rfl (load_rowB (cs := [_, _, _, _, _, _, _, _, _, _, _, _, _, _, _, _, _, _, _, _, _, _, _, _, _, _, _, _, _, _, _]) hS.ok 3 rfl Try.underlying53 rfl ts_53 rfl)) (.tmp rfl (show _ = Value.slice _ _ _ from rfl)) (.tmp rfl (show _ = Value.int _ _ from rfl)) ?_
  first
    | (rw [why4_a (by first | exact hg9_2' | omega) hc2]
       exact ⟨mkI false stay ttl s d pr, x, L, c', fun _ => ⟨rfl, rfl⟩, hkc, rfl, ⟨viewV hS.ok 2 rfl, hn2'⟩, hS.kp⟩)
    | (rw [why4_b (fun h => by first | simpa using hc2 | exact absurd h (by first | exact hg9_2' | omega))]
       exact ⟨mkI false stay ttl s d pr, x, L, c', fun _ => ⟨rfl, rfl⟩, hkc, rfl, ⟨viewV hS.ok 2 rfl, hn2'⟩, hS.kp⟩)
set_option maxRecDepth 100000 in
set_option maxHeartbeats 8000000 in
theorem outer_bad (l : List Nat) (hb : Bytes l) (hn : l.length ≤ 3000) (i : Inf) (x : List Nat) (why : Int) (h0 : sixE l ≠ 0) (hw : why = pkOf (sixE l : Int)) : HdP 21 l i x why := fun w0 A c hv hc => by
  have hS := (St.sv w0).vcons rfl hv
  have hne := pkOf_ne h0
  have hcase : (sixN l = -1 ∧ why = 1) ∨ (sixN l = 0 ∧ why = 2) := by
    rw [hw]
    unfold sixN
    unfold sixE at h0 ⊢
    by_cases a1 : l.length = 0
    · rw [if_pos a1, if_pos a1]; exact .inl ⟨rfl, rfl⟩
    · rw [if_neg a1] at h0 ⊢
      rw [if_neg a1]
      by_cases a2 : nth l 0 / 16 = 4 ∨ nth l 0 / 16 = 6
      · rw [if_pos a2] at h0; exact absurd rfl h0
      · rw [if_neg a2, if_neg (fun h => a2 (.inl h)), if_neg (fun h => a2 (.inr h))]; exact .inr ⟨rfl, rfl⟩
  have hw0 : why ≠ 0 := by rw [hw]; exact hne
  refine ent (n := 75) Try.func21 rfl rfl ?_
  refine wp_seq_k ?_; intro K1 hK1
  refine wlit ?_
  refine wl_e rfl ?_; intro K hK
  refine ow_alloc hS tz_46 rfl ?_
  clear hS; intro g0_0 w hg0_0 hS
  refine hK _ _ ?_; clear hK K
  refine wl_v (x_assign ev_c) ?_
  refine wl_v (x_assign (ev_cN 0)) ?_
  refine wl_nil ?_
  refine then_n (hK1 _ _ ?_); clear hK1 K1
  refine wp_seq_k ?_; intro K2 hK2
  refine wp_seq_k ?_; intro K3 hK3
  refine wlit ?_
  refine wl_v (x_move (tmS rfl rfl)) ?_
  refine wl_e rfl ?_; intro K hK
  refine ow_call Try.func35 rfl rfl (evs_cons (tmS rfl rfl) <| evs_nil) (rsix_c l.length A c l _ (viewV hS.ok 1 rfl) rfl hb (by omega)) ?_
  rintro e w ⟨rfl, hk⟩
  refine ⟨_, rfl, ?_⟩
  replace hS := hS.kept hk
  clear hk
  refine hK _ _ ?_; clear hK K
  refine wl_nil ?_
  refine then_n (hK3 _ _ ?_); clear hK3 K3
  refine wp_block ?_
  refine wp_seq_k ?_; intro K4 hK4
  refine wlit ?_
  refine wl_v (x_eql (tmI rfl rfl) (ev_cN 6)) ?_
  refine wl_v (x_assign (tmB rfl rfl)) ?_
  refine wl_nil ?_
  refine then_n (hK4 _ _ ?_); clear hK4 K4
  refine cnd (tm rfl) (fun hc0 => ?_) (fun hc0 => ?_)
  · exfalso
    first | omega | (simp at hc0; omega)
  try simp only [nrm] at hc0
  refine wp_seq_k ?_; intro K5 hK5
  refine wlit ?_
  refine wl_v (x_eql (tmI rfl rfl) (ev_cN 4)) ?_
  refine wl_v (x_assign (tmB rfl rfl)) ?_
  refine wl_nil ?_
  refine then_n (hK5 _ _ ?_); clear hK5 K5
  refine cnd (tm rfl) (fun hc2 => ?_) (fun hc2 => ?_)
  · exfalso
    first | omega | (simp at hc2; omega)
  try simp only [nrm] at hc2
  refine wp_seq_k ?_; intro K6 hK6
  refine wlit ?_
  refine wl_v (x_eql (tmI rfl rfl) (ev_cN 0)) ?_
  refine wl_v (x_assign (tmB rfl rfl)) ?_
  refine wl_nil ?_
  refine then_n (hK6 _ _ ?_); clear hK6 K6
  refine cnd (tm rfl) (fun hc5 => ?_) (fun hc5 => ?_)
  · skip
    try simp only [nrm] at hc5
    refine wp_seq_k ?_; intro K7 hK7
    refine wlit ?_
    refine wl_v (x_build (bc_skip (.bool false) <| bc_skip (.bool false) <| bc_skip (.int .u8 0) <| bc_skipL [.bool false, .int .u64 0, .int .u64 0, .bool false, .int .u64 0, .int .u64 0, .int .u16 0, .int .u16 0, .int .u8 0] <| bc_skipL [.int .u16 0, .int .u16 0, .int .u32 0, .int .u32 0, .int .u8 0, .int .u16 0, .int .u16 0, .int .u16 0, .slice none 0 0, .slice none 0 0] <| bc_skipL [.int .u16 0, .int .u16 0, .int .u16 0, .slice none 0 0] <| bc_skipL [.int .u8 0, .int .u8 0, .int .u16 0, .int .u32 0, .slice none 0 0] <| bc_nil) (by kernel_rfl)) ?_
    refine wl_e rfl ?_; intro K hK
    refine ow_storeA hS 0 rfl ts_46 (tmP rfl rfl) (tmA rfl rfl) rfl rfl rfl ?_
    clear hS; intro w hS
    try replace hS := St.nm (M' := [.blk _ _ [_, _, _, _, _, _, _, _, _, _, _, _, _, _, _, _, _, _, _, _, _, _, _, _, _, _, _, _, _, _, _], .vw _ _]) hS rfl
    refine hK _ _ ?_; clear hK K
    refine wl_v (x_assign ev_c) ?_
    refine wl_v (x_assign (ev_cN 2)) ?_
    refine wl_nil ?_
    refine then_n (hK7 _ _ ?_); clear hK7 K7
    refine wp_ret ?_
    refine inb_r ?_
    refine then_r ?_
    refine ret3 rfl (.cell rfl rfl (load_rowB (cs := [_, _, _, _, _, _, _, _, _, _, _, _, _, _, _, _, _, _, _, _, _, _, _, _, _, _, _, _, _, _, _]) hS.ok 0 rfl Try.underlying46 rfl ts_46 rfl)) (.tmp rfl (show _ = Value.slice _ _ _ from rfl)) (.tmp rfl (show _ = Value.int _ _ from rfl)) ?_
    first
      | (obtain rfl : why = 2 := by first | omega | (simp at hc5; omega)
         exact ⟨Inf.Z, [], none, 0, fun h => absurd h hw0, Nat.le_refl _, rfl, newV_nil _ _, hS.kp⟩)
      | (obtain rfl : why = 1 := by first | omega | (simp at hc5; omega)
         exact ⟨Inf.Z, [], none, 0, fun h => absurd h hw0, Nat.le_refl _, rfl, newV_nil _ _, hS.kp⟩)
  try simp only [nrm] at hc5
  refine wp_skip ?_
  refine inb_n ?_
  refine then_n (hK2 _ _ ?_); clear hK2 K2
  refine wp_seq_k ?_; intro K9 hK9
  refine wlit ?_
  refine wl_v (x_build (bc_skip (.bool false) <| bc_skip (.bool false) <| bc_skip (.int .u8 0) <| bc_skipL [.bool false, .int .u64 0, .int .u64 0, .bool false, .int .u64 0, .int .u64 0, .int .u16 0, .int .u16 0, .int .u8 0] <| bc_skipL [.int .u16 0, .int .u16 0, .int .u32 0, .int .u32 0, .int .u8 0, .int .u16 0, .int .u16 0, .int .u16 0, .slice none 0 0, .slice none 0 0] <| bc_skipL [.int .u16 0, .int .u16 0, .int .u16 0, .slice none 0 0] <| bc_skipL [.int .u8 0, .int .u8 0, .int .u16 0, .int .u32 0, .slice none 0 0] <| bc_nil) (by kernel_rfl)) ?_
  refine wl_e rfl ?_; intro K hK
  refine ow_storeA hS 0 rfl ts_46 (tmP rfl rfl) (tmA rfl rfl) rfl rfl rfl ?_
  clear hS; intro w hS
  try replace hS := St.nm (M' := [.blk _ _ [_, _, _, _, _, _, _, _, _, _, _, _, _, _, _, _, _, _, _, _, _, _, _, _, _, _, _, _, _, _, _], .vw _ _]) hS rfl
  refine hK _ _ ?_; clear hK K
  refine wl_v (x_assign ev_c) ?_
  refine wl_v (x_assign (ev_cN 1)) ?_
  refine wl_nil ?_
  refine then_n (hK9 _ _ ?_); clear hK9 K9
  refine wp_ret ?_
  refine ret3 rfl (.cell rfl rfl (load_rowB (cs := [_, _, _, _, _, _, _, _, _, _, _, _, _, _, _, _, _, _, _, _, _, _, _, _, _, _, _, _, _, _, _]) hS.ok 0 rfl Try.underlying46 rfl ts_46 rfl)) (.tmp rfl (show _ = Value.slice _ _ _ from rfl)) (.tmp rfl (show _ = Value.int _ _ from rfl)) ?_
  first
    | (obtain rfl : why = 2 := by first | omega | (simp at hc5; omega)
       exact ⟨Inf.Z, [], none, 0, fun h => absurd h hw0, Nat.le_refl _, rfl, newV_nil _ _, hS.kp⟩)
    | (obtain rfl : why = 1 := by first | omega | (simp at hc5; omega)
       exact ⟨Inf.Z, [], none, 0, fun h => absurd h hw0, Nat.le_refl _, rfl, newV_nil _ _, hS.kp⟩)
set_option maxRecDepth 100000 in
set_option maxHeartbeats 8000000 in
theorem outer_six (l : List Nat) (hb : Bytes l) (hn : l.length ≤ 3000) (cl lb : Nat) (len : Int) (pr ttl : Nat) (s d : Ad) (x : List Nat) (er : Nat) (h6 : sixN l = 6)
    (hP : PartsK 36 l (fun _ _ => hd6V cl lb len pr ttl s d) [] x er) : HdP 21 l (mkI true true ttl s d pr) x (pkOf (er : Int)) := fun w0 A c hv hc => by
  have hS := (St.sv w0).vcons rfl hv
  refine ent (n := 75) Try.func21 rfl rfl ?_
  refine wp_seq_k ?_; intro K1 hK1
  refine wlit ?_
  refine wl_e rfl ?_; intro K hK
  refine ow_alloc hS tz_46 rfl ?_
  clear hS; intro g0_0 w hg0_0 hS
  refine hK _ _ ?_; clear hK K
  refine wl_v (x_assign ev_c) ?_
  refine wl_v (x_assign (ev_cN 0)) ?_
  refine wl_nil ?_
  refine then_n (hK1 _ _ ?_); clear hK1 K1
  refine wp_seq_k ?_; intro K2 hK2
  refine wp_seq_k ?_; intro K3 hK3
  refine wlit ?_
  refine wl_v (x_move (tmS rfl rfl)) ?_
  refine wl_e rfl ?_; intro K hK
  refine ow_call Try.func35 rfl rfl (evs_cons (tmS rfl rfl) <| evs_nil) (rsix_c l.length A c l _ (viewV hS.ok 1 rfl) rfl hb (by omega)) ?_
  rintro e w ⟨rfl, hk⟩
  refine ⟨_, rfl, ?_⟩
  replace hS := hS.kept hk
  clear hk
  refine hK _ _ ?_; clear hK K
  refine wl_nil ?_
  refine then_n (hK3 _ _ ?_); clear hK3 K3
  refine wp_block ?_
  refine wp_seq_k ?_; intro K4 hK4
  refine wlit ?_
  refine wl_v (x_eql (tmI rfl rfl) (ev_cN 6)) ?_
  refine wl_v (x_assign (tmB rfl rfl)) ?_
  refine wl_nil ?_
  refine then_n (hK4 _ _ ?_); clear hK4 K4
  refine cnds (tm rfl) (fun hc0 => ?_) (fun hc0 => ?_)
  · exfalso
    first | omega | (simp at hc0; omega)
  try simp only [nrm] at hc0
  refine wp_seq_k ?_; intro K5 hK5
  refine wlit ?_
  refine wl_v (x_move (tmS rfl rfl)) ?_
  refine wl_e rfl ?_; intro K hK
  refine ow_call Try.func36 rfl rfl (evs_cons (tmS rfl rfl) <| evs_nil) (hP _ A c (viewV hS.ok 1 rfl) hc) ?_
  rintro e w ⟨O, co, L, k, c', rfl, hkc, rfl, hn1, hn2, hk⟩
  refine ⟨_, rfl, ?_⟩
  have hn2' := (hn2.back hS.kp).2
  replace hS := hS.addn hk hn2 -- +vx
  clear hn1 hn2 hk
  refine hK _ _ ?_; clear hK K
  refine wl_v (x_move (tmT rfl rfl)) ?_
  refine wl_v (x_ext (tmT rfl rfl) rfl) ?_
  refine wl_v (x_ext (tmT rfl rfl) rfl) ?_
  refine wl_v (x_ext (tmT rfl rfl) rfl) ?_
  refine wl_e rfl ?_; intro K hK
  refine ow_alloc hS tz_98 rfl ?_
  clear hS; intro g3_6 w hg3_6 hS
  refine hK _ _ ?_; clear hK K
  refine wl_e rfl ?_; intro K hK
  refine ow_storeA hS 0 rfl ts_98 (tmP rfl rfl) (tmA rfl rfl) rfl rfl rfl ?_
  clear hS; intro w hS
  try replace hS := St.nm (M' := [.blk _ _ [_, _, _, _, _, _, _, _, _, _, _], .vw _ _, .blk _ _ [_, _, _, _, _, _, _, _, _, _, _, _, _, _, _, _, _, _, _, _, _, _, _, _, _, _, _, _, _, _, _], .vw _ _]) hS rfl
  refine hK _ _ ?_; clear hK K
  refine wl_v (x_assign (tmS rfl rfl)) ?_
  refine wl_v (x_assign (tmI rfl rfl)) ?_
  refine wl_nil ?_
  refine then_n (hK5 _ _ ?_); clear hK5 K5
  refine wp_seq_k ?_; intro K6 hK6
  refine wp_seq_k ?_; intro K7 hK7
  refine wlit ?_
  refine wl_v (x_move (tmI rfl rfl)) ?_
  refine wl_v (x_neq (tmI rfl rfl) (ev_cN 0)) ?_
  refine wl_nil ?_
  refine then_n (hK7 _ _ ?_); clear hK7 K7
  refine cnd (tm rfl) (fun hc1 => ?_) (fun hc1 => ?_)
  · skip
    try simp only [nrm] at hc1
    refine wp_seq_k ?_; intro K8 hK8
    refine wlit ?_
    refine wl_v (x_build (bc_skip (.bool false) <| bc_skip (.bool false) <| bc_skip (.int .u8 0) <| bc_skipL [.bool false, .int .u64 0, .int .u64 0, .bool false, .int .u64 0, .int .u64 0, .int .u16 0, .int .u16 0, .int .u8 0] <| bc_skipL [.int .u16 0, .int .u16 0, .int .u32 0, .int .u32 0, .int .u8 0, .int .u16 0, .int .u16 0, .int .u16 0, .slice none 0 0, .slice none 0 0] <| bc_skipL [.int .u16 0, .int .u16 0, .int .u16 0, .slice none 0 0] <| bc_skipL [.int .u8 0, .int .u8 0, .int .u16 0, .int .u32 0, .slice none 0 0] <| bc_nil) (by kernel_rfl)) ?_
    refine wl_v (x_move (tmI rfl rfl)) ?_
    refine wl_e rfl ?_; intro K hK
    refine ow_call Try.func37 rfl rfl (evs_cons (tmI rfl rfl) <| evs_nil) (rof_c (er : Int) _) ?_
    rintro e w ⟨rfl, hk⟩
    refine ⟨_, rfl, ?_⟩
    replace hS := hS.kept hk
    clear hk
    refine hK _ _ ?_; clear hK K
    refine wl_e rfl ?_; intro K hK
    refine ow_storeA hS 2 rfl ts_46 (tmP rfl rfl) (tmA rfl rfl) rfl rfl rfl ?_
    clear hS; intro w hS
    try replace hS := St.nm (M' := [.blk _ _ [_, _, _, _, _, _, _, _, _, _, _], .vw _ _, .blk _ _ [_, _, _, _, _, _, _, _, _, _, _, _, _, _, _, _, _, _, _, _, _, _, _, _, _, _, _, _, _, _, _], .vw _ _]) hS rfl
    refine hK _ _ ?_; clear hK K
    refine wl_v (x_assign ev_c) ?_
    refine wl_v (x_assign (tmI rfl rfl)) ?_
    refine wl_nil ?_
    refine then_n (hK8 _ _ ?_); clear hK8 K8
    refine wp_ret ?_
    refine then_r ?_
    refine inb_r ?_
    refine then_r ?_
    refine ret3 rfl (.cell rfl rfl (load_rowB (cs := [_, _, _, _, _, _, _, _, _, _, _, _, _, _, _, _, _, _, _, _, _, _, _, _, _, _, _, _, _, _, _]) hS.ok 2 rfl Try.underlying46 rfl ts_46 rfl)) (.tmp rfl (show _ = Value.slice _ _ _ from rfl)) (.tmp rfl (show _ = Value.int _ _ from rfl)) ?_
    first
      | (have he : er ≠ 0 := by first | omega | (simp at hc1; omega)
         exact ⟨Inf.Z, [], none, 0, fun h => absurd h (pkOf_ne he), Nat.le_refl _, rfl, newV_nil _ _, hS.kp⟩)
      | (obtain rfl : er = 0 := by first | omega | (simp at hc1; omega)
         exact ⟨mkI true true ttl s d pr, x, L, c', fun _ => ⟨rfl, rfl⟩, hkc, rfl, ⟨viewV hS.ok 1 rfl, hn2'⟩, hS.kp⟩)
  try simp only [nrm] at hc1
  refine wp_skip ?_
  refine then_n (hK6 _ _ ?_); clear hK6 K6
  refine wp_seq_k ?_; intro K10 hK10
  refine wlit ?_
  refine wl_v (x_fa 4 Try.underlying98 rfl rfl ts_5 (tmP rfl rfl)) ?_
  refine wl_v (x_load Try.underlying5 rfl (tmP rfl rfl) (cellB hS.ok 0 rfl rfl)) ?_
  refine wl_v (x_fa 5 Try.underlying98 rfl rfl ts_26 (tmP rfl rfl)) ?_
  refine wl_v (x_loadA (cs := [_, _, _]) Try.underlying26 rfl ts_26 (tmP rfl rfl) (rangeB hS.ok 0 rfl rfl)) ?_
  refine wl_v (x_fa 8 Try.underlying98 rfl rfl ts_26 (tmP rfl rfl)) ?_
  refine wl_v (x_loadA (cs := [_, _, _]) Try.underlying26 rfl ts_26 (tmP rfl rfl) (rangeB hS.ok 0 rfl rfl)) ?_
  refine wl_v (x_fa 3 Try.underlying98 rfl rfl ts_5 (tmP rfl rfl)) ?_
  refine wl_v (x_load Try.underlying5 rfl (tmP rfl rfl) (cellB hS.ok 0 rfl rfl)) ?_
  refine wl_v (x_build (bc_takeL (tmA rfl rfl) <| bc_takeL (tmA rfl rfl) <| bc_skip (.int .u16 0) <| bc_skip (.int .u16 0) <| bc_take (tmI rfl rfl) <| bc_nil) (by kernel_rfl)) ?_
  refine wl_v (x_build (bc_take ev_c <| bc_take ev_c <| bc_take (tmI rfl rfl) <| bc_takeL (tmA rfl rfl) <| bc_skipL [.int .u16 0, .int .u16 0, .int .u32 0, .int .u32 0, .int .u8 0, .int .u16 0, .int .u16 0, .int .u16 0, .slice none 0 0, .slice none 0 0] <| bc_skipL [.int .u16 0, .int .u16 0, .int .u16 0, .slice none 0 0] <| bc_skipL [.int .u8 0, .int .u8 0, .int .u16 0, .int .u32 0, .slice none 0 0] <| bc_nil) (by kernel_rfl)) ?_
  refine wl_v (x_move (tmS rfl rfl)) ?_
  refine wl_e rfl ?_; intro K hK
  refine ow_storeA hS 2 rfl ts_46 (tmP rfl rfl) (tmA rfl rfl) rfl rfl rfl ?_
  clear hS; intro w hS
  try replace hS := St.nm (M' := [.blk _ _ [_, _, _, _, _, _, _, _, _, _, _], .vw _ _, .blk _ _ [_, _, _, _, _, _, _, _, _, _, _, _, _, _, _, _, _, _, _, _, _, _, _, _, _, _, _, _, _, _, _], .vw _ _]) hS rfl
  refine hK _ _ ?_; clear hK K
  refine wl_v (x_assign (tmS rfl rfl)) ?_
  refine wl_v (x_assign (ev_cN 0)) ?_
  refine wl_nil ?_
  refine then_n (hK10 _ _ ?_); clear hK10 K10
  refine wp_ret ?_
  refine inb_r ?_
  refine then_r ?_
  refine ret3 rfl (.cell rfl rfl (load_rowB (cs := [_, _, _, _, _, _, _, _, _, _, _, _, _, _, _, _, _, _, _, _, _, _, _, _, _, _, _, _, _, _, _]) hS.ok 2 rfl Try.underlying46 rfl ts_46 rfl)) (.tmp rfl (show _ = Value.slice _ _ _ from rfl)) (.tmp rfl (show _ = Value.int _ _ from rfl)) ?_
  first
    | (have he : er ≠ 0 := by first | omega | (simp at hc1; omega)
       exact ⟨Inf.Z, [], none, 0, fun h => absurd h (pkOf_ne he), Nat.le_refl _, rfl, newV_nil _ _, hS.kp⟩)
    | (obtain rfl : er = 0 := by first | omega | (simp at hc1; omega)
       exact ⟨mkI true true ttl s d pr, x, L, c', fun _ => ⟨rfl, rfl⟩, hkc, rfl, ⟨viewV hS.ok 1 rfl, hn2'⟩, hS.kp⟩)
set_option maxRecDepth 100000 in
set_option maxHeartbeats 8000000 in
theorem outer_four (l : List Nat) (hb : Bytes l) (hn : l.length ≤ 3000) (tos : Nat) (len : Int) (id : Nat) (stay more : Bool) (off ttl pr sum : Nat) (s d : Ad) (o x : List Nat) (er : Nat) (h4 : sixN l = 4)
    (hP : PartsK 38 l (fun O c => hdV tos len id stay more (off : Int) ttl pr sum s d O o.length c) o x er) : HdP 21 l (mkI false stay ttl s d pr) x (why4 er more off) := fun w0 A c hv hc => by
  have hS := (St.sv w0).vcons rfl hv
  refine ent (n := 75) Try.func21 rfl rfl ?_
  refine wp_seq_k ?_; intro K1 hK1
  refine wlit ?_
  refine wl_e rfl ?_; intro K hK
  refine ow_alloc hS tz_46 rfl ?_
  clear hS; intro g0_0 w hg0_0 hS
  refine hK _ _ ?_; clear hK K
  refine wl_v (x_assign ev_c) ?_
  refine wl_v (x_assign (ev_cN 0)) ?_
  refine wl_nil ?_
  refine then_n (hK1 _ _ ?_); clear hK1 K1
  refine wp_seq_k ?_; intro K2 hK2
  refine wp_seq_k ?_; intro K3 hK3
  refine wlit ?_
  refine wl_v (x_move (tmS rfl rfl)) ?_
  refine wl_e rfl ?_; intro K hK
  refine ow_call Try.func35 rfl rfl (evs_cons (tmS rfl rfl) <| evs_nil) (rsix_c l.length A c l _ (viewV hS.ok 1 rfl) rfl hb (by omega)) ?_
  rintro e w ⟨rfl, hk⟩
  refine ⟨_, rfl, ?_⟩
  replace hS := hS.kept hk
  clear hk
  refine hK _ _ ?_; clear hK K
  refine wl_nil ?_
  refine then_n (hK3 _ _ ?_); clear hK3 K3
  refine wp_block ?_
  refine wp_seq_k ?_; intro K4 hK4
  refine wlit ?_
  refine wl_v (x_eql (tmI rfl rfl) (ev_cN 6)) ?_
  refine wl_v (x_assign (tmB rfl rfl)) ?_
  refine wl_nil ?_
  refine then_n (hK4 _ _ ?_); clear hK4 K4
  refine cnd (tm rfl) (fun hc0 => ?_) (fun hc0 => ?_)
  · exfalso
    first | omega | (simp at hc0; omega)
  try simp only [nrm] at hc0
  refine wp_seq_k ?_; intro K5 hK5
  refine wlit ?_
  refine wl_v (x_eql (tmI rfl rfl) (ev_cN 4)) ?_
  refine wl_v (x_assign (tmB rfl rfl)) ?_
  refine wl_nil ?_
  refine then_n (hK5 _ _ ?_); clear hK5 K5
  refine cnds (tm rfl) (fun hc2 => ?_) (fun hc2 => ?_)
  · exfalso
    first | omega | (simp at hc2; omega)
  try simp only [nrm] at hc2
  refine wp_seq_k ?_; intro K6 hK6
  refine wlit ?_
  refine wl_v (x_move (tmS rfl rfl)) ?_
  refine wl_e rfl ?_; intro K hK
  refine ow_call Try.func38 rfl rfl (evs_cons (tmS rfl rfl) <| evs_nil) (hP _ A c (viewV hS.ok 1 rfl) hc) ?_
  rintro e w ⟨O, co, L, k, c', rfl, hkc, rfl, hn1, hn2, hk⟩
  refine ⟨_, rfl, ?_⟩
  have hn2' := (hn2.back hS.kp).2
  replace hS := hS.addn2 hk hn1 hn2 -- +vo,vx
  clear hn1 hn2 hk
  refine hK _ _ ?_; clear hK K
  refine wl_v (x_move (tmT rfl rfl)) ?_
  refine wl_v (x_ext (tmT rfl rfl) rfl) ?_
  refine wl_v (x_ext (tmT rfl rfl) rfl) ?_
  refine wl_v (x_ext (tmT rfl rfl) rfl) ?_
  refine wl_e rfl ?_; intro K hK
  refine ow_alloc hS tz_102 rfl ?_
  clear hS; intro g8_6 w hg8_6 hS
  refine hK _ _ ?_; clear hK K
  refine wl_e rfl ?_; intro K hK
  refine ow_storeA hS 0 rfl ts_102 (tmP rfl rfl) (tmA rfl rfl) rfl rfl rfl ?_
  clear hS; intro w hS
  try replace hS := St.nm (M' := [.blk _ _ [_, _, _, _, _, _, _, _, _, _, _, _, _, _, _, _], .vw _ _, .vw _ _, .blk _ _ [_, _, _, _, _, _, _, _, _, _, _, _, _, _, _, _, _, _, _, _, _, _, _, _, _, _, _, _, _, _, _], .vw _ _]) hS rfl
  refine hK _ _ ?_; clear hK K
  refine wl_v (x_assign (tmS rfl rfl)) ?_
  refine wl_v (x_assign (tmI rfl rfl)) ?_
  refine wl_nil ?_
  refine then_n (hK6 _ _ ?_); clear hK6 K6
  refine wp_seq_k ?_; intro K7 hK7
  refine wp_seq_k ?_; intro K8 hK8
  refine wlit ?_
  refine wl_v (x_move (tmI rfl rfl)) ?_
  refine wl_v (x_neq (tmI rfl rfl) (ev_cN 0)) ?_
  refine wl_nil ?_
  refine then_n (hK8 _ _ ?_); clear hK8 K8
  refine cnd (tm rfl) (fun hc3 => ?_) (fun hc3 => ?_)
  · skip
    try simp only [nrm] at hc3
    refine wp_seq_k ?_; intro K9 hK9
    refine wlit ?_
    refine wl_v (x_build (bc_skip (.bool false) <| bc_skip (.bool false) <| bc_skip (.int .u8 0) <| bc_skipL [.bool false, .int .u64 0, .int .u64 0, .bool false, .int .u64 0, .int .u64 0, .int .u16 0, .int .u16 0, .int .u8 0] <| bc_skipL [.int .u16 0, .int .u16 0, .int .u32 0, .int .u32 0, .int .u8 0, .int .u16 0, .int .u16 0, .int .u16 0, .slice none 0 0, .slice none 0 0] <| bc_skipL [.int .u16 0, .int .u16 0, .int .u16 0, .slice none 0 0] <| bc_skipL [.int .u8 0, .int .u8 0, .int .u16 0, .int .u32 0, .slice none 0 0] <| bc_nil) (by kernel_rfl)) ?_
    refine wl_v (x_move (tmI rfl rfl)) ?_
    refine wl_e rfl ?_; intro K hK
    refine ow_call Try.func37 rfl rfl (evs_cons (tmI rfl rfl) <| evs_nil) (rof_c (er : Int) _) ?_
    rintro e w ⟨rfl, hk⟩
    refine ⟨_, rfl, ?_⟩
    replace hS := hS.kept hk
    clear hk
    refine hK _ _ ?_; clear hK K
    refine wl_e rfl ?_; intro K hK
    refine ow_storeA hS 3 rfl ts_46 (tmP rfl rfl) (tmA rfl rfl) rfl rfl rfl ?_
    clear hS; intro w hS
    try replace hS := St.nm (M' := [.blk _ _ [_, _, _, _, _, _, _, _, _, _, _, _, _, _, _, _], .vw _ _, .vw _ _, .blk _ _ [_, _, _, _, _, _, _, _, _, _, _, _, _, _, _, _, _, _, _, _, _, _, _, _, _, _, _, _, _, _, _], .vw _ _]) hS rfl
    refine hK _ _ ?_; clear hK K
    refine wl_v (x_assign ev_c) ?_
    refine wl_v (x_assign (tmI rfl rfl)) ?_
    refine wl_nil ?_
    refine then_n (hK9 _ _ ?_); clear hK9 K9
    refine wp_ret ?_
    refine then_r ?_
    refine inb_r ?_
    refine then_r ?_
    refine ret3 rfl (.cell rfl rfl (load_rowB (cs := [_, _, _, _, _, _, _, _, _, _, _, _, _, _, _, _, _, _, _, _, _, _, _, _, _, _, _, _, _, _, _]) hS.ok 3 rfl Try.underlying46 rfl ts_46 rfl)) (.tmp rfl (show _ = Value.slice _ _ _ from rfl)) (.tmp rfl (show _ = Value.int _ _ from rfl)) ?_
    first
      | (have he : er ≠ 0 := by first | omega | (simp at hc3; omega)
         rw [why4_b (fun h => absurd h (pkOf_ne he))]
         exact ⟨Inf.Z, [], none, 0, fun h => absurd h (pkOf_ne he), Nat.le_refl _, rfl, newV_nil _ _, hS.kp⟩)
      | (obtain rfl : er = 0 := by first | omega | (simp at hc3; omega)
         have hm : (more || decide (0 < off)) = true := by first | (rw [hg11_2']; rfl) | (simp; right; first | omega | (simp at hc4; omega))
         rw [why4_a rfl hm]
         exact ⟨Inf.Z, [], none, 0, fun h => absurd h (by decide), Nat.le_refl _, rfl, newV_nil _ _, hS.kp⟩)
      | (obtain rfl : er = 0 := by first | omega | (simp at hc3; omega)
         have hm : (more || decide (0 < off)) = false := by rw [hg11_2', Bool.false_or]; exact decide_eq_false (by first | omega | (simp at hc4; omega))
         rw [why4_b (fun _ => hm)]
         exact ⟨mkI false stay ttl s d pr, x, L, c', fun _ => ⟨rfl, rfl⟩, hkc, rfl, ⟨viewV hS.ok 2 rfl, hn2'⟩, hS.kp⟩)
  try simp only [nrm] at hc3
  refine wp_skip ?_
  refine then_n (hK7 _ _ ?_); clear hK7 K7
  refine wp_seq_k ?_; intro K11 hK11
  refine wp_seq_k ?_; intro K12 hK12
  refine wlit ?_
  refine wl_v (x_fa 4 Try.underlying102 rfl rfl ts_4 (tmP rfl rfl)) ?_
  refine wl_v (x_load Try.underlying4 rfl (tmP rfl rfl) (cellB hS.ok 0 rfl rfl)) ?_
  refine wl_v (x_move (tmB rfl rfl)) ?_
  refine gs_wl (tm (t := 52) rfl) (fun hg11_2 => ?_) (fun hg11_2 => ?_)
  · have hg11_2' := hg11_2; (try simp only [nrm] at hg11_2')
    refine wl_s rfl (want_n rfl rfl rfl rfl (by rw [hg11_2]; rfl)) ?_
    refine wl_s rfl (want_n rfl rfl rfl rfl (by rw [hg11_2]; rfl)) ?_
    refine wl_s rfl (want_n rfl rfl rfl rfl (by rw [hg11_2]; rfl)) ?_
    refine wl_v (x_pickT (tmB rfl rfl) hg11_2 ev_c) ?_
    refine wl_nil ?_
    refine then_n (hK12 _ _ ?_); clear hK12 K12
    refine cnd_t (tmB rfl rfl) rfl ?_
    refine wp_seq_k ?_; intro K13 hK13
    refine wlit ?_
    refine wl_v (x_build (bc_skip (.bool false) <| bc_skip (.bool false) <| bc_skip (.int .u8 0) <| bc_skipL [.bool false, .int .u64 0, .int .u64 0, .bool false, .int .u64 0, .int .u64 0, .int .u16 0, .int .u16 0, .int .u8 0] <| bc_skipL [.int .u16 0, .int .u16 0, .int .u32 0, .int .u32 0, .int .u8 0, .int .u16 0, .int .u16 0, .int .u16 0, .slice none 0 0, .slice none 0 0] <| bc_skipL [.int .u16 0, .int .u16 0, .int .u16 0, .slice none 0 0] <| bc_skipL [.int .u8 0, .int .u8 0, .int .u16 0, .int .u32 0, .slice none 0 0] <| bc_nil) (by kernel_rfl)) ?_
    refine wl_e rfl ?_; intro K hK
    refine ow_storeA hS 3 rfl ts_46 (tmP rfl rfl) (tmA rfl rfl) rfl rfl rfl ?_
    clear hS; intro w hS
    try replace hS := St.nm (M' := [.blk _ _ [_, _, _, _, _, _, _, _, _, _, _, _, _, _, _, _], .vw _ _, .vw _ _, .blk _ _ [_, _, _, _, _, _, _, _, _, _, _, _, _, _, _, _, _, _, _, _, _, _, _, _, _, _, _, _, _, _, _], .vw _ _]) hS rfl
    refine hK _ _ ?_; clear hK K
    refine wl_v (x_assign ev_c) ?_
    refine wl_v (x_assign (ev_cN 4)) ?_
    refine wl_nil ?_
    refine then_n (hK13 _ _ ?_); clear hK13 K13
    refine wp_ret ?_
    refine then_r ?_
    refine inb_r ?_
    refine then_r ?_
    refine ret3 rfl (.cell rfl rfl (load_rowB (cs := [_, _, _, _, _, _, _, _, _, _, _, _, _, _, _, _, _, _, _, _, _, _, _, _, _, _, _, _, _, _, _]) hS.ok 3 rfl Try.underlying46 rfl ts_46 rfl)) (.tmp rfl (show _ = Value.slice _ _ _ from rfl)) (.tmp rfl (show _ = Value.int _ _ from rfl)) ?_
    first
      | (have he : er ≠ 0 := by first | omega | (simp at hc3; omega)
         rw [why4_b (fun h => absurd h (pkOf_ne he))]
         exact ⟨Inf.Z, [], none, 0, fun h => absurd h (pkOf_ne he), Nat.le_refl _, rfl, newV_nil _ _, hS.kp⟩)
      | (obtain rfl : er = 0 := by first | omega | (simp at hc3; omega)
         have hm : (more || decide (0 < off)) = true := by first | (rw [hg11_2']; rfl) | (simp; right; first | omega | (simp at hc4; omega))
         rw [why4_a rfl hm]
         exact ⟨Inf.Z, [], none, 0, fun h => absurd h (by decide), Nat.le_refl _, rfl, newV_nil _ _, hS.kp⟩)
      | (obtain rfl : er = 0 := by first | omega | (simp at hc3; omega)
         have hm : (more || decide (0 < off)) = false := by rw [hg11_2', Bool.false_or]; exact decide_eq_false (by first | omega | (simp at hc4; omega))
         rw [why4_b (fun _ => hm)]
         exact ⟨mkI false stay ttl s d pr, x, L, c', fun _ => ⟨rfl, rfl⟩, hkc, rfl, ⟨viewV hS.ok 2 rfl, hn2'⟩, hS.kp⟩)
  have hg11_2' := hg11_2; (try simp only [nrm] at hg11_2')
  refine wl_gv (want_y rfl rfl rfl rfl (by rw [hg11_2]; rfl)) (x_fa 5 Try.underlying102 rfl rfl ts_3 (tmP rfl rfl)) ?_
  refine wl_gv (want_y rfl rfl rfl rfl (by rw [hg11_2]; rfl)) (x_load Try.underlying3 rfl (tmP rfl rfl) (cellB hS.ok 0 rfl rfl)) ?_
  refine wl_gv (want_y rfl rfl rfl rfl (by rw [hg11_2]; rfl)) (x_gtr (tmI rfl rfl) (ev_cN 0)) ?_
  refine wl_v (x_pickF (tmB rfl rfl) hg11_2 (tmB rfl rfl)) ?_
  refine wl_nil ?_
  refine then_n (hK12 _ _ ?_); clear hK12 K12
  refine cnd (tm rfl) (fun hc4 => ?_) (fun hc4 => ?_)
  · skip
    try simp only [nrm] at hc4
    refine wp_seq_k ?_; intro K15 hK15
    refine wlit ?_
    refine wl_v (x_build (bc_skip (.bool false) <| bc_skip (.bool false) <| bc_skip (.int .u8 0) <| bc_skipL [.bool false, .int .u64 0, .int .u64 0, .bool false, .int .u64 0, .int .u64 0, .int .u16 0, .int .u16 0, .int .u8 0] <| bc_skipL [.int .u16 0, .int .u16 0, .int .u32 0, .int .u32 0, .int .u8 0, .int .u16 0, .int .u16 0, .int .u16 0, .slice none 0 0, .slice none 0 0] <| bc_skipL [.int .u16 0, .int .u16 0, .int .u16 0, .slice none 0 0] <| bc_skipL [.int .u8 0, .int .u8 0, .int .u16 0, .int .u32 0, .slice none 0 0] <| bc_nil) (by kernel_rfl)) ?_
    refine wl_e rfl ?_; intro K hK
    refine ow_storeA hS 3 rfl ts_46 (tmP rfl rfl) (tmA rfl rfl) rfl rfl rfl ?_
    clear hS; intro w hS
    try replace hS := St.nm (M' := [.blk _ _ [_, _, _, _, _, _, _, _, _, _, _, _, _, _, _, _], .vw _ _, .vw _ _, .blk _ _ [_, _, _, _, _, _, _, _, _, _, _, _, _, _, _, _, _, _, _, _, _, _, _, _, _, _, _, _, _, _, _], .vw _ _]) hS rfl
    refine hK _ _ ?_; clear hK K
    refine wl_v (x_assign ev_c) ?_
    refine wl_v (x_assign (ev_cN 4)) ?_
    refine wl_nil ?_
    refine then_n (hK15 _ _ ?_); clear hK15 K15
    refine wp_ret ?_
    refine then_r ?_
    refine inb_r ?_
    refine then_r ?_
    refine ret3 rfl (.cell rfl rfl (load_rowB (cs := [_, _, _, _, _, _, _, _, _, _, _, _, _, _, _, _, _, _, _, _, _, _, _, _, _, _, _, _, _, _, _]) hS.ok 3 rfl Try.underlying46 rfl ts_46 rfl)) (.tmp rfl (show _ = Value.slice _ _ _ from rfl)) (.tmp rfl (show _ = Value.int _ _ from rfl)) ?_
    first
      | (have he : er ≠ 0 := by first | omega | (simp at hc3; omega)
         rw [why4_b (fun h => absurd h (pkOf_ne he))]
         exact ⟨Inf.Z, [], none, 0, fun h => absurd h (pkOf_ne he), Nat.le_refl _, rfl, newV_nil _ _, hS.kp⟩)
      | (obtain rfl : er = 0 := by first | omega | (simp at hc3; omega)
         have hm : (more || decide (0 < off)) = true := by first | (rw [hg11_2']; rfl) | (simp; right; first | omega | (simp at hc4; omega))
         rw [why4_a rfl hm]
         exact ⟨Inf.Z, [], none, 0, fun h => absurd h (by decide), Nat.le_refl _, rfl, newV_nil _ _, hS.kp⟩)
      | (obtain rfl : er = 0 := by first | omega | (simp at hc3; omega)
         have hm : (more || decide (0 < off)) = false := by rw [hg11_2', Bool.false_or]; exact decide_eq_false (by first | omega | (simp at hc4; omega))
         rw [why4_b (fun _ => hm)]
         exact ⟨mkI false stay ttl s d pr, x, L, c', fun _ => ⟨rfl, rfl⟩, hkc, rfl, ⟨viewV hS.ok 2 rfl, hn2'⟩, hS.kp⟩)
  try simp only [nrm] at hc4
  refine wp_skip ?_
  refine then_n (hK11 _ _ ?_); clear hK11 K11
  refine wp_seq_k ?_; intro K17 hK17
  refine wlit ?_
  refine wl_v (x_fa 3 Try.underlying102 rfl rfl ts_4 (tmP rfl rfl)) ?_
  refine wl_v (x_load Try.underlying4 rfl (tmP rfl rfl) (cellB hS.ok 0 rfl rfl)) ?_
  refine wl_v (x_fa 6 Try.underlying102 rfl rfl ts_5 (tmP rfl rfl)) ?_
  refine wl_v (x_load Try.underlying5 rfl (tmP rfl rfl) (cellB hS.ok 0 rfl rfl)) ?_
  refine wl_v (x_fa 9 Try.underlying102 rfl rfl ts_26 (tmP rfl rfl)) ?_
  refine wl_v (x_loadA (cs := [_, _, _]) Try.underlying26 rfl ts_26 (tmP rfl rfl) (rangeB hS.ok 0 rfl rfl)) ?_
  refine wl_v (x_fa 12 Try.underlying102 rfl rfl ts_26 (tmP rfl rfl)) ?_
  refine wl_v (x_loadA (cs := [_, _, _]) Try.underlying26 rfl ts_26 (tmP rfl rfl) (rangeB hS.ok 0 rfl rfl)) ?_
  refine wl_v (x_fa 7 Try.underlying102 rfl rfl ts_5 (tmP rfl rfl)) ?_
  refine wl_v (x_load Try.underlying5 rfl (tmP rfl rfl) (cellB hS.ok 0 rfl rfl)) ?_
  refine wl_v (x_build (bc_takeL (tmA rfl rfl) <| bc_takeL (tmA rfl rfl) <| bc_skip (.int .u16 0) <| bc_skip (.int .u16 0) <| bc_take (tmI rfl rfl) <| bc_nil) (by kernel_rfl)) ?_
  refine wl_v (x_build (bc_skip (.bool false) <| bc_take (tmB rfl rfl) <| bc_take (tmI rfl rfl) <| bc_takeL (tmA rfl rfl) <| bc_skipL [.int .u16 0, .int .u16 0, .int .u32 0, .int .u32 0, .int .u8 0, .int .u16 0, .int .u16 0, .int .u16 0, .slice none 0 0, .slice none 0 0] <| bc_skipL [.int .u16 0, .int .u16 0, .int .u16 0, .slice none 0 0] <| bc_skipL [.int .u8 0, .int .u8 0, .int .u16 0, .int .u32 0, .slice none 0 0] <| bc_nil) (by kernel_rfl)) ?_
  refine wl_v (x_move (tmS rfl rfl)) ?_
  refine wl_e rfl ?_; intro K hK
  refine ow_storeA hS 3 rfl ts_46 (tmP rfl rfl) (tmA rfl rfl) rfl rfl rfl ?_
  clear hS; intro w hS
  try replace hS := St.nm (M' := [.blk _ _ [_, _, _, _, _, _, _, _, _, _, _, _, _, _, _, _], .vw _ _, .vw _ _, .blk _ _ [_, _, _, _, _, _, _, _, _, _, _, _, _, _, _, _, _, _, _, _, _, _, _, _, _, _, _, _, _, _, _], .vw _ _]) hS rfl
  refine hK _ _ ?_; clear hK K
  refine wl_v (x_assign (tmS rfl rfl)) ?_
  refine wl_v (x_assign (ev_cN 0)) ?_
  refine wl_nil ?_
  refine then_n (hK17 _ _ ?_); clear hK17 K17
  refine wp_ret ?_
  refine inb_r ?_
  refine then_r ?_
  refine ret3 rfl (.cell rfl rfl (load_rowB (cs := [_, _, _, _, _, _, _, _, _, _, _, _, _, _, _, _, _, _, _, _, _, _, _, _, _, _, _, _, _, _, _]) hS.ok 3 rfl Try.underlying46 rfl ts_46 rfl)) (.tmp rfl (show _ = Value.slice _ _ _ from rfl)) (.tmp rfl (show _ = Value.int _ _ from rfl)) ?_
  first
    | (have he : er ≠ 0 := by first | omega | (simp at hc3; omega)
       rw [why4_b (fun h => absurd h (pkOf_ne he))]
       exact ⟨Inf.Z, [], none, 0, fun h => absurd h (pkOf_ne he), Nat.le_refl _, rfl, newV_nil _ _, hS.kp⟩)
    | (obtain rfl : er = 0 := by first | omega | (simp at hc3; omega)
       have hm : (more || decide (0 < off)) = true := by first | (rw [hg11_2']; rfl) | (simp; right; first | omega | (simp at hc4; omega))
       rw [why4_a rfl hm]
       exact ⟨Inf.Z, [], none, 0, fun h => absurd h (by decide), Nat.le_refl _, rfl, newV_nil _ _, hS.kp⟩)
    | (obtain rfl : er = 0 := by first | omega | (simp at hc3; omega)
       have hm : (more || decide (0 < off)) = false := by rw [hg11_2', Bool.false_or]; exact decide_eq_false (by first | omega | (simp at hc4; omega))
       rw [why4_b (fun _ => hm)]
       exact ⟨mkI false stay ttl s d pr, x, L, c', fun _ => ⟨rfl, rfl⟩, hkc, rfl, ⟨viewV hS.ok 2 rfl, hn2'⟩, hS.kp⟩)
end Go.Proofs.Ytcobjneobdihkaa
