/- steer: options of a segment by both sides' Parse, with the room. Conditions: none but bounds. -/
import Derived.Test.YtcobjneobdihkaaTcpR
import Derived.Test.YtcobjneobdihkaaTcpStamps
namespace Go.Proofs.Ytcobjneobdihkaa
open Go.ChangeShapes Go.WideShapes Go.ChangeAt Go.RowKit
set_option maxRecDepth 100000 in
set_option maxHeartbeats 4000000 in
theorem rtcp_parse_k (n : Nat) (A : Option Addr) (c : Nat) (l : List Nat) (w0 : World) (hv : View w0 w0.heap.size A (l.map u8v)) (hl : l.length = n) (hc : n ≤ c) (hb : Bytes l) (hn4 : n ≤ 1000000)
    (sz : Nat) (hsz : sz = nth l 12 / 16 * 4) (h1 : 20 ≤ sz) (h2 : nth l 12 % 16 = 0) (h3 : sz ≤ n) :
    Calls Try.prog 19 #[.slice A n c] w0 fun e w' => ∃ O co L cl, e = .returned (.tuple #[.agg (segV (getN l 0 2) (getN l 2 2) (getN l 4 4) (getN l 8 4) (getN l 13 1) (getN l 14 2) (getN l 16 2) (getN l 18 2) O (sz - 20) co L (n - sz) cl).toArray, .int .i64 0]) ∧
      NewV w0 w' O (((l.drop 20).take (sz - 20)).map u8v) ∧ NewV w0 w' L ((l.drop sz).map u8v) ∧ sz - 20 ≤ co ∧ Kp [] w0 w' := by
  have hS := (St.sv w0).vcons rfl hv
  have hqb : l.getD 12 0 < 256 := nth_lt hb 12
  have hz : l.getD 12 0 / 16 * 4 = sz := hsz.symm
  have h2' : l.getD 12 0 % 16 = 0 := h2
  obtain ⟨b4, o4, rfl⟩ := view_some hv (by rw [List.length_map]; omega)
  have g0 := getN_lt hb 0 2
  have g2 := getN_lt hb 2 2
  have g4 := getN_lt hb 4 4
  have g8 := getN_lt hb 8 4
  have g14 := getN_lt hb 14 2
  have g16 := getN_lt hb 16 2
  have g18 := getN_lt hb 18 2
  have e13 : getN l 13 1 = l.getD 13 0 := getN_one (by omega)
  refine ent (n := 69) Try.func19 rfl rfl ?_
  refine wp_seq_k ?_; intro K1 hK1
  refine wlit ?_
  refine wl_e rfl ?_; intro K hK
  refine ow_alloc hS tz_40 rfl ?_
  clear hS; intro g0_0 w hg0_0 hS
  refine hK _ _ ?_; clear hK K
  refine wl_v (x_assign (ev_cN 0)) ?_
  refine wl_nil ?_
  refine then_n (hK1 _ _ ?_); clear hK1 K1
  refine wp_seq_k ?_; intro K2 hK2
  refine wp_seq_k ?_; intro K3 hK3
  refine wlit ?_
  refine wl_v (x_move (tmS rfl rfl)) ?_
  refine wl_v (x_len Try.underlying22 (tmS rfl rfl)) ?_
  refine wl_v (x_lss (tmI rfl rfl) (ev_cN 20)) ?_
  refine wl_nil ?_
  refine then_n (hK3 _ _ ?_); clear hK3 K3
  refine cnd (tm rfl) (fun hc0 => ?_) (fun hc0 => ?_)
  · exfalso
    simp at hc0
    omega
  all_goals
   try simp only [nrm] at hc0
   refine wp_skip ?_
   refine then_n (hK2 _ _ ?_); clear hK2 K2
   refine wp_seq_k ?_; intro K4 hK4
   refine wlit ?_
   refine wl_v (x_move (tmS rfl rfl)) ?_
   refine wl_v (x_ixs1 Try.underlying22 ts_5 (tmS rfl rfl) (ev_cN 12) (by omega)) ?_
   refine wl_v (x_load Try.underlying5 rfl (tmP rfl rfl) (cellV hS.ok 1 rfl (getm (by omega)))) ?_
   refine wl_v (x_quoN (tmI rfl rfl) (ev_cN 16) (by omega) (fit_u8 (by omega))) ?_
   refine wl_v (x_convN Try.underlying5 Try.underlying3 (tmI rfl rfl) (fit_i64 (by omega))) ?_
   refine wl_v (x_mulN (tmI rfl rfl) (ev_cN 4) (fit_i64 (by omega))) ?_
   refine wl_v (x_assign (tmI rfl (congrArg (fun q : Nat => Value.int .i64 (q : Int)) hz))) ?_
   refine wl_nil ?_
   refine then_n (hK4 _ _ ?_); clear hK4 K4
   refine wp_seq_k ?_; intro K5 hK5
   refine wp_seq_k ?_; intro K6 hK6
   refine wlit ?_
   refine wl_v (x_move (tmI rfl rfl)) ?_
   refine wl_v (x_lss (tmI rfl rfl) (ev_cN 20)) ?_
   refine wl_v (x_move (tmB rfl rfl)) ?_
   refine gs_wl (tm (t := 18) rfl) (fun hg4_2 => ?_) (fun hg4_2 => ?_)
   · have hg4_2' := hg4_2; (try simp only [nrm] at hg4_2'); try (exfalso; first | with_reducible exact absurd hg4_2 Bool.false_ne_true | with_reducible exact absurd hg4_2.symm Bool.false_ne_true | omega | (simp at hg4_2; done))
     all_goals
      refine wl_s rfl (want_n rfl rfl rfl rfl (by rw [hg4_2]; rfl)) ?_
      refine wl_s rfl (want_n rfl rfl rfl rfl (by rw [hg4_2]; rfl)) ?_
      refine wl_s rfl (want_n rfl rfl rfl rfl (by rw [hg4_2]; rfl)) ?_
      refine wl_s rfl (want_n rfl rfl rfl rfl (by rw [hg4_2]; rfl)) ?_
      refine wl_s rfl (want_n rfl rfl rfl rfl (by rw [hg4_2]; rfl)) ?_
      refine wl_v (x_pickT (tmB rfl rfl) hg4_2 ev_c) ?_
      refine wl_nil ?_
      refine then_n (hK6 _ _ ?_); clear hK6 K6
      refine cnd_t (tmB rfl rfl) rfl ?_
      refine wp_seq_k ?_; intro K7 hK7
      refine wlit ?_
      refine wl_v (x_build (bc_skip (.int .u16 0) <| bc_skip (.int .u16 0) <| bc_skip (.int .u32 0) <| bc_skip (.int .u32 0) <| bc_skip (.int .u8 0) <| bc_skip (.int .u16 0) <| bc_skip (.int .u16 0) <| bc_skip (.int .u16 0) <| bc_skip (.slice none 0 0) <| bc_skip (.slice none 0 0) <| bc_nil) (by kernel_rfl)) ?_
      refine wl_e rfl ?_; intro K hK
      refine ow_storeA hS 0 rfl ts_40 (tmP rfl rfl) (tmA rfl rfl) rfl rfl rfl ?_
      clear hS; intro w hS
      try replace hS := St.nm (M' := [.blk _ _ [_, _, _, _, _, _, _, _, _, _], .vw _ _]) hS rfl
      refine hK _ _ ?_; clear hK K
      refine wl_v (x_assign (ev_cN 21)) ?_
      refine wl_nil ?_
      refine then_n (hK7 _ _ ?_); clear hK7 K7
      refine wp_ret ?_
      refine then_r ?_
      refine ret2 rfl (.cell rfl rfl (load_rowB (cs := [_, _, _, _, _, _, _, _, _, _]) hS.ok 0 rfl Try.underlying40 rfl ts_40 rfl)) (.tmp rfl (show _ = Value.int _ _ from rfl)) ?_
      have hcp := row_cap (hS.rowOk 3 rfl) (by decide)
      refine ⟨g9_4, cg9_4, g10_4, cg10_4, by rw [e13]; rfl, hS.newv 3 rfl, hS.newv 1 rfl, by omega, hS.kp⟩
   have hg4_2' := hg4_2; (try simp only [nrm] at hg4_2')
   all_goals
    refine wl_gv (want_y rfl rfl rfl rfl (by rw [hg4_2]; rfl)) (x_move (tmS rfl rfl)) ?_
    refine wl_gv (want_y rfl rfl rfl rfl (by rw [hg4_2]; rfl)) (x_ixs1 Try.underlying22 ts_5 (tmS rfl rfl) (ev_cN 12) (by omega)) ?_
    refine wl_gv (want_y rfl rfl rfl rfl (by rw [hg4_2]; rfl)) (x_load Try.underlying5 rfl (tmP rfl rfl) (cellV hS.ok 1 rfl (getm (by omega)))) ?_
    refine wl_gv (want_y rfl rfl rfl rfl (by rw [hg4_2]; rfl)) (x_remN (tmI rfl rfl) (ev_cN 16) (by omega)) ?_
    refine wl_gv (want_y rfl rfl rfl rfl (by rw [hg4_2]; rfl)) (x_neq (tmI rfl rfl) (ev_cN 0)) ?_
    refine wl_v (x_pickF (tmB rfl rfl) hg4_2 (tmB rfl rfl)) ?_
    refine wl_nil ?_
    refine then_n (hK6 _ _ ?_); clear hK6 K6
    refine cnd (tm rfl) (fun hc1 => ?_) (fun hc1 => ?_)
    · exfalso
      simp only [nrm] at hc1
      omega
    all_goals
     try simp only [nrm] at hc1
     refine wp_skip ?_
     refine then_n (hK5 _ _ ?_); clear hK5 K5
     refine wp_seq_k ?_; intro K9 hK9
     refine wp_seq_k ?_; intro K10 hK10
     refine wlit ?_
     refine wl_v (x_move (tmI rfl rfl)) ?_
     refine wl_v (x_move (tmS rfl rfl)) ?_
     refine wl_v (x_len Try.underlying22 (tmS rfl rfl)) ?_
     refine wl_v (x_gtr (tmI rfl rfl) (tmI rfl rfl)) ?_
     refine wl_nil ?_
     refine then_n (hK10 _ _ ?_); clear hK10 K10
     refine cnd (tm rfl) (fun hc2 => ?_) (fun hc2 => ?_)
     · exfalso
       simp at hc2
       omega
     all_goals
      try simp only [nrm] at hc2
      refine wp_skip ?_
      refine then_n (hK9 _ _ ?_); clear hK9 K9
      refine wp_seq_k ?_; intro K11 hK11
      refine rg_startk 0 hS mixed_ ?_
      clear hS; intro w hS
      refine rg_take 0 rfl rfl (by kernel_rfl) (by kernel_rfl) (by kernel_rfl) (want_0) (fun w hok => x_move (tmS rfl rfl)) ?_
      refine rg_take 3 rfl rfl (by kernel_rfl) (by kernel_rfl) (by kernel_rfl) (want_0) (fun w hok => x_move (tmS rfl rfl)) ?_
      refine rg_take 6 rfl rfl (by kernel_rfl) (by kernel_rfl) (by kernel_rfl) (want_0) (fun w hok => x_move (tmS rfl rfl)) ?_
      refine rg_take 9 rfl rfl (by kernel_rfl) (by kernel_rfl) (by kernel_rfl) (want_0) (fun w hok => x_move (tmS rfl rfl)) ?_
      refine rg_take 12 rfl rfl (by kernel_rfl) (by kernel_rfl) (by kernel_rfl) (want_0) (fun w hok => x_move (tmS rfl rfl)) ?_
      refine rg_take 13 rfl rfl (by kernel_rfl) (by kernel_rfl) (by kernel_rfl) (want_0) (fun w hok => x_ixs1 Try.underlying22 ts_5 (tmS rfl rfl) (ev_cN 13) (by omega)) ?_
      refine rg_take 14 rfl rfl (by kernel_rfl) (by kernel_rfl) (by kernel_rfl) (want_0) (fun w hok => x_load Try.underlying5 rfl (tmP rfl rfl) (cellV hok 1 rfl (getm (by omega)))) ?_
      refine rg_take 15 rfl rfl (by kernel_rfl) (by kernel_rfl) (by kernel_rfl) (want_0) (fun w hok => x_move (tmS rfl rfl)) ?_
      refine rg_take 18 rfl rfl (by kernel_rfl) (by kernel_rfl) (by kernel_rfl) (want_0) (fun w hok => x_move (tmS rfl rfl)) ?_
      refine rg_take 21 rfl rfl (by kernel_rfl) (by kernel_rfl) (by kernel_rfl) (want_0) (fun w hok => x_move (tmS rfl rfl)) ?_
      refine rg_step2 1 25 rfl rfl (by kernel_rfl) (want_0) (want_0) (oks_drop hS 0 rfl) ?_ ?_
      · intro K hK
        refine ow_call Try.func17 rfl rfl (evs_cons (tmS rfl rfl) <| evs_cons (ev_cN 0) <| evs_cons (ev_cN 2) <| evs_nil) (get_c n _ c l _ _ _ (viewV hS.ok 1 rfl) hl hc hn4 hb (by omega) (by omega)) ?_
        rintro e w ⟨rfl, hk⟩
        refine ⟨_, rfl, ?_⟩
        replace hS := hS.kept hk
        clear hk
        refine hK _ _ ?_; clear hK K
        refine rg_take 2 rfl rfl (by kernel_rfl) (by kernel_rfl) (by kernel_rfl) (want_0) (fun w hok => x_convN Try.underlying24 Try.underlying27 (tmI rfl rfl) (fit_u16 (by omega))) ?_
        refine rg_step2 4 25 rfl rfl (by kernel_rfl) (want_0) (want_0) (oks_drop hS 0 rfl) ?_ ?_
        · intro K hK
          refine ow_call Try.func17 rfl rfl (evs_cons (tmS rfl rfl) <| evs_cons (ev_cN 2) <| evs_cons (ev_cN 2) <| evs_nil) (get_c n _ c l _ _ _ (viewV hS.ok 1 rfl) hl hc hn4 hb (by omega) (by omega)) ?_
          rintro e w ⟨rfl, hk⟩
          refine ⟨_, rfl, ?_⟩
          replace hS := hS.kept hk
          clear hk
          refine hK _ _ ?_; clear hK K
          refine rg_take 5 rfl rfl (by kernel_rfl) (by kernel_rfl) (by kernel_rfl) (want_0) (fun w hok => x_convN Try.underlying24 Try.underlying27 (tmI rfl rfl) (fit_u16 (by omega))) ?_
          refine rg_step2 7 25 rfl rfl (by kernel_rfl) (want_0) (want_0) (oks_drop hS 0 rfl) ?_ ?_
          · intro K hK
            refine ow_call Try.func17 rfl rfl (evs_cons (tmS rfl rfl) <| evs_cons (ev_cN 4) <| evs_cons (ev_cN 4) <| evs_nil) (get_c n _ c l _ _ _ (viewV hS.ok 1 rfl) hl hc hn4 hb (by omega) (by omega)) ?_
            rintro e w ⟨rfl, hk⟩
            refine ⟨_, rfl, ?_⟩
            replace hS := hS.kept hk
            clear hk
            refine hK _ _ ?_; clear hK K
            refine rg_take 8 rfl rfl (by kernel_rfl) (by kernel_rfl) (by kernel_rfl) (want_0) (fun w hok => x_convN Try.underlying24 Try.underlying30 (tmI rfl rfl) (fit_u32 (by omega))) ?_
            refine rg_step2 10 25 rfl rfl (by kernel_rfl) (want_0) (want_0) (oks_drop hS 0 rfl) ?_ ?_
            · intro K hK
              refine ow_call Try.func17 rfl rfl (evs_cons (tmS rfl rfl) <| evs_cons (ev_cN 8) <| evs_cons (ev_cN 4) <| evs_nil) (get_c n _ c l _ _ _ (viewV hS.ok 1 rfl) hl hc hn4 hb (by omega) (by omega)) ?_
              rintro e w ⟨rfl, hk⟩
              refine ⟨_, rfl, ?_⟩
              replace hS := hS.kept hk
              clear hk
              refine hK _ _ ?_; clear hK K
              refine rg_take 11 rfl rfl (by kernel_rfl) (by kernel_rfl) (by kernel_rfl) (want_0) (fun w hok => x_convN Try.underlying24 Try.underlying30 (tmI rfl rfl) (fit_u32 (by omega))) ?_
              refine rg_step2 16 25 rfl rfl (by kernel_rfl) (want_0) (want_0) (oks_drop hS 0 rfl) ?_ ?_
              · intro K hK
                refine ow_call Try.func17 rfl rfl (evs_cons (tmS rfl rfl) <| evs_cons (ev_cN 14) <| evs_cons (ev_cN 2) <| evs_nil) (get_c n _ c l _ _ _ (viewV hS.ok 1 rfl) hl hc hn4 hb (by omega) (by omega)) ?_
                rintro e w ⟨rfl, hk⟩
                refine ⟨_, rfl, ?_⟩
                replace hS := hS.kept hk
                clear hk
                refine hK _ _ ?_; clear hK K
                refine rg_take 17 rfl rfl (by kernel_rfl) (by kernel_rfl) (by kernel_rfl) (want_0) (fun w hok => x_convN Try.underlying24 Try.underlying27 (tmI rfl rfl) (fit_u16 (by omega))) ?_
                refine rg_step2 19 25 rfl rfl (by kernel_rfl) (want_0) (want_0) (oks_drop hS 0 rfl) ?_ ?_
                · intro K hK
                  refine ow_call Try.func17 rfl rfl (evs_cons (tmS rfl rfl) <| evs_cons (ev_cN 16) <| evs_cons (ev_cN 2) <| evs_nil) (get_c n _ c l _ _ _ (viewV hS.ok 1 rfl) hl hc hn4 hb (by omega) (by omega)) ?_
                  rintro e w ⟨rfl, hk⟩
                  refine ⟨_, rfl, ?_⟩
                  replace hS := hS.kept hk
                  clear hk
                  refine hK _ _ ?_; clear hK K
                  refine rg_take 20 rfl rfl (by kernel_rfl) (by kernel_rfl) (by kernel_rfl) (want_0) (fun w hok => x_convN Try.underlying24 Try.underlying27 (tmI rfl rfl) (fit_u16 (by omega))) ?_
                  refine rg_step2 22 25 rfl rfl (by kernel_rfl) (want_0) (want_0) (oks_drop hS 0 rfl) ?_ ?_
                  · intro K hK
                    refine ow_call Try.func17 rfl rfl (evs_cons (tmS rfl rfl) <| evs_cons (ev_cN 18) <| evs_cons (ev_cN 2) <| evs_nil) (get_c n _ c l _ _ _ (viewV hS.ok 1 rfl) hl hc hn4 hb (by omega) (by omega)) ?_
                    rintro e w ⟨rfl, hk⟩
                    refine ⟨_, rfl, ?_⟩
                    replace hS := hS.kept hk
                    clear hk
                    refine hK _ _ ?_; clear hK K
                    refine rg_take 23 rfl rfl (by kernel_rfl) (by kernel_rfl) (by kernel_rfl) (want_0) (fun w hok => x_convN Try.underlying24 Try.underlying27 (tmI rfl rfl) (fit_u16 (by omega))) ?_
                    refine rg_take 24 rfl rfl (by kernel_rfl) (by kernel_rfl) (by kernel_rfl) (want_0) (fun w hok => x_build (bc_take (tmI rfl rfl) <| bc_take (tmI rfl rfl) <| bc_take (tmI rfl rfl) <| bc_take (tmI rfl rfl) <| bc_take (tmI rfl rfl) <| bc_take (tmI rfl rfl) <| bc_take (tmI rfl rfl) <| bc_take (tmI rfl rfl) <| bc_skip (.slice none 0 0) <| bc_skip (.slice none 0 0) <| bc_nil) (by kernel_rfl)) ?_
                    refine rg_step 25 rfl (by kernel_rfl) (want_0) (oks_drop hS 0 rfl) ?_; intro K hK
                    refine ow_alloc hS tz_40 rfl ?_
                    clear hS; intro g8_25 w hg8_25 hS
                    refine hK _ _ ?_; clear hK K
                    refine rg_step 26 rfl (by kernel_rfl) (want_0) (oks_drop hS 1 rfl) ?_; intro K hK
                    refine ow_storeA hS 0 rfl ts_40 (tmP rfl rfl) (tmA rfl rfl) rfl rfl rfl ?_
                    clear hS; intro w hS
                    try replace hS := St.nm (M' := [.blk _ _ [_, _, _, _, _, _, _, _, _, _], .blk _ _ [_, _, _, _, _, _, _, _, _, _], .vw _ _]) hS rfl
                    refine hK _ _ ?_; clear hK K
                    refine rg_done (oks_drop hS 1 rfl) (by kernel_rfl) ?_
                    refine then_n (hK11 _ _ ?_); clear hK11 K11
                    refine wp_seq_k ?_; intro K12 hK12
                    refine wlit ?_
                    refine wl_e rfl ?_; intro K hK
                    refine ow_build0 hS Try.underlying22 tz_5 rfl rfl ?_
                    clear hS; intro g9_0 w hg9_0 hS
                    refine hK _ _ ?_; clear hK K
                    refine wl_v (x_move (tmS rfl rfl)) ?_
                    refine wl_v (x_move (tmI rfl rfl)) ?_
                    refine wl_v (x_sliceLH Try.underlying22 ts_5 (tmS rfl rfl) (ev_cN 20) (tmI rfl rfl) (by omega)) ?_
                    replace hS := hS.cutb 3 20 (sz - 20) rfl (by omega : l.length ≤ c)
                    refine wl_e rfl ?_; intro K hK
                    refine ow_appendV hS 1 rfl (viewV hS.ok 0 rfl) Try.underlying22 tz_5 rfl (tmS rfl rfl) (tmS rfl rfl) (by first | exact u8v_one _ | (intro u hu; simp at hu; first | (rcases hu with rfl | rfl <;> rfl) | (obtain ⟨_, _, rfl⟩ := hu; rfl))) ⟨by decide, by first | rfl | (simp; done) | (simp; omega)⟩ (by simp only [maxLen]; omega) (by omega) ?_; clear hS; intro g9_4 cg9_4 w hAg9_4 hCg9_4 hS
                    refine hK _ _ ?_; clear hK K
                    refine wl_v (x_fa 8 Try.underlying40 rfl rfl ts_22 (tmP rfl rfl)) ?_
                    refine wl_e rfl ?_; intro K hK
                    refine ow_store hS 2 rfl ts_22 (tmP rfl rfl) (tmS rfl rfl) rfl rfl ?_
                    clear hS; intro w hS
                    try replace hS := St.nm (M' := [.vw _ _, .row _ _ _ _ _, .blk _ _ [_, _, _, _, _, _, _, _, _, _], .blk _ _ [_, _, _, _, _, _, _, _, _, _], .vw _ _]) hS rfl
                    refine hK _ _ ?_; clear hK K
                    refine wl_nil ?_
                    simp only [List.nil_append, Nat.zero_add] at hS
                    refine then_n (hK12 _ _ ?_); clear hK12 K12
                    refine wp_seq_k ?_; intro K13 hK13
                    refine wlit ?_
                    refine wl_e rfl ?_; intro K hK
                    refine ow_build0 hS Try.underlying22 tz_5 rfl rfl ?_
                    clear hS; intro g10_0 w hg10_0 hS
                    refine hK _ _ ?_; clear hK K
                    refine wl_v (x_move (tmS rfl rfl)) ?_
                    refine wl_v (x_move (tmI rfl rfl)) ?_
                    refine wl_v (x_sliceL Try.underlying22 ts_5 (tmS rfl rfl) (tmI rfl rfl) (by omega)) ?_
                    replace hS := hS.dropb 5 sz rfl (by omega : l.length ≤ c)
                    refine wl_e rfl ?_; intro K hK
                    refine ow_appendV hS 1 rfl (viewV hS.ok 0 rfl) Try.underlying22 tz_5 rfl (tmS rfl rfl) (tmS rfl rfl) (by first | exact u8v_one _ | (intro u hu; simp at hu; first | (rcases hu with rfl | rfl <;> rfl) | (obtain ⟨_, _, rfl⟩ := hu; rfl))) ⟨by decide, by first | rfl | (simp; done) | (simp; omega)⟩ (by simp only [maxLen]; omega) (by omega) ?_; clear hS; intro g10_4 cg10_4 w hAg10_4 hCg10_4 hS
                    refine hK _ _ ?_; clear hK K
                    refine wl_v (x_fa 9 Try.underlying40 rfl rfl ts_22 (tmP rfl rfl)) ?_
                    refine wl_e rfl ?_; intro K hK
                    refine ow_store hS 4 rfl ts_22 (tmP rfl rfl) (tmS rfl rfl) rfl rfl ?_
                    clear hS; intro w hS
                    try replace hS := St.nm (M' := [.vw _ _, .row _ _ _ _ _, .vw _ _, .row _ _ _ _ _, .blk _ _ [_, _, _, _, _, _, _, _, _, _], .blk _ _ [_, _, _, _, _, _, _, _, _, _], .vw _ _]) hS rfl
                    refine hK _ _ ?_; clear hK K
                    refine wl_nil ?_
                    simp only [List.nil_append, Nat.zero_add] at hS
                    refine then_n (hK13 _ _ ?_); clear hK13 K13
                    refine wp_seq_k ?_; intro K14 hK14
                    refine wlit ?_
                    refine wl_v (x_loadA (cs := [_, _, _, _, _, _, _, _, _, _]) Try.underlying40 rfl ts_40 (tmP rfl rfl) (rangeB hS.ok 4 rfl rfl)) ?_
                    refine wl_e rfl ?_; intro K hK
                    refine ow_storeA hS 5 rfl ts_40 (tmP rfl rfl) (tmA rfl rfl) rfl rfl rfl ?_
                    clear hS; intro w hS
                    try replace hS := St.nm (M' := [.vw _ _, .row _ _ _ _ _, .vw _ _, .row _ _ _ _ _, .blk _ _ [_, _, _, _, _, _, _, _, _, _], .blk _ _ [_, _, _, _, _, _, _, _, _, _], .vw _ _]) hS rfl
                    refine hK _ _ ?_; clear hK K
                    refine wl_v (x_assign (ev_cN 0)) ?_
                    refine wl_nil ?_
                    refine then_n (hK14 _ _ ?_); clear hK14 K14
                    refine wp_ret ?_
                    refine ret2 rfl (.cell rfl rfl (load_rowB (cs := [_, _, _, _, _, _, _, _, _, _]) hS.ok 5 rfl Try.underlying40 rfl ts_40 rfl)) (.tmp rfl (show _ = Value.int _ _ from rfl)) ?_
                    have hcp := row_cap (hS.rowOk 3 rfl) (by decide)
                    refine ⟨g9_4, cg9_4, g10_4, cg10_4, by rw [e13]; rfl, hS.newv 3 rfl, hS.newv 1 rfl, by omega, hS.kp⟩
                  · intro K hK
                    refine ow_alloc hS tz_40 rfl ?_
                    clear hS; intro g8_25 w hg8_25 hS
                    refine hK _ _ ?_; clear hK K
                    refine rg_step 22 rfl (by kernel_rfl) (want_0) (oks_drop hS 1 rfl) ?_; intro K hK
                    refine ow_call Try.func17 rfl rfl (evs_cons (tmS rfl rfl) <| evs_cons (ev_cN 18) <| evs_cons (ev_cN 2) <| evs_nil) (get_c n _ c l _ _ _ (viewV hS.ok 2 rfl) hl hc hn4 hb (by omega) (by omega)) ?_
                    rintro e w ⟨rfl, hk⟩
                    refine ⟨_, rfl, ?_⟩
                    replace hS := hS.kept hk
                    clear hk
                    refine hK _ _ ?_; clear hK K
                    refine rg_take 23 rfl rfl (by kernel_rfl) (by kernel_rfl) (by kernel_rfl) (want_0) (fun w hok => x_convN Try.underlying24 Try.underlying27 (tmI rfl rfl) (fit_u16 (by omega))) ?_
                    refine rg_take 24 rfl rfl (by kernel_rfl) (by kernel_rfl) (by kernel_rfl) (want_0) (fun w hok => x_build (bc_take (tmI rfl rfl) <| bc_take (tmI rfl rfl) <| bc_take (tmI rfl rfl) <| bc_take (tmI rfl rfl) <| bc_take (tmI rfl rfl) <| bc_take (tmI rfl rfl) <| bc_take (tmI rfl rfl) <| bc_take (tmI rfl rfl) <| bc_skip (.slice none 0 0) <| bc_skip (.slice none 0 0) <| bc_nil) (by kernel_rfl)) ?_
                    refine rg_step 26 rfl (by kernel_rfl) (want_0) (oks_drop hS 1 rfl) ?_; intro K hK
                    refine ow_storeA hS 0 rfl ts_40 (tmP rfl rfl) (tmA rfl rfl) rfl rfl rfl ?_
                    clear hS; intro w hS
                    try replace hS := St.nm (M' := [.blk _ _ [_, _, _, _, _, _, _, _, _, _], .blk _ _ [_, _, _, _, _, _, _, _, _, _], .vw _ _]) hS rfl
                    refine hK _ _ ?_; clear hK K
                    refine rg_done (oks_drop hS 1 rfl) (by kernel_rfl) ?_
                    refine then_n (hK11 _ _ ?_); clear hK11 K11
                    refine wp_seq_k ?_; intro K16 hK16
                    refine wlit ?_
                    refine wl_e rfl ?_; intro K hK
                    refine ow_build0 hS Try.underlying22 tz_5 rfl rfl ?_
                    clear hS; intro g9_0 w hg9_0 hS
                    refine hK _ _ ?_; clear hK K
                    refine wl_v (x_move (tmS rfl rfl)) ?_
                    refine wl_v (x_move (tmI rfl rfl)) ?_
                    refine wl_v (x_sliceLH Try.underlying22 ts_5 (tmS rfl rfl) (ev_cN 20) (tmI rfl rfl) (by omega)) ?_
                    replace hS := hS.cutb 3 20 (sz - 20) rfl (by omega : l.length ≤ c)
                    refine wl_e rfl ?_; intro K hK
                    refine ow_appendV hS 1 rfl (viewV hS.ok 0 rfl) Try.underlying22 tz_5 rfl (tmS rfl rfl) (tmS rfl rfl) (by first | exact u8v_one _ | (intro u hu; simp at hu; first | (rcases hu with rfl | rfl <;> rfl) | (obtain ⟨_, _, rfl⟩ := hu; rfl))) ⟨by decide, by first | rfl | (simp; done) | (simp; omega)⟩ (by simp only [maxLen]; omega) (by omega) ?_; clear hS; intro g9_4 cg9_4 w hAg9_4 hCg9_4 hS
                    refine hK _ _ ?_; clear hK K
                    refine wl_v (x_fa 8 Try.underlying40 rfl rfl ts_22 (tmP rfl rfl)) ?_
                    refine wl_e rfl ?_; intro K hK
                    refine ow_store hS 2 rfl ts_22 (tmP rfl rfl) (tmS rfl rfl) rfl rfl ?_
                    clear hS; intro w hS
                    try replace hS := St.nm (M' := [.vw _ _, .row _ _ _ _ _, .blk _ _ [_, _, _, _, _, _, _, _, _, _], .blk _ _ [_, _, _, _, _, _, _, _, _, _], .vw _ _]) hS rfl
                    refine hK _ _ ?_; clear hK K
                    refine wl_nil ?_
                    simp only [List.nil_append, Nat.zero_add] at hS
                    refine then_n (hK16 _ _ ?_); clear hK16 K16
                    refine wp_seq_k ?_; intro K17 hK17
                    refine wlit ?_
                    refine wl_e rfl ?_; intro K hK
                    refine ow_build0 hS Try.underlying22 tz_5 rfl rfl ?_
                    clear hS; intro g10_0 w hg10_0 hS
                    refine hK _ _ ?_; clear hK K
                    refine wl_v (x_move (tmS rfl rfl)) ?_
                    refine wl_v (x_move (tmI rfl rfl)) ?_
                    refine wl_v (x_sliceL Try.underlying22 ts_5 (tmS rfl rfl) (tmI rfl rfl) (by omega)) ?_
                    replace hS := hS.dropb 5 sz rfl (by omega : l.length ≤ c)
                    refine wl_e rfl ?_; intro K hK
                    refine ow_appendV hS 1 rfl (viewV hS.ok 0 rfl) Try.underlying22 tz_5 rfl (tmS rfl rfl) (tmS rfl rfl) (by first | exact u8v_one _ | (intro u hu; simp at hu; first | (rcases hu with rfl | rfl <;> rfl) | (obtain ⟨_, _, rfl⟩ := hu; rfl))) ⟨by decide, by first | rfl | (simp; done) | (simp; omega)⟩ (by simp only [maxLen]; omega) (by omega) ?_; clear hS; intro g10_4 cg10_4 w hAg10_4 hCg10_4 hS
                    refine hK _ _ ?_; clear hK K
                    refine wl_v (x_fa 9 Try.underlying40 rfl rfl ts_22 (tmP rfl rfl)) ?_
                    refine wl_e rfl ?_; intro K hK
                    refine ow_store hS 4 rfl ts_22 (tmP rfl rfl) (tmS rfl rfl) rfl rfl ?_
                    clear hS; intro w hS
                    try replace hS := St.nm (M' := [.vw _ _, .row _ _ _ _ _, .vw _ _, .row _ _ _ _ _, .blk _ _ [_, _, _, _, _, _, _, _, _, _], .blk _ _ [_, _, _, _, _, _, _, _, _, _], .vw _ _]) hS rfl
                    refine hK _ _ ?_; clear hK K
                    refine wl_nil ?_
                    simp only [List.nil_append, Nat.zero_add] at hS
                    refine then_n (hK17 _ _ ?_); clear hK17 K17
                    refine wp_seq_k ?_; intro K18 hK18
                    refine wlit ?_
                    refine wl_v (x_loadA (cs := [_, _, _, _, _, _, _, _, _, _]) Try.underlying40 rfl ts_40 (tmP rfl rfl) (rangeB hS.ok 4 rfl rfl)) ?_
                    refine wl_e rfl ?_; intro K hK
                    refine ow_storeA hS 5 rfl ts_40 (tmP rfl rfl) (tmA rfl rfl) rfl rfl rfl ?_
                    clear hS; intro w hS
                    try replace hS := St.nm (M' := [.vw _ _, .row _ _ _ _ _, .vw _ _, .row _ _ _ _ _, .blk _ _ [_, _, _, _, _, _, _, _, _, _], .blk _ _ [_, _, _, _, _, _, _, _, _, _], .vw _ _]) hS rfl
                    refine hK _ _ ?_; clear hK K
                    refine wl_v (x_assign (ev_cN 0)) ?_
                    refine wl_nil ?_
                    refine then_n (hK18 _ _ ?_); clear hK18 K18
                    refine wp_ret ?_
                    refine ret2 rfl (.cell rfl rfl (load_rowB (cs := [_, _, _, _, _, _, _, _, _, _]) hS.ok 5 rfl Try.underlying40 rfl ts_40 rfl)) (.tmp rfl (show _ = Value.int _ _ from rfl)) ?_
                    have hcp := row_cap (hS.rowOk 3 rfl) (by decide)
                    refine ⟨g9_4, cg9_4, g10_4, cg10_4, by rw [e13]; rfl, hS.newv 3 rfl, hS.newv 1 rfl, by omega, hS.kp⟩
                · intro K hK
                  refine ow_alloc hS tz_40 rfl ?_
                  clear hS; intro g8_25 w hg8_25 hS
                  refine hK _ _ ?_; clear hK K
                  refine rg_step 19 rfl (by kernel_rfl) (want_0) (oks_drop hS 1 rfl) ?_; intro K hK
                  refine ow_call Try.func17 rfl rfl (evs_cons (tmS rfl rfl) <| evs_cons (ev_cN 16) <| evs_cons (ev_cN 2) <| evs_nil) (get_c n _ c l _ _ _ (viewV hS.ok 2 rfl) hl hc hn4 hb (by omega) (by omega)) ?_
                  rintro e w ⟨rfl, hk⟩
                  refine ⟨_, rfl, ?_⟩
                  replace hS := hS.kept hk
                  clear hk
                  refine hK _ _ ?_; clear hK K
                  refine rg_take 20 rfl rfl (by kernel_rfl) (by kernel_rfl) (by kernel_rfl) (want_0) (fun w hok => x_convN Try.underlying24 Try.underlying27 (tmI rfl rfl) (fit_u16 (by omega))) ?_
                  refine rg_step 22 rfl (by kernel_rfl) (want_0) (oks_drop hS 1 rfl) ?_; intro K hK
                  refine ow_call Try.func17 rfl rfl (evs_cons (tmS rfl rfl) <| evs_cons (ev_cN 18) <| evs_cons (ev_cN 2) <| evs_nil) (get_c n _ c l _ _ _ (viewV hS.ok 2 rfl) hl hc hn4 hb (by omega) (by omega)) ?_
                  rintro e w ⟨rfl, hk⟩
                  refine ⟨_, rfl, ?_⟩
                  replace hS := hS.kept hk
                  clear hk
                  refine hK _ _ ?_; clear hK K
                  refine rg_take 23 rfl rfl (by kernel_rfl) (by kernel_rfl) (by kernel_rfl) (want_0) (fun w hok => x_convN Try.underlying24 Try.underlying27 (tmI rfl rfl) (fit_u16 (by omega))) ?_
                  refine rg_take 24 rfl rfl (by kernel_rfl) (by kernel_rfl) (by kernel_rfl) (want_0) (fun w hok => x_build (bc_take (tmI rfl rfl) <| bc_take (tmI rfl rfl) <| bc_take (tmI rfl rfl) <| bc_take (tmI rfl rfl) <| bc_take (tmI rfl rfl) <| bc_take (tmI rfl rfl) <| bc_take (tmI rfl rfl) <| bc_take (tmI rfl rfl) <| bc_skip (.slice none 0 0) <| bc_skip (.slice none 0 0) <| bc_nil) (by kernel_rfl)) ?_
                  refine rg_step 26 rfl (by kernel_rfl) (want_0) (oks_drop hS 1 rfl) ?_; intro K hK
                  refine ow_storeA hS 0 rfl ts_40 (tmP rfl rfl) (tmA rfl rfl) rfl rfl rfl ?_
                  clear hS; intro w hS
                  try replace hS := St.nm (M' := [.blk _ _ [_, _, _, _, _, _, _, _, _, _], .blk _ _ [_, _, _, _, _, _, _, _, _, _], .vw _ _]) hS rfl
                  refine hK _ _ ?_; clear hK K
                  refine rg_done (oks_drop hS 1 rfl) (by kernel_rfl) ?_
                  refine then_n (hK11 _ _ ?_); clear hK11 K11
                  refine wp_seq_k ?_; intro K20 hK20
                  refine wlit ?_
                  refine wl_e rfl ?_; intro K hK
                  refine ow_build0 hS Try.underlying22 tz_5 rfl rfl ?_
                  clear hS; intro g9_0 w hg9_0 hS
                  refine hK _ _ ?_; clear hK K
                  refine wl_v (x_move (tmS rfl rfl)) ?_
                  refine wl_v (x_move (tmI rfl rfl)) ?_
                  refine wl_v (x_sliceLH Try.underlying22 ts_5 (tmS rfl rfl) (ev_cN 20) (tmI rfl rfl) (by omega)) ?_
                  replace hS := hS.cutb 3 20 (sz - 20) rfl (by omega : l.length ≤ c)
                  refine wl_e rfl ?_; intro K hK
                  refine ow_appendV hS 1 rfl (viewV hS.ok 0 rfl) Try.underlying22 tz_5 rfl (tmS rfl rfl) (tmS rfl rfl) (by first | exact u8v_one _ | (intro u hu; simp at hu; first | (rcases hu with rfl | rfl <;> rfl) | (obtain ⟨_, _, rfl⟩ := hu; rfl))) ⟨by decide, by first | rfl | (simp; done) | (simp; omega)⟩ (by simp only [maxLen]; omega) (by omega) ?_; clear hS; intro g9_4 cg9_4 w hAg9_4 hCg9_4 hS
                  refine hK _ _ ?_; clear hK K
                  refine wl_v (x_fa 8 Try.underlying40 rfl rfl ts_22 (tmP rfl rfl)) ?_
                  refine wl_e rfl ?_; intro K hK
                  refine ow_store hS 2 rfl ts_22 (tmP rfl rfl) (tmS rfl rfl) rfl rfl ?_
                  clear hS; intro w hS
                  try replace hS := St.nm (M' := [.vw _ _, .row _ _ _ _ _, .blk _ _ [_, _, _, _, _, _, _, _, _, _], .blk _ _ [_, _, _, _, _, _, _, _, _, _], .vw _ _]) hS rfl
                  refine hK _ _ ?_; clear hK K
                  refine wl_nil ?_
                  simp only [List.nil_append, Nat.zero_add] at hS
                  refine then_n (hK20 _ _ ?_); clear hK20 K20
                  refine wp_seq_k ?_; intro K21 hK21
                  refine wlit ?_
                  refine wl_e rfl ?_; intro K hK
                  refine ow_build0 hS Try.underlying22 tz_5 rfl rfl ?_
                  clear hS; intro g10_0 w hg10_0 hS
                  refine hK _ _ ?_; clear hK K
                  refine wl_v (x_move (tmS rfl rfl)) ?_
                  refine wl_v (x_move (tmI rfl rfl)) ?_
                  refine wl_v (x_sliceL Try.underlying22 ts_5 (tmS rfl rfl) (tmI rfl rfl) (by omega)) ?_
                  replace hS := hS.dropb 5 sz rfl (by omega : l.length ≤ c)
                  refine wl_e rfl ?_; intro K hK
                  refine ow_appendV hS 1 rfl (viewV hS.ok 0 rfl) Try.underlying22 tz_5 rfl (tmS rfl rfl) (tmS rfl rfl) (by first | exact u8v_one _ | (intro u hu; simp at hu; first | (rcases hu with rfl | rfl <;> rfl) | (obtain ⟨_, _, rfl⟩ := hu; rfl))) ⟨by decide, by first | rfl | (simp; done) | (simp; omega)⟩ (by simp only [maxLen]; omega) (by omega) ?_; clear hS; intro g10_4 cg10_4 w hAg10_4 hCg10_4 hS
                  refine hK _ _ ?_; clear hK K
                  refine wl_v (x_fa 9 Try.underlying40 rfl rfl ts_22 (tmP rfl rfl)) ?_
                  refine wl_e rfl ?_; intro K hK
                  refine ow_store hS 4 rfl ts_22 (tmP rfl rfl) (tmS rfl rfl) rfl rfl ?_
                  clear hS; intro w hS
                  try replace hS := St.nm (M' := [.vw _ _, .row _ _ _ _ _, .vw _ _, .row _ _ _ _ _, .blk _ _ [_, _, _, _, _, _, _, _, _, _], .blk _ _ [_, _, _, _, _, _, _, _, _, _], .vw _ _]) hS rfl
                  refine hK _ _ ?_; clear hK K
                  refine wl_nil ?_
                  simp only [List.nil_append, Nat.zero_add] at hS
                  refine then_n (hK21 _ _ ?_); clear hK21 K21
                  refine wp_seq_k ?_; intro K22 hK22
                  refine wlit ?_
                  refine wl_v (x_loadA (cs := [_, _, _, _, _, _, _, _, _, _]) Try.underlying40 rfl ts_40 (tmP rfl rfl) (rangeB hS.ok 4 rfl rfl)) ?_
                  refine wl_e rfl ?_; intro K hK
                  refine ow_storeA hS 5 rfl ts_40 (tmP rfl rfl) (tmA rfl rfl) rfl rfl rfl ?_
                  clear hS; intro w hS
                  try replace hS := St.nm (M' := [.vw _ _, .row _ _ _ _ _, .vw _ _, .row _ _ _ _ _, .blk _ _ [_, _, _, _, _, _, _, _, _, _], .blk _ _ [_, _, _, _, _, _, _, _, _, _], .vw _ _]) hS rfl
                  refine hK _ _ ?_; clear hK K
                  refine wl_v (x_assign (ev_cN 0)) ?_
                  refine wl_nil ?_
                  refine then_n (hK22 _ _ ?_); clear hK22 K22
                  refine wp_ret ?_
                  refine ret2 rfl (.cell rfl rfl (load_rowB (cs := [_, _, _, _, _, _, _, _, _, _]) hS.ok 5 rfl Try.underlying40 rfl ts_40 rfl)) (.tmp rfl (show _ = Value.int _ _ from rfl)) ?_
                  have hcp := row_cap (hS.rowOk 3 rfl) (by decide)
                  refine ⟨g9_4, cg9_4, g10_4, cg10_4, by rw [e13]; rfl, hS.newv 3 rfl, hS.newv 1 rfl, by omega, hS.kp⟩
              · intro K hK
                refine ow_alloc hS tz_40 rfl ?_
                clear hS; intro g8_25 w hg8_25 hS
                refine hK _ _ ?_; clear hK K
                refine rg_step 16 rfl (by kernel_rfl) (want_0) (oks_drop hS 1 rfl) ?_; intro K hK
                refine ow_call Try.func17 rfl rfl (evs_cons (tmS rfl rfl) <| evs_cons (ev_cN 14) <| evs_cons (ev_cN 2) <| evs_nil) (get_c n _ c l _ _ _ (viewV hS.ok 2 rfl) hl hc hn4 hb (by omega) (by omega)) ?_
                rintro e w ⟨rfl, hk⟩
                refine ⟨_, rfl, ?_⟩
                replace hS := hS.kept hk
                clear hk
                refine hK _ _ ?_; clear hK K
                refine rg_take 17 rfl rfl (by kernel_rfl) (by kernel_rfl) (by kernel_rfl) (want_0) (fun w hok => x_convN Try.underlying24 Try.underlying27 (tmI rfl rfl) (fit_u16 (by omega))) ?_
                refine rg_step 19 rfl (by kernel_rfl) (want_0) (oks_drop hS 1 rfl) ?_; intro K hK
                refine ow_call Try.func17 rfl rfl (evs_cons (tmS rfl rfl) <| evs_cons (ev_cN 16) <| evs_cons (ev_cN 2) <| evs_nil) (get_c n _ c l _ _ _ (viewV hS.ok 2 rfl) hl hc hn4 hb (by omega) (by omega)) ?_
                rintro e w ⟨rfl, hk⟩
                refine ⟨_, rfl, ?_⟩
                replace hS := hS.kept hk
                clear hk
                refine hK _ _ ?_; clear hK K
                refine rg_take 20 rfl rfl (by kernel_rfl) (by kernel_rfl) (by kernel_rfl) (want_0) (fun w hok => x_convN Try.underlying24 Try.underlying27 (tmI rfl rfl) (fit_u16 (by omega))) ?_
                refine rg_step 22 rfl (by kernel_rfl) (want_0) (oks_drop hS 1 rfl) ?_; intro K hK
                refine ow_call Try.func17 rfl rfl (evs_cons (tmS rfl rfl) <| evs_cons (ev_cN 18) <| evs_cons (ev_cN 2) <| evs_nil) (get_c n _ c l _ _ _ (viewV hS.ok 2 rfl) hl hc hn4 hb (by omega) (by omega)) ?_
                rintro e w ⟨rfl, hk⟩
                refine ⟨_, rfl, ?_⟩
                replace hS := hS.kept hk
                clear hk
                refine hK _ _ ?_; clear hK K
                refine rg_take 23 rfl rfl (by kernel_rfl) (by kernel_rfl) (by kernel_rfl) (want_0) (fun w hok => x_convN Try.underlying24 Try.underlying27 (tmI rfl rfl) (fit_u16 (by omega))) ?_
                refine rg_take 24 rfl rfl (by kernel_rfl) (by kernel_rfl) (by kernel_rfl) (want_0) (fun w hok => x_build (bc_take (tmI rfl rfl) <| bc_take (tmI rfl rfl) <| bc_take (tmI rfl rfl) <| bc_take (tmI rfl rfl) <| bc_take (tmI rfl rfl) <| bc_take (tmI rfl rfl) <| bc_take (tmI rfl rfl) <| bc_take (tmI rfl rfl) <| bc_skip (.slice none 0 0) <| bc_skip (.slice none 0 0) <| bc_nil) (by kernel_rfl)) ?_
                refine rg_step 26 rfl (by kernel_rfl) (want_0) (oks_drop hS 1 rfl) ?_; intro K hK
                refine ow_storeA hS 0 rfl ts_40 (tmP rfl rfl) (tmA rfl rfl) rfl rfl rfl ?_
                clear hS; intro w hS
                try replace hS := St.nm (M' := [.blk _ _ [_, _, _, _, _, _, _, _, _, _], .blk _ _ [_, _, _, _, _, _, _, _, _, _], .vw _ _]) hS rfl
                refine hK _ _ ?_; clear hK K
                refine rg_done (oks_drop hS 1 rfl) (by kernel_rfl) ?_
                refine then_n (hK11 _ _ ?_); clear hK11 K11
                refine wp_seq_k ?_; intro K24 hK24
                refine wlit ?_
                refine wl_e rfl ?_; intro K hK
                refine ow_build0 hS Try.underlying22 tz_5 rfl rfl ?_
                clear hS; intro g9_0 w hg9_0 hS
                refine hK _ _ ?_; clear hK K
                refine wl_v (x_move (tmS rfl rfl)) ?_
                refine wl_v (x_move (tmI rfl rfl)) ?_
                refine wl_v (x_sliceLH Try.underlying22 ts_5 (tmS rfl rfl) (ev_cN 20) (tmI rfl rfl) (by omega)) ?_
                replace hS := hS.cutb 3 20 (sz - 20) rfl (by omega : l.length ≤ c)
                refine wl_e rfl ?_; intro K hK
                refine ow_appendV hS 1 rfl (viewV hS.ok 0 rfl) Try.underlying22 tz_5 rfl (tmS rfl rfl) (tmS rfl rfl) (by first | exact u8v_one _ | (intro u hu; simp at hu; first | (rcases hu with rfl | rfl <;> rfl) | (obtain ⟨_, _, rfl⟩ := hu; rfl))) ⟨by decide, by first | rfl | (simp; done) | (simp; omega)⟩ (by simp only [maxLen]; omega) (by omega) ?_; clear hS; intro g9_4 cg9_4 w hAg9_4 hCg9_4 hS
                refine hK _ _ ?_; clear hK K
                refine wl_v (x_fa 8 Try.underlying40 rfl rfl ts_22 (tmP rfl rfl)) ?_
                refine wl_e rfl ?_; intro K hK
                refine ow_store hS 2 rfl ts_22 (tmP rfl rfl) (tmS rfl rfl) rfl rfl ?_
                clear hS; intro w hS
                try replace hS := St.nm (M' := [.vw _ _, .row _ _ _ _ _, .blk _ _ [_, _, _, _, _, _, _, _, _, _], .blk _ _ [_, _, _, _, _, _, _, _, _, _], .vw _ _]) hS rfl
                refine hK _ _ ?_; clear hK K
                refine wl_nil ?_
                simp only [List.nil_append, Nat.zero_add] at hS
                refine then_n (hK24 _ _ ?_); clear hK24 K24
                refine wp_seq_k ?_; intro K25 hK25
                refine wlit ?_
                refine wl_e rfl ?_; intro K hK
                refine ow_build0 hS Try.underlying22 tz_5 rfl rfl ?_
                clear hS; intro g10_0 w hg10_0 hS
                refine hK _ _ ?_; clear hK K
                refine wl_v (x_move (tmS rfl rfl)) ?_
                refine wl_v (x_move (tmI rfl rfl)) ?_
                refine wl_v (x_sliceL Try.underlying22 ts_5 (tmS rfl rfl) (tmI rfl rfl) (by omega)) ?_
                replace hS := hS.dropb 5 sz rfl (by omega : l.length ≤ c)
                refine wl_e rfl ?_; intro K hK
                refine ow_appendV hS 1 rfl (viewV hS.ok 0 rfl) Try.underlying22 tz_5 rfl (tmS rfl rfl) (tmS rfl rfl) (by first | exact u8v_one _ | (intro u hu; simp at hu; first | (rcases hu with rfl | rfl <;> rfl) | (obtain ⟨_, _, rfl⟩ := hu; rfl))) ⟨by decide, by first | rfl | (simp; done) | (simp; omega)⟩ (by simp only [maxLen]; omega) (by omega) ?_; clear hS; intro g10_4 cg10_4 w hAg10_4 hCg10_4 hS
                refine hK _ _ ?_; clear hK K
                refine wl_v (x_fa 9 Try.underlying40 rfl rfl ts_22 (tmP rfl rfl)) ?_
                refine wl_e rfl ?_; intro K hK
                refine ow_store hS 4 rfl ts_22 (tmP rfl rfl) (tmS rfl rfl) rfl rfl ?_
                clear hS; intro w hS
                try replace hS := St.nm (M' := [.vw _ _, .row _ _ _ _ _, .vw _ _, .row _ _ _ _ _, .blk _ _ [_, _, _, _, _, _, _, _, _, _], .blk _ _ [_, _, _, _, _, _, _, _, _, _], .vw _ _]) hS rfl
                refine hK _ _ ?_; clear hK K
                refine wl_nil ?_
                simp only [List.nil_append, Nat.zero_add] at hS
                refine then_n (hK25 _ _ ?_); clear hK25 K25
                refine wp_seq_k ?_; intro K26 hK26
                refine wlit ?_
                refine wl_v (x_loadA (cs := [_, _, _, _, _, _, _, _, _, _]) Try.underlying40 rfl ts_40 (tmP rfl rfl) (rangeB hS.ok 4 rfl rfl)) ?_
                refine wl_e rfl ?_; intro K hK
                refine ow_storeA hS 5 rfl ts_40 (tmP rfl rfl) (tmA rfl rfl) rfl rfl rfl ?_
                clear hS; intro w hS
                try replace hS := St.nm (M' := [.vw _ _, .row _ _ _ _ _, .vw _ _, .row _ _ _ _ _, .blk _ _ [_, _, _, _, _, _, _, _, _, _], .blk _ _ [_, _, _, _, _, _, _, _, _, _], .vw _ _]) hS rfl
                refine hK _ _ ?_; clear hK K
                refine wl_v (x_assign (ev_cN 0)) ?_
                refine wl_nil ?_
                refine then_n (hK26 _ _ ?_); clear hK26 K26
                refine wp_ret ?_
                refine ret2 rfl (.cell rfl rfl (load_rowB (cs := [_, _, _, _, _, _, _, _, _, _]) hS.ok 5 rfl Try.underlying40 rfl ts_40 rfl)) (.tmp rfl (show _ = Value.int _ _ from rfl)) ?_
                have hcp := row_cap (hS.rowOk 3 rfl) (by decide)
                refine ⟨g9_4, cg9_4, g10_4, cg10_4, by rw [e13]; rfl, hS.newv 3 rfl, hS.newv 1 rfl, by omega, hS.kp⟩
            · intro K hK
              refine ow_alloc hS tz_40 rfl ?_
              clear hS; intro g8_25 w hg8_25 hS
              refine hK _ _ ?_; clear hK K
              refine rg_step 10 rfl (by kernel_rfl) (want_0) (oks_drop hS 1 rfl) ?_; intro K hK
              refine ow_call Try.func17 rfl rfl (evs_cons (tmS rfl rfl) <| evs_cons (ev_cN 8) <| evs_cons (ev_cN 4) <| evs_nil) (get_c n _ c l _ _ _ (viewV hS.ok 2 rfl) hl hc hn4 hb (by omega) (by omega)) ?_
              rintro e w ⟨rfl, hk⟩
              refine ⟨_, rfl, ?_⟩
              replace hS := hS.kept hk
              clear hk
              refine hK _ _ ?_; clear hK K
              refine rg_take 11 rfl rfl (by kernel_rfl) (by kernel_rfl) (by kernel_rfl) (want_0) (fun w hok => x_convN Try.underlying24 Try.underlying30 (tmI rfl rfl) (fit_u32 (by omega))) ?_
              refine rg_step 16 rfl (by kernel_rfl) (want_0) (oks_drop hS 1 rfl) ?_; intro K hK
              refine ow_call Try.func17 rfl rfl (evs_cons (tmS rfl rfl) <| evs_cons (ev_cN 14) <| evs_cons (ev_cN 2) <| evs_nil) (get_c n _ c l _ _ _ (viewV hS.ok 2 rfl) hl hc hn4 hb (by omega) (by omega)) ?_
              rintro e w ⟨rfl, hk⟩
              refine ⟨_, rfl, ?_⟩
              replace hS := hS.kept hk
              clear hk
              refine hK _ _ ?_; clear hK K
              refine rg_take 17 rfl rfl (by kernel_rfl) (by kernel_rfl) (by kernel_rfl) (want_0) (fun w hok => x_convN Try.underlying24 Try.underlying27 (tmI rfl rfl) (fit_u16 (by omega))) ?_
              refine rg_step 19 rfl (by kernel_rfl) (want_0) (oks_drop hS 1 rfl) ?_; intro K hK
              refine ow_call Try.func17 rfl rfl (evs_cons (tmS rfl rfl) <| evs_cons (ev_cN 16) <| evs_cons (ev_cN 2) <| evs_nil) (get_c n _ c l _ _ _ (viewV hS.ok 2 rfl) hl hc hn4 hb (by omega) (by omega)) ?_
              rintro e w ⟨rfl, hk⟩
              refine ⟨_, rfl, ?_⟩
              replace hS := hS.kept hk
              clear hk
              refine hK _ _ ?_; clear hK K
              refine rg_take 20 rfl rfl (by kernel_rfl) (by kernel_rfl) (by kernel_rfl) (want_0) (fun w hok => x_convN Try.underlying24 Try.underlying27 (tmI rfl rfl) (fit_u16 (by omega))) ?_
              refine rg_step 22 rfl (by kernel_rfl) (want_0) (oks_drop hS 1 rfl) ?_; intro K hK
              refine ow_call Try.func17 rfl rfl (evs_cons (tmS rfl rfl) <| evs_cons (ev_cN 18) <| evs_cons (ev_cN 2) <| evs_nil) (get_c n _ c l _ _ _ (viewV hS.ok 2 rfl) hl hc hn4 hb (by omega) (by omega)) ?_
              rintro e w ⟨rfl, hk⟩
              refine ⟨_, rfl, ?_⟩
              replace hS := hS.kept hk
              clear hk
              refine hK _ _ ?_; clear hK K
              refine rg_take 23 rfl rfl (by kernel_rfl) (by kernel_rfl) (by kernel_rfl) (want_0) (fun w hok => x_convN Try.underlying24 Try.underlying27 (tmI rfl rfl) (fit_u16 (by omega))) ?_
              refine rg_take 24 rfl rfl (by kernel_rfl) (by kernel_rfl) (by kernel_rfl) (want_0) (fun w hok => x_build (bc_take (tmI rfl rfl) <| bc_take (tmI rfl rfl) <| bc_take (tmI rfl rfl) <| bc_take (tmI rfl rfl) <| bc_take (tmI rfl rfl) <| bc_take (tmI rfl rfl) <| bc_take (tmI rfl rfl) <| bc_take (tmI rfl rfl) <| bc_skip (.slice none 0 0) <| bc_skip (.slice none 0 0) <| bc_nil) (by kernel_rfl)) ?_
              refine rg_step 26 rfl (by kernel_rfl) (want_0) (oks_drop hS 1 rfl) ?_; intro K hK
              refine ow_storeA hS 0 rfl ts_40 (tmP rfl rfl) (tmA rfl rfl) rfl rfl rfl ?_
              clear hS; intro w hS
              try replace hS := St.nm (M' := [.blk _ _ [_, _, _, _, _, _, _, _, _, _], .blk _ _ [_, _, _, _, _, _, _, _, _, _], .vw _ _]) hS rfl
              refine hK _ _ ?_; clear hK K
              refine rg_done (oks_drop hS 1 rfl) (by kernel_rfl) ?_
              refine then_n (hK11 _ _ ?_); clear hK11 K11
              refine wp_seq_k ?_; intro K28 hK28
              refine wlit ?_
              refine wl_e rfl ?_; intro K hK
              refine ow_build0 hS Try.underlying22 tz_5 rfl rfl ?_
              clear hS; intro g9_0 w hg9_0 hS
              refine hK _ _ ?_; clear hK K
              refine wl_v (x_move (tmS rfl rfl)) ?_
              refine wl_v (x_move (tmI rfl rfl)) ?_
              refine wl_v (x_sliceLH Try.underlying22 ts_5 (tmS rfl rfl) (ev_cN 20) (tmI rfl rfl) (by omega)) ?_
              replace hS := hS.cutb 3 20 (sz - 20) rfl (by omega : l.length ≤ c)
              refine wl_e rfl ?_; intro K hK
              refine ow_appendV hS 1 rfl (viewV hS.ok 0 rfl) Try.underlying22 tz_5 rfl (tmS rfl rfl) (tmS rfl rfl) (by first | exact u8v_one _ | (intro u hu; simp at hu; first | (rcases hu with rfl | rfl <;> rfl) | (obtain ⟨_, _, rfl⟩ := hu; rfl))) ⟨by decide, by first | rfl | (simp; done) | (simp; omega)⟩ (by simp only [maxLen]; omega) (by omega) ?_; clear hS; intro g9_4 cg9_4 w hAg9_4 hCg9_4 hS
              refine hK _ _ ?_; clear hK K
              refine wl_v (x_fa 8 Try.underlying40 rfl rfl ts_22 (tmP rfl rfl)) ?_
              refine wl_e rfl ?_; intro K hK
              refine ow_store hS 2 rfl ts_22 (tmP rfl rfl) (tmS rfl rfl) rfl rfl ?_
              clear hS; intro w hS
              try replace hS := St.nm (M' := [.vw _ _, .row _ _ _ _ _, .blk _ _ [_, _, _, _, _, _, _, _, _, _], .blk _ _ [_, _, _, _, _, _, _, _, _, _], .vw _ _]) hS rfl
              refine hK _ _ ?_; clear hK K
              refine wl_nil ?_
              simp only [List.nil_append, Nat.zero_add] at hS
              refine then_n (hK28 _ _ ?_); clear hK28 K28
              refine wp_seq_k ?_; intro K29 hK29
              refine wlit ?_
              refine wl_e rfl ?_; intro K hK
              refine ow_build0 hS Try.underlying22 tz_5 rfl rfl ?_
              clear hS; intro g10_0 w hg10_0 hS
              refine hK _ _ ?_; clear hK K
              refine wl_v (x_move (tmS rfl rfl)) ?_
              refine wl_v (x_move (tmI rfl rfl)) ?_
              refine wl_v (x_sliceL Try.underlying22 ts_5 (tmS rfl rfl) (tmI rfl rfl) (by omega)) ?_
              replace hS := hS.dropb 5 sz rfl (by omega : l.length ≤ c)
              refine wl_e rfl ?_; intro K hK
              refine ow_appendV hS 1 rfl (viewV hS.ok 0 rfl) Try.underlying22 tz_5 rfl (tmS rfl rfl) (tmS rfl rfl) (by first | exact u8v_one _ | (intro u hu; simp at hu; first | (rcases hu with rfl | rfl <;> rfl) | (obtain ⟨_, _, rfl⟩ := hu; rfl))) ⟨by decide, by first | rfl | (simp; done) | (simp; omega)⟩ (by simp only [maxLen]; omega) (by omega) ?_; clear hS; intro g10_4 cg10_4 w hAg10_4 hCg10_4 hS
              refine hK _ _ ?_; clear hK K
              refine wl_v (x_fa 9 Try.underlying40 rfl rfl ts_22 (tmP rfl rfl)) ?_
              refine wl_e rfl ?_; intro K hK
              refine ow_store hS 4 rfl ts_22 (tmP rfl rfl) (tmS rfl rfl) rfl rfl ?_
              clear hS; intro w hS
              try replace hS := St.nm (M' := [.vw _ _, .row _ _ _ _ _, .vw _ _, .row _ _ _ _ _, .blk _ _ [_, _, _, _, _, _, _, _, _, _], .blk _ _ [_, _, _, _, _, _, _, _, _, _], .vw _ _]) hS rfl
              refine hK _ _ ?_; clear hK K
              refine wl_nil ?_
              simp only [List.nil_append, Nat.zero_add] at hS
              refine then_n (hK29 _ _ ?_); clear hK29 K29
              refine wp_seq_k ?_; intro K30 hK30
              refine wlit ?_
              refine wl_v (x_loadA (cs := [_, _, _, _, _, _, _, _, _, _]) Try.underlying40 rfl ts_40 (tmP rfl rfl) (rangeB hS.ok 4 rfl rfl)) ?_
              refine wl_e rfl ?_; intro K hK
              refine ow_storeA hS 5 rfl ts_40 (tmP rfl rfl) (tmA rfl rfl) rfl rfl rfl ?_
              clear hS; intro w hS
              try replace hS := St.nm (M' := [.vw _ _, .row _ _ _ _ _, .vw _ _, .row _ _ _ _ _, .blk _ _ [_, _, _, _, _, _, _, _, _, _], .blk _ _ [_, _, _, _, _, _, _, _, _, _], .vw _ _]) hS rfl
              refine hK _ _ ?_; clear hK K
              refine wl_v (x_assign (ev_cN 0)) ?_
              refine wl_nil ?_
              refine then_n (hK30 _ _ ?_); clear hK30 K30
              refine wp_ret ?_
              refine ret2 rfl (.cell rfl rfl (load_rowB (cs := [_, _, _, _, _, _, _, _, _, _]) hS.ok 5 rfl Try.underlying40 rfl ts_40 rfl)) (.tmp rfl (show _ = Value.int _ _ from rfl)) ?_
              have hcp := row_cap (hS.rowOk 3 rfl) (by decide)
              refine ⟨g9_4, cg9_4, g10_4, cg10_4, by rw [e13]; rfl, hS.newv 3 rfl, hS.newv 1 rfl, by omega, hS.kp⟩
          · intro K hK
            refine ow_alloc hS tz_40 rfl ?_
            clear hS; intro g8_25 w hg8_25 hS
            refine hK _ _ ?_; clear hK K
            refine rg_step 7 rfl (by kernel_rfl) (want_0) (oks_drop hS 1 rfl) ?_; intro K hK
            refine ow_call Try.func17 rfl rfl (evs_cons (tmS rfl rfl) <| evs_cons (ev_cN 4) <| evs_cons (ev_cN 4) <| evs_nil) (get_c n _ c l _ _ _ (viewV hS.ok 2 rfl) hl hc hn4 hb (by omega) (by omega)) ?_
            rintro e w ⟨rfl, hk⟩
            refine ⟨_, rfl, ?_⟩
            replace hS := hS.kept hk
            clear hk
            refine hK _ _ ?_; clear hK K
            refine rg_take 8 rfl rfl (by kernel_rfl) (by kernel_rfl) (by kernel_rfl) (want_0) (fun w hok => x_convN Try.underlying24 Try.underlying30 (tmI rfl rfl) (fit_u32 (by omega))) ?_
            refine rg_step 10 rfl (by kernel_rfl) (want_0) (oks_drop hS 1 rfl) ?_; intro K hK
            refine ow_call Try.func17 rfl rfl (evs_cons (tmS rfl rfl) <| evs_cons (ev_cN 8) <| evs_cons (ev_cN 4) <| evs_nil) (get_c n _ c l _ _ _ (viewV hS.ok 2 rfl) hl hc hn4 hb (by omega) (by omega)) ?_
            rintro e w ⟨rfl, hk⟩
            refine ⟨_, rfl, ?_⟩
            replace hS := hS.kept hk
            clear hk
            refine hK _ _ ?_; clear hK K
            refine rg_take 11 rfl rfl (by kernel_rfl) (by kernel_rfl) (by kernel_rfl) (want_0) (fun w hok => x_convN Try.underlying24 Try.underlying30 (tmI rfl rfl) (fit_u32 (by omega))) ?_
            refine rg_step 16 rfl (by kernel_rfl) (want_0) (oks_drop hS 1 rfl) ?_; intro K hK
            refine ow_call Try.func17 rfl rfl (evs_cons (tmS rfl rfl) <| evs_cons (ev_cN 14) <| evs_cons (ev_cN 2) <| evs_nil) (get_c n _ c l _ _ _ (viewV hS.ok 2 rfl) hl hc hn4 hb (by omega) (by omega)) ?_
            rintro e w ⟨rfl, hk⟩
            refine ⟨_, rfl, ?_⟩
            replace hS := hS.kept hk
            clear hk
            refine hK _ _ ?_; clear hK K
            refine rg_take 17 rfl rfl (by kernel_rfl) (by kernel_rfl) (by kernel_rfl) (want_0) (fun w hok => x_convN Try.underlying24 Try.underlying27 (tmI rfl rfl) (fit_u16 (by omega))) ?_
            refine rg_step 19 rfl (by kernel_rfl) (want_0) (oks_drop hS 1 rfl) ?_; intro K hK
            refine ow_call Try.func17 rfl rfl (evs_cons (tmS rfl rfl) <| evs_cons (ev_cN 16) <| evs_cons (ev_cN 2) <| evs_nil) (get_c n _ c l _ _ _ (viewV hS.ok 2 rfl) hl hc hn4 hb (by omega) (by omega)) ?_
            rintro e w ⟨rfl, hk⟩
            refine ⟨_, rfl, ?_⟩
            replace hS := hS.kept hk
            clear hk
            refine hK _ _ ?_; clear hK K
            refine rg_take 20 rfl rfl (by kernel_rfl) (by kernel_rfl) (by kernel_rfl) (want_0) (fun w hok => x_convN Try.underlying24 Try.underlying27 (tmI rfl rfl) (fit_u16 (by omega))) ?_
            refine rg_step 22 rfl (by kernel_rfl) (want_0) (oks_drop hS 1 rfl) ?_; intro K hK
            refine ow_call Try.func17 rfl rfl (evs_cons (tmS rfl rfl) <| evs_cons (ev_cN 18) <| evs_cons (ev_cN 2) <| evs_nil) (get_c n _ c l _ _ _ (viewV hS.ok 2 rfl) hl hc hn4 hb (by omega) (by omega)) ?_
            rintro e w ⟨rfl, hk⟩
            refine ⟨_, rfl, ?_⟩
            replace hS := hS.kept hk
            clear hk
            refine hK _ _ ?_; clear hK K
            refine rg_take 23 rfl rfl (by kernel_rfl) (by kernel_rfl) (by kernel_rfl) (want_0) (fun w hok => x_convN Try.underlying24 Try.underlying27 (tmI rfl rfl) (fit_u16 (by omega))) ?_
            refine rg_take 24 rfl rfl (by kernel_rfl) (by kernel_rfl) (by kernel_rfl) (want_0) (fun w hok => x_build (bc_take (tmI rfl rfl) <| bc_take (tmI rfl rfl) <| bc_take (tmI rfl rfl) <| bc_take (tmI rfl rfl) <| bc_take (tmI rfl rfl) <| bc_take (tmI rfl rfl) <| bc_take (tmI rfl rfl) <| bc_take (tmI rfl rfl) <| bc_skip (.slice none 0 0) <| bc_skip (.slice none 0 0) <| bc_nil) (by kernel_rfl)) ?_
            refine rg_step 26 rfl (by kernel_rfl) (want_0) (oks_drop hS 1 rfl) ?_; intro K hK
            refine ow_storeA hS 0 rfl ts_40 (tmP rfl rfl) (tmA rfl rfl) rfl rfl rfl ?_
            clear hS; intro w hS
            try replace hS := St.nm (M' := [.blk _ _ [_, _, _, _, _, _, _, _, _, _], .blk _ _ [_, _, _, _, _, _, _, _, _, _], .vw _ _]) hS rfl
            refine hK _ _ ?_; clear hK K
            refine rg_done (oks_drop hS 1 rfl) (by kernel_rfl) ?_
            refine then_n (hK11 _ _ ?_); clear hK11 K11
            refine wp_seq_k ?_; intro K32 hK32
            refine wlit ?_
            refine wl_e rfl ?_; intro K hK
            refine ow_build0 hS Try.underlying22 tz_5 rfl rfl ?_
            clear hS; intro g9_0 w hg9_0 hS
            refine hK _ _ ?_; clear hK K
            refine wl_v (x_move (tmS rfl rfl)) ?_
            refine wl_v (x_move (tmI rfl rfl)) ?_
            refine wl_v (x_sliceLH Try.underlying22 ts_5 (tmS rfl rfl) (ev_cN 20) (tmI rfl rfl) (by omega)) ?_
            replace hS := hS.cutb 3 20 (sz - 20) rfl (by omega : l.length ≤ c)
            refine wl_e rfl ?_; intro K hK
            refine ow_appendV hS 1 rfl (viewV hS.ok 0 rfl) Try.underlying22 tz_5 rfl (tmS rfl rfl) (tmS rfl rfl) (by first | exact u8v_one _ | (intro u hu; simp at hu; first | (rcases hu with rfl | rfl <;> rfl) | (obtain ⟨_, _, rfl⟩ := hu; rfl))) ⟨by decide, by first | rfl | (simp; done) | (simp; omega)⟩ (by simp only [maxLen]; omega) (by omega) ?_; clear hS; intro g9_4 cg9_4 w hAg9_4 hCg9_4 hS
            refine hK _ _ ?_; clear hK K
            refine wl_v (x_fa 8 Try.underlying40 rfl rfl ts_22 (tmP rfl rfl)) ?_
            refine wl_e rfl ?_; intro K hK
            refine ow_store hS 2 rfl ts_22 (tmP rfl rfl) (tmS rfl rfl) rfl rfl ?_
            clear hS; intro w hS
            try replace hS := St.nm (M' := [.vw _ _, .row _ _ _ _ _, .blk _ _ [_, _, _, _, _, _, _, _, _, _], .blk _ _ [_, _, _, _, _, _, _, _, _, _], .vw _ _]) hS rfl
            refine hK _ _ ?_; clear hK K
            refine wl_nil ?_
            simp only [List.nil_append, Nat.zero_add] at hS
            refine then_n (hK32 _ _ ?_); clear hK32 K32
            refine wp_seq_k ?_; intro K33 hK33
            refine wlit ?_
            refine wl_e rfl ?_; intro K hK
            refine ow_build0 hS Try.underlying22 tz_5 rfl rfl ?_
            clear hS; intro g10_0 w hg10_0 hS
            refine hK _ _ ?_; clear hK K
            refine wl_v (x_move (tmS rfl rfl)) ?_
            refine wl_v (x_move (tmI rfl rfl)) ?_
            refine wl_v (x_sliceL Try.underlying22 ts_5 (tmS rfl rfl) (tmI rfl rfl) (by omega)) ?_
            replace hS := hS.dropb 5 sz rfl (by omega : l.length ≤ c)
            refine wl_e rfl ?_; intro K hK
            refine ow_appendV hS 1 rfl (viewV hS.ok 0 rfl) Try.underlying22 tz_5 rfl (tmS rfl rfl) (tmS rfl rfl) (by first | exact u8v_one _ | (intro u hu; simp at hu; first | (rcases hu with rfl | rfl <;> rfl) | (obtain ⟨_, _, rfl⟩ := hu; rfl))) ⟨by decide, by first | rfl | (simp; done) | (simp; omega)⟩ (by simp only [maxLen]; omega) (by omega) ?_; clear hS; intro g10_4 cg10_4 w hAg10_4 hCg10_4 hS
            refine hK _ _ ?_; clear hK K
            refine wl_v (x_fa 9 Try.underlying40 rfl rfl ts_22 (tmP rfl rfl)) ?_
            refine wl_e rfl ?_; intro K hK
            refine ow_store hS 4 rfl ts_22 (tmP rfl rfl) (tmS rfl rfl) rfl rfl ?_
            clear hS; intro w hS
            try replace hS := St.nm (M' := [.vw _ _, .row _ _ _ _ _, .vw _ _, .row _ _ _ _ _, .blk _ _ [_, _, _, _, _, _, _, _, _, _], .blk _ _ [_, _, _, _, _, _, _, _, _, _], .vw _ _]) hS rfl
            refine hK _ _ ?_; clear hK K
            refine wl_nil ?_
            simp only [List.nil_append, Nat.zero_add] at hS
            refine then_n (hK33 _ _ ?_); clear hK33 K33
            refine wp_seq_k ?_; intro K34 hK34
            refine wlit ?_
            refine wl_v (x_loadA (cs := [_, _, _, _, _, _, _, _, _, _]) Try.underlying40 rfl ts_40 (tmP rfl rfl) (rangeB hS.ok 4 rfl rfl)) ?_
            refine wl_e rfl ?_; intro K hK
            refine ow_storeA hS 5 rfl ts_40 (tmP rfl rfl) (tmA rfl rfl) rfl rfl rfl ?_
            clear hS; intro w hS
            try replace hS := St.nm (M' := [.vw _ _, .row _ _ _ _ _, .vw _ _, .row _ _ _ _ _, .blk _ _ [_, _, _, _, _, _, _, _, _, _], .blk _ _ [_, _, _, _, _, _, _, _, _, _], .vw _ _]) hS rfl
            refine hK _ _ ?_; clear hK K
            refine wl_v (x_assign (ev_cN 0)) ?_
            refine wl_nil ?_
            refine then_n (hK34 _ _ ?_); clear hK34 K34
            refine wp_ret ?_
            refine ret2 rfl (.cell rfl rfl (load_rowB (cs := [_, _, _, _, _, _, _, _, _, _]) hS.ok 5 rfl Try.underlying40 rfl ts_40 rfl)) (.tmp rfl (show _ = Value.int _ _ from rfl)) ?_
            have hcp := row_cap (hS.rowOk 3 rfl) (by decide)
            refine ⟨g9_4, cg9_4, g10_4, cg10_4, by rw [e13]; rfl, hS.newv 3 rfl, hS.newv 1 rfl, by omega, hS.kp⟩
        · intro K hK
          refine ow_alloc hS tz_40 rfl ?_
          clear hS; intro g8_25 w hg8_25 hS
          refine hK _ _ ?_; clear hK K
          refine rg_step 4 rfl (by kernel_rfl) (want_0) (oks_drop hS 1 rfl) ?_; intro K hK
          refine ow_call Try.func17 rfl rfl (evs_cons (tmS rfl rfl) <| evs_cons (ev_cN 2) <| evs_cons (ev_cN 2) <| evs_nil) (get_c n _ c l _ _ _ (viewV hS.ok 2 rfl) hl hc hn4 hb (by omega) (by omega)) ?_
          rintro e w ⟨rfl, hk⟩
          refine ⟨_, rfl, ?_⟩
          replace hS := hS.kept hk
          clear hk
          refine hK _ _ ?_; clear hK K
          refine rg_take 5 rfl rfl (by kernel_rfl) (by kernel_rfl) (by kernel_rfl) (want_0) (fun w hok => x_convN Try.underlying24 Try.underlying27 (tmI rfl rfl) (fit_u16 (by omega))) ?_
          refine rg_step 7 rfl (by kernel_rfl) (want_0) (oks_drop hS 1 rfl) ?_; intro K hK
          refine ow_call Try.func17 rfl rfl (evs_cons (tmS rfl rfl) <| evs_cons (ev_cN 4) <| evs_cons (ev_cN 4) <| evs_nil) (get_c n _ c l _ _ _ (viewV hS.ok 2 rfl) hl hc hn4 hb (by omega) (by omega)) ?_
          rintro e w ⟨rfl, hk⟩
          refine ⟨_, rfl, ?_⟩
          replace hS := hS.kept hk
          clear hk
          refine hK _ _ ?_; clear hK K
          refine rg_take 8 rfl rfl (by kernel_rfl) (by kernel_rfl) (by kernel_rfl) (want_0) (fun w hok => x_convN Try.underlying24 Try.underlying30 (tmI rfl rfl) (fit_u32 (by omega))) ?_
          refine rg_step 10 rfl (by kernel_rfl) (want_0) (oks_drop hS 1 rfl) ?_; intro K hK
          refine ow_call Try.func17 rfl rfl (evs_cons (tmS rfl rfl) <| evs_cons (ev_cN 8) <| evs_cons (ev_cN 4) <| evs_nil) (get_c n _ c l _ _ _ (viewV hS.ok 2 rfl) hl hc hn4 hb (by omega) (by omega)) ?_
          rintro e w ⟨rfl, hk⟩
          refine ⟨_, rfl, ?_⟩
          replace hS := hS.kept hk
          clear hk
          refine hK _ _ ?_; clear hK K
          refine rg_take 11 rfl rfl (by kernel_rfl) (by kernel_rfl) (by kernel_rfl) (want_0) (fun w hok => x_convN Try.underlying24 Try.underlying30 (tmI rfl rfl) (fit_u32 (by omega))) ?_
          refine rg_step 16 rfl (by kernel_rfl) (want_0) (oks_drop hS 1 rfl) ?_; intro K hK
          refine ow_call Try.func17 rfl rfl (evs_cons (tmS rfl rfl) <| evs_cons (ev_cN 14) <| evs_cons (ev_cN 2) <| evs_nil) (get_c n _ c l _ _ _ (viewV hS.ok 2 rfl) hl hc hn4 hb (by omega) (by omega)) ?_
          rintro e w ⟨rfl, hk⟩
          refine ⟨_, rfl, ?_⟩
          replace hS := hS.kept hk
          clear hk
          refine hK _ _ ?_; clear hK K
          refine rg_take 17 rfl rfl (by kernel_rfl) (by kernel_rfl) (by kernel_rfl) (want_0) (fun w hok => x_convN Try.underlying24 Try.underlying27 (tmI rfl rfl) (fit_u16 (by omega))) ?_
          refine rg_step 19 rfl (by kernel_rfl) (want_0) (oks_drop hS 1 rfl) ?_; intro K hK
          refine ow_call Try.func17 rfl rfl (evs_cons (tmS rfl rfl) <| evs_cons (ev_cN 16) <| evs_cons (ev_cN 2) <| evs_nil) (get_c n _ c l _ _ _ (viewV hS.ok 2 rfl) hl hc hn4 hb (by omega) (by omega)) ?_
          rintro e w ⟨rfl, hk⟩
          refine ⟨_, rfl, ?_⟩
          replace hS := hS.kept hk
          clear hk
          refine hK _ _ ?_; clear hK K
          refine rg_take 20 rfl rfl (by kernel_rfl) (by kernel_rfl) (by kernel_rfl) (want_0) (fun w hok => x_convN Try.underlying24 Try.underlying27 (tmI rfl rfl) (fit_u16 (by omega))) ?_
          refine rg_step 22 rfl (by kernel_rfl) (want_0) (oks_drop hS 1 rfl) ?_; intro K hK
          refine ow_call Try.func17 rfl rfl (evs_cons (tmS rfl rfl) <| evs_cons (ev_cN 18) <| evs_cons (ev_cN 2) <| evs_nil) (get_c n _ c l _ _ _ (viewV hS.ok 2 rfl) hl hc hn4 hb (by omega) (by omega)) ?_
          rintro e w ⟨rfl, hk⟩
          refine ⟨_, rfl, ?_⟩
          replace hS := hS.kept hk
          clear hk
          refine hK _ _ ?_; clear hK K
          refine rg_take 23 rfl rfl (by kernel_rfl) (by kernel_rfl) (by kernel_rfl) (want_0) (fun w hok => x_convN Try.underlying24 Try.underlying27 (tmI rfl rfl) (fit_u16 (by omega))) ?_
          refine rg_take 24 rfl rfl (by kernel_rfl) (by kernel_rfl) (by kernel_rfl) (want_0) (fun w hok => x_build (bc_take (tmI rfl rfl) <| bc_take (tmI rfl rfl) <| bc_take (tmI rfl rfl) <| bc_take (tmI rfl rfl) <| bc_take (tmI rfl rfl) <| bc_take (tmI rfl rfl) <| bc_take (tmI rfl rfl) <| bc_take (tmI rfl rfl) <| bc_skip (.slice none 0 0) <| bc_skip (.slice none 0 0) <| bc_nil) (by kernel_rfl)) ?_
          refine rg_step 26 rfl (by kernel_rfl) (want_0) (oks_drop hS 1 rfl) ?_; intro K hK
          refine ow_storeA hS 0 rfl ts_40 (tmP rfl rfl) (tmA rfl rfl) rfl rfl rfl ?_
          clear hS; intro w hS
          try replace hS := St.nm (M' := [.blk _ _ [_, _, _, _, _, _, _, _, _, _], .blk _ _ [_, _, _, _, _, _, _, _, _, _], .vw _ _]) hS rfl
          refine hK _ _ ?_; clear hK K
          refine rg_done (oks_drop hS 1 rfl) (by kernel_rfl) ?_
          refine then_n (hK11 _ _ ?_); clear hK11 K11
          refine wp_seq_k ?_; intro K36 hK36
          refine wlit ?_
          refine wl_e rfl ?_; intro K hK
          refine ow_build0 hS Try.underlying22 tz_5 rfl rfl ?_
          clear hS; intro g9_0 w hg9_0 hS
          refine hK _ _ ?_; clear hK K
          refine wl_v (x_move (tmS rfl rfl)) ?_
          refine wl_v (x_move (tmI rfl rfl)) ?_
          refine wl_v (x_sliceLH Try.underlying22 ts_5 (tmS rfl rfl) (ev_cN 20) (tmI rfl rfl) (by omega)) ?_
          replace hS := hS.cutb 3 20 (sz - 20) rfl (by omega : l.length ≤ c)
          refine wl_e rfl ?_; intro K hK
          refine ow_appendV hS 1 rfl (viewV hS.ok 0 rfl) Try.underlying22 tz_5 rfl (tmS rfl rfl) (tmS rfl rfl) (by first | exact u8v_one _ | (intro u hu; simp at hu; first | (rcases hu with rfl | rfl <;> rfl) | (obtain ⟨_, _, rfl⟩ := hu; rfl))) ⟨by decide, by first | rfl | (simp; done) | (simp; omega)⟩ (by simp only [maxLen]; omega) (by omega) ?_; clear hS; intro g9_4 cg9_4 w hAg9_4 hCg9_4 hS
          refine hK _ _ ?_; clear hK K
          refine wl_v (x_fa 8 Try.underlying40 rfl rfl ts_22 (tmP rfl rfl)) ?_
          refine wl_e rfl ?_; intro K hK
          refine ow_store hS 2 rfl ts_22 (tmP rfl rfl) (tmS rfl rfl) rfl rfl ?_
          clear hS; intro w hS
          try replace hS := St.nm (M' := [.vw _ _, .row _ _ _ _ _, .blk _ _ [_, _, _, _, _, _, _, _, _, _], .blk _ _ [_, _, _, _, _, _, _, _, _, _], .vw _ _]) hS rfl
          refine hK _ _ ?_; clear hK K
          refine wl_nil ?_
          simp only [List.nil_append, Nat.zero_add] at hS
          refine then_n (hK36 _ _ ?_); clear hK36 K36
          refine wp_seq_k ?_; intro K37 hK37
          refine wlit ?_
          refine wl_e rfl ?_; intro K hK
          refine ow_build0 hS Try.underlying22 tz_5 rfl rfl ?_
          clear hS; intro g10_0 w hg10_0 hS
          refine hK _ _ ?_; clear hK K
          refine wl_v (x_move (tmS rfl rfl)) ?_
          refine wl_v (x_move (tmI rfl rfl)) ?_
          refine wl_v (x_sliceL Try.underlying22 ts_5 (tmS rfl rfl) (tmI rfl rfl) (by omega)) ?_
          replace hS := hS.dropb 5 sz rfl (by omega : l.length ≤ c)
          refine wl_e rfl ?_; intro K hK
          refine ow_appendV hS 1 rfl (viewV hS.ok 0 rfl) Try.underlying22 tz_5 rfl (tmS rfl rfl) (tmS rfl rfl) (by first | exact u8v_one _ | (intro u hu; simp at hu; first | (rcases hu with rfl | rfl <;> rfl) | (obtain ⟨_, _, rfl⟩ := hu; rfl))) ⟨by decide, by first | rfl | (simp; done) | (simp; omega)⟩ (by simp only [maxLen]; omega) (by omega) ?_; clear hS; intro g10_4 cg10_4 w hAg10_4 hCg10_4 hS
          refine hK _ _ ?_; clear hK K
          refine wl_v (x_fa 9 Try.underlying40 rfl rfl ts_22 (tmP rfl rfl)) ?_
          refine wl_e rfl ?_; intro K hK
          refine ow_store hS 4 rfl ts_22 (tmP rfl rfl) (tmS rfl rfl) rfl rfl ?_
          clear hS; intro w hS
          try replace hS := St.nm (M' := [.vw _ _, .row _ _ _ _ _, .vw _ _, .row _ _ _ _ _, .blk _ _ [_, _, _, _, _, _, _, _, _, _], .blk _ _ [_, _, _, _, _, _, _, _, _, _], .vw _ _]) hS rfl
          refine hK _ _ ?_; clear hK K
          refine wl_nil ?_
          simp only [List.nil_append, Nat.zero_add] at hS
          refine then_n (hK37 _ _ ?_); clear hK37 K37
          refine wp_seq_k ?_; intro K38 hK38
          refine wlit ?_
          refine wl_v (x_loadA (cs := [_, _, _, _, _, _, _, _, _, _]) Try.underlying40 rfl ts_40 (tmP rfl rfl) (rangeB hS.ok 4 rfl rfl)) ?_
          refine wl_e rfl ?_; intro K hK
          refine ow_storeA hS 5 rfl ts_40 (tmP rfl rfl) (tmA rfl rfl) rfl rfl rfl ?_
          clear hS; intro w hS
          try replace hS := St.nm (M' := [.vw _ _, .row _ _ _ _ _, .vw _ _, .row _ _ _ _ _, .blk _ _ [_, _, _, _, _, _, _, _, _, _], .blk _ _ [_, _, _, _, _, _, _, _, _, _], .vw _ _]) hS rfl
          refine hK _ _ ?_; clear hK K
          refine wl_v (x_assign (ev_cN 0)) ?_
          refine wl_nil ?_
          refine then_n (hK38 _ _ ?_); clear hK38 K38
          refine wp_ret ?_
          refine ret2 rfl (.cell rfl rfl (load_rowB (cs := [_, _, _, _, _, _, _, _, _, _]) hS.ok 5 rfl Try.underlying40 rfl ts_40 rfl)) (.tmp rfl (show _ = Value.int _ _ from rfl)) ?_
          have hcp := row_cap (hS.rowOk 3 rfl) (by decide)
          refine ⟨g9_4, cg9_4, g10_4, cg10_4, by rw [e13]; rfl, hS.newv 3 rfl, hS.newv 1 rfl, by omega, hS.kp⟩
      · intro K hK
        refine ow_alloc hS tz_40 rfl ?_
        clear hS; intro g8_25 w hg8_25 hS
        refine hK _ _ ?_; clear hK K
        refine rg_step 1 rfl (by kernel_rfl) (want_0) (oks_drop hS 1 rfl) ?_; intro K hK
        refine ow_call Try.func17 rfl rfl (evs_cons (tmS rfl rfl) <| evs_cons (ev_cN 0) <| evs_cons (ev_cN 2) <| evs_nil) (get_c n _ c l _ _ _ (viewV hS.ok 2 rfl) hl hc hn4 hb (by omega) (by omega)) ?_
        rintro e w ⟨rfl, hk⟩
        refine ⟨_, rfl, ?_⟩
        replace hS := hS.kept hk
        clear hk
        refine hK _ _ ?_; clear hK K
        refine rg_take 2 rfl rfl (by kernel_rfl) (by kernel_rfl) (by kernel_rfl) (want_0) (fun w hok => x_convN Try.underlying24 Try.underlying27 (tmI rfl rfl) (fit_u16 (by omega))) ?_
        refine rg_step 4 rfl (by kernel_rfl) (want_0) (oks_drop hS 1 rfl) ?_; intro K hK
        refine ow_call Try.func17 rfl rfl (evs_cons (tmS rfl rfl) <| evs_cons (ev_cN 2) <| evs_cons (ev_cN 2) <| evs_nil) (get_c n _ c l _ _ _ (viewV hS.ok 2 rfl) hl hc hn4 hb (by omega) (by omega)) ?_
        rintro e w ⟨rfl, hk⟩
        refine ⟨_, rfl, ?_⟩
        replace hS := hS.kept hk
        clear hk
        refine hK _ _ ?_; clear hK K
        refine rg_take 5 rfl rfl (by kernel_rfl) (by kernel_rfl) (by kernel_rfl) (want_0) (fun w hok => x_convN Try.underlying24 Try.underlying27 (tmI rfl rfl) (fit_u16 (by omega))) ?_
        refine rg_step 7 rfl (by kernel_rfl) (want_0) (oks_drop hS 1 rfl) ?_; intro K hK
        refine ow_call Try.func17 rfl rfl (evs_cons (tmS rfl rfl) <| evs_cons (ev_cN 4) <| evs_cons (ev_cN 4) <| evs_nil) (get_c n _ c l _ _ _ (viewV hS.ok 2 rfl) hl hc hn4 hb (by omega) (by omega)) ?_
        rintro e w ⟨rfl, hk⟩
        refine ⟨_, rfl, ?_⟩
        replace hS := hS.kept hk
        clear hk
        refine hK _ _ ?_; clear hK K
        refine rg_take 8 rfl rfl (by kernel_rfl) (by kernel_rfl) (by kernel_rfl) (want_0) (fun w hok => x_convN Try.underlying24 Try.underlying30 (tmI rfl rfl) (fit_u32 (by omega))) ?_
        refine rg_step 10 rfl (by kernel_rfl) (want_0) (oks_drop hS 1 rfl) ?_; intro K hK
        refine ow_call Try.func17 rfl rfl (evs_cons (tmS rfl rfl) <| evs_cons (ev_cN 8) <| evs_cons (ev_cN 4) <| evs_nil) (get_c n _ c l _ _ _ (viewV hS.ok 2 rfl) hl hc hn4 hb (by omega) (by omega)) ?_
        rintro e w ⟨rfl, hk⟩
        refine ⟨_, rfl, ?_⟩
        replace hS := hS.kept hk
        clear hk
        refine hK _ _ ?_; clear hK K
        refine rg_take 11 rfl rfl (by kernel_rfl) (by kernel_rfl) (by kernel_rfl) (want_0) (fun w hok => x_convN Try.underlying24 Try.underlying30 (tmI rfl rfl) (fit_u32 (by omega))) ?_
        refine rg_step 16 rfl (by kernel_rfl) (want_0) (oks_drop hS 1 rfl) ?_; intro K hK
        refine ow_call Try.func17 rfl rfl (evs_cons (tmS rfl rfl) <| evs_cons (ev_cN 14) <| evs_cons (ev_cN 2) <| evs_nil) (get_c n _ c l _ _ _ (viewV hS.ok 2 rfl) hl hc hn4 hb (by omega) (by omega)) ?_
        rintro e w ⟨rfl, hk⟩
        refine ⟨_, rfl, ?_⟩
        replace hS := hS.kept hk
        clear hk
        refine hK _ _ ?_; clear hK K
        refine rg_take 17 rfl rfl (by kernel_rfl) (by kernel_rfl) (by kernel_rfl) (want_0) (fun w hok => x_convN Try.underlying24 Try.underlying27 (tmI rfl rfl) (fit_u16 (by omega))) ?_
        refine rg_step 19 rfl (by kernel_rfl) (want_0) (oks_drop hS 1 rfl) ?_; intro K hK
        refine ow_call Try.func17 rfl rfl (evs_cons (tmS rfl rfl) <| evs_cons (ev_cN 16) <| evs_cons (ev_cN 2) <| evs_nil) (get_c n _ c l _ _ _ (viewV hS.ok 2 rfl) hl hc hn4 hb (by omega) (by omega)) ?_
        rintro e w ⟨rfl, hk⟩
        refine ⟨_, rfl, ?_⟩
        replace hS := hS.kept hk
        clear hk
        refine hK _ _ ?_; clear hK K
        refine rg_take 20 rfl rfl (by kernel_rfl) (by kernel_rfl) (by kernel_rfl) (want_0) (fun w hok => x_convN Try.underlying24 Try.underlying27 (tmI rfl rfl) (fit_u16 (by omega))) ?_
        refine rg_step 22 rfl (by kernel_rfl) (want_0) (oks_drop hS 1 rfl) ?_; intro K hK
        refine ow_call Try.func17 rfl rfl (evs_cons (tmS rfl rfl) <| evs_cons (ev_cN 18) <| evs_cons (ev_cN 2) <| evs_nil) (get_c n _ c l _ _ _ (viewV hS.ok 2 rfl) hl hc hn4 hb (by omega) (by omega)) ?_
        rintro e w ⟨rfl, hk⟩
        refine ⟨_, rfl, ?_⟩
        replace hS := hS.kept hk
        clear hk
        refine hK _ _ ?_; clear hK K
        refine rg_take 23 rfl rfl (by kernel_rfl) (by kernel_rfl) (by kernel_rfl) (want_0) (fun w hok => x_convN Try.underlying24 Try.underlying27 (tmI rfl rfl) (fit_u16 (by omega))) ?_
        refine rg_take 24 rfl rfl (by kernel_rfl) (by kernel_rfl) (by kernel_rfl) (want_0) (fun w hok => x_build (bc_take (tmI rfl rfl) <| bc_take (tmI rfl rfl) <| bc_take (tmI rfl rfl) <| bc_take (tmI rfl rfl) <| bc_take (tmI rfl rfl) <| bc_take (tmI rfl rfl) <| bc_take (tmI rfl rfl) <| bc_take (tmI rfl rfl) <| bc_skip (.slice none 0 0) <| bc_skip (.slice none 0 0) <| bc_nil) (by kernel_rfl)) ?_
        refine rg_step 26 rfl (by kernel_rfl) (want_0) (oks_drop hS 1 rfl) ?_; intro K hK
        refine ow_storeA hS 0 rfl ts_40 (tmP rfl rfl) (tmA rfl rfl) rfl rfl rfl ?_
        clear hS; intro w hS
        try replace hS := St.nm (M' := [.blk _ _ [_, _, _, _, _, _, _, _, _, _], .blk _ _ [_, _, _, _, _, _, _, _, _, _], .vw _ _]) hS rfl
        refine hK _ _ ?_; clear hK K
        refine rg_done (oks_drop hS 1 rfl) (by kernel_rfl) ?_
        refine then_n (hK11 _ _ ?_); clear hK11 K11
        refine wp_seq_k ?_; intro K40 hK40
        refine wlit ?_
        refine wl_e rfl ?_; intro K hK
        refine ow_build0 hS Try.underlying22 tz_5 rfl rfl ?_
        clear hS; intro g9_0 w hg9_0 hS
        refine hK _ _ ?_; clear hK K
        refine wl_v (x_move (tmS rfl rfl)) ?_
        refine wl_v (x_move (tmI rfl rfl)) ?_
        refine wl_v (x_sliceLH Try.underlying22 ts_5 (tmS rfl rfl) (ev_cN 20) (tmI rfl rfl) (by omega)) ?_
        replace hS := hS.cutb 3 20 (sz - 20) rfl (by omega : l.length ≤ c)
        refine wl_e rfl ?_; intro K hK
        refine ow_appendV hS 1 rfl (viewV hS.ok 0 rfl) Try.underlying22 tz_5 rfl (tmS rfl rfl) (tmS rfl rfl) (by first | exact u8v_one _ | (intro u hu; simp at hu; first | (rcases hu with rfl | rfl <;> rfl) | (obtain ⟨_, _, rfl⟩ := hu; rfl))) ⟨by decide, by first | rfl | (simp; done) | (simp; omega)⟩ (by simp only [maxLen]; omega) (by omega) ?_; clear hS; intro g9_4 cg9_4 w hAg9_4 hCg9_4 hS
        refine hK _ _ ?_; clear hK K
        refine wl_v (x_fa 8 Try.underlying40 rfl rfl ts_22 (tmP rfl rfl)) ?_
        refine wl_e rfl ?_; intro K hK
        refine ow_store hS 2 rfl ts_22 (tmP rfl rfl) (tmS rfl rfl) rfl rfl ?_
        clear hS; intro w hS
        try replace hS := St.nm (M' := [.vw _ _, .row _ _ _ _ _, .blk _ _ [_, _, _, _, _, _, _, _, _, _], .blk _ _ [_, _, _, _, _, _, _, _, _, _], .vw _ _]) hS rfl
        refine hK _ _ ?_; clear hK K
        refine wl_nil ?_
        simp only [List.nil_append, Nat.zero_add] at hS
        refine then_n (hK40 _ _ ?_); clear hK40 K40
        refine wp_seq_k ?_; intro K41 hK41
        refine wlit ?_
        refine wl_e rfl ?_; intro K hK
        refine ow_build0 hS Try.underlying22 tz_5 rfl rfl ?_
        clear hS; intro g10_0 w hg10_0 hS
        refine hK _ _ ?_; clear hK K
        refine wl_v (x_move (tmS rfl rfl)) ?_
        refine wl_v (x_move (tmI rfl rfl)) ?_
        refine wl_v (x_sliceL Try.underlying22 ts_5 (tmS rfl rfl) (tmI rfl rfl) (by omega)) ?_
        replace hS := hS.dropb 5 sz rfl (by omega : l.length ≤ c)
        refine wl_e rfl ?_; intro K hK
        refine ow_appendV hS 1 rfl (viewV hS.ok 0 rfl) Try.underlying22 tz_5 rfl (tmS rfl rfl) (tmS rfl rfl) (by first | exact u8v_one _ | (intro u hu; simp at hu; first | (rcases hu with rfl | rfl <;> rfl) | (obtain ⟨_, _, rfl⟩ := hu; rfl))) ⟨by decide, by first | rfl | (simp; done) | (simp; omega)⟩ (by simp only [maxLen]; omega) (by omega) ?_; clear hS; intro g10_4 cg10_4 w hAg10_4 hCg10_4 hS
        refine hK _ _ ?_; clear hK K
        refine wl_v (x_fa 9 Try.underlying40 rfl rfl ts_22 (tmP rfl rfl)) ?_
        refine wl_e rfl ?_; intro K hK
        refine ow_store hS 4 rfl ts_22 (tmP rfl rfl) (tmS rfl rfl) rfl rfl ?_
        clear hS; intro w hS
        try replace hS := St.nm (M' := [.vw _ _, .row _ _ _ _ _, .vw _ _, .row _ _ _ _ _, .blk _ _ [_, _, _, _, _, _, _, _, _, _], .blk _ _ [_, _, _, _, _, _, _, _, _, _], .vw _ _]) hS rfl
        refine hK _ _ ?_; clear hK K
        refine wl_nil ?_
        simp only [List.nil_append, Nat.zero_add] at hS
        refine then_n (hK41 _ _ ?_); clear hK41 K41
        refine wp_seq_k ?_; intro K42 hK42
        refine wlit ?_
        refine wl_v (x_loadA (cs := [_, _, _, _, _, _, _, _, _, _]) Try.underlying40 rfl ts_40 (tmP rfl rfl) (rangeB hS.ok 4 rfl rfl)) ?_
        refine wl_e rfl ?_; intro K hK
        refine ow_storeA hS 5 rfl ts_40 (tmP rfl rfl) (tmA rfl rfl) rfl rfl rfl ?_
        clear hS; intro w hS
        try replace hS := St.nm (M' := [.vw _ _, .row _ _ _ _ _, .vw _ _, .row _ _ _ _ _, .blk _ _ [_, _, _, _, _, _, _, _, _, _], .blk _ _ [_, _, _, _, _, _, _, _, _, _], .vw _ _]) hS rfl
        refine hK _ _ ?_; clear hK K
        refine wl_v (x_assign (ev_cN 0)) ?_
        refine wl_nil ?_
        refine then_n (hK42 _ _ ?_); clear hK42 K42
        refine wp_ret ?_
        refine ret2 rfl (.cell rfl rfl (load_rowB (cs := [_, _, _, _, _, _, _, _, _, _]) hS.ok 5 rfl Try.underlying40 rfl ts_40 rfl)) (.tmp rfl (show _ = Value.int _ _ from rfl)) ?_
        have hcp := row_cap (hS.rowOk 3 rfl) (by decide)
        refine ⟨g9_4, cg9_4, g10_4, cg10_4, by rw [e13]; rfl, hS.newv 3 rfl, hS.newv 1 rfl, by omega, hS.kp⟩
/-- What Parse says of the options. -/
def PTo (fn : Nat) (l : List Nat) (o : List Nat) (er : Nat) : Prop := ∀ (w : World) (A : Option Addr) (c : Nat), View w w.heap.size A (l.map u8v) → l.length ≤ c →
  Calls Try.prog fn #[.slice A l.length c] w fun e w' => ∃ (a1 a2 a3 a4 a5 a6 a7 a8 : Nat) (O : Option Addr) (co : Nat) (X : Option Addr) (k cx : Nat), e = .returned (.tuple #[.agg (segV a1 a2 a3 a4 a5 a6 a7 a8 O o.length co X k cx).toArray, .int .i64 (er : Int)]) ∧ o.length ≤ co ∧ NewV w w' O (o.map u8v) ∧ Kp [] w w'
theorem pto_ex (l : List Nat) (hb : Bytes l) (hn : l.length ≤ 3000) : ∃ o er, Bytes o ∧ o.length ≤ 3000 ∧ er < 100 ∧ PTo 33 l o er ∧ PTo 19 l o er := by
  obtain ⟨sz, hsz⟩ : ∃ sz, sz = nth l 12 / 16 * 4 := ⟨_, rfl⟩
  by_cases hg : 20 ≤ sz ∧ nth l 12 % 16 = 0 ∧ sz ≤ l.length
  · obtain ⟨h1, h2, h3⟩ := hg
    have lo : ((l.drop 20).take (sz - 20)).length = sz - 20 := by rw [List.length_take, List.length_drop]; omega
    refine ⟨(l.drop 20).take (sz - 20), 0, (hb.drop _).take _, by omega, by omega, fun w A c hv hc => ?_, fun w A c hv hc => ?_⟩
    · refine Calls.mono (tcp_parse_c l.length A c l w hv rfl hb (by omega) sz hsz h1 h2 h3) fun e w' ⟨O, L, e1, e2, e3, e4⟩ => ⟨getN l 0 2, getN l 2 2, getN l 4 4, getN l 8 4, getN l 13 1, getN l 14 2, getN l 16 2, getN l 18 2, O, sz - 20, L, l.length - sz, l.length - sz, ?_, by omega, e2, e4⟩
      rw [lo]
      exact e1
    · refine Calls.mono (rtcp_parse_k l.length A c l w hv rfl hc hb (by omega) sz hsz h1 h2 h3) fun e w' ⟨O, co, L, cl, e1, e2, e3, e4, e5⟩ => ⟨getN l 0 2, getN l 2 2, getN l 4 4, getN l 8 4, getN l 13 1, getN l 14 2, getN l 16 2, getN l 18 2, O, co, L, l.length - sz, cl, ?_, by omega, e2, e5⟩
      rw [lo]
      exact e1
  · obtain ⟨er, her, h⟩ : ∃ er, er < 100 ∧ ((l.length < 20 ∧ er = 20) ∨ (20 ≤ l.length ∧ (sz < 20 ∨ nth l 12 % 16 ≠ 0) ∧ er = 21) ∨ (20 ≤ l.length ∧ 20 ≤ sz ∧ nth l 12 % 16 = 0 ∧ l.length < sz ∧ er = 20)) := by
      by_cases a1 : l.length < 20
      · exact ⟨20, by omega, .inl ⟨a1, rfl⟩⟩
      · by_cases a2 : sz < 20 ∨ nth l 12 % 16 ≠ 0
        · exact ⟨21, by omega, .inr (.inl ⟨by omega, a2, rfl⟩)⟩
        · exact ⟨20, by omega, .inr (.inr ⟨by omega, by omega, by omega, by omega, rfl⟩)⟩
    refine ⟨[], er, Bytes.nil, by simp, her, fun w A c hv hc => ?_, fun w A c hv hc => ?_⟩
    · exact Calls.mono (tcp_parse_bad l.length A c l w hv rfl hb (by omega) sz er hsz h) fun e w' ⟨e1, e2⟩ => ⟨0, 0, 0, 0, 0, 0, 0, 0, none, 0, none, 0, 0, e1, by simp, ⟨View.nil_, fun g hg => by cases hg⟩, e2⟩
    · exact Calls.mono (rtcp_parse_bad l.length A c l w hv rfl hb (by omega) sz er hsz h) fun e w' ⟨e1, e2⟩ => ⟨0, 0, 0, 0, 0, 0, 0, 0, none, 0, none, 0, 0, e1, by simp, ⟨View.nil_, fun g hg => by cases hg⟩, e2⟩
/-- The stamp of a segment: the options, the error. -/
def stHas (o : List Nat) (er : Nat) : Bool := decide (er = 0) && (stampsL o 0).isSome
def stVal (o : List Nat) (er : Nat) : Nat := if er = 0 then (match stampsL o 0 with | some q => getN o q 4 | none => 0) else 0
theorem st_bad {o : List Nat} {er : Nat} (h : er ≠ 0) : stHas o er = false ∧ stVal o er = 0 := by
  unfold stHas stVal
  rw [if_neg h, decide_eq_false h]
  exact ⟨rfl, rfl⟩
theorem st_none {o : List Nat} {er : Nat} (h : stampsL o 0 = none) : stHas o er = false ∧ stVal o er = 0 := by
  unfold stHas stVal
  rw [h]
  exact ⟨by simp, by simp⟩
theorem st_some {o : List Nat} {er : Nat} {q : Nat} (h0 : er = 0) (h : stampsL o 0 = some q) : stHas o er = true ∧ stVal o er = getN o q 4 := by
  unfold stHas stVal
  rw [h, h0]
  exact ⟨rfl, rfl⟩
set_option maxRecDepth 100000 in
set_option maxHeartbeats 8000000 in
theorem stamp_c (x : List Nat) (o : List Nat) (er : Nat) (hob : Bytes o) (ho : o.length ≤ 3000) (hP : PTo 33 x o er) (m : Nat) (A : Option Addr) (c : Nat) (w0 : World) (hv : View w0 w0.heap.size A (x.map u8v)) (hm : x.length = m) (hc : m ≤ c) :
    Calls Try.prog 16 #[.slice A m c] w0 fun e w' => e = .returned (.tuple #[.int .u32 ((stVal o er : Nat) : Int), .bool (stHas o er)]) ∧ Kp [] w0 w' := by
  subst hm
  have hS := (St.sv w0).vcons rfl hv
  rcases hst : stampsL o 0 with _ | q
  · skip
    refine ent (n := 24) Try.func16 rfl rfl ?_
    refine wp_seq_k ?_; intro K1 hK1
    refine wlit ?_
    refine wl_v (x_assign (ev_cN 0)) ?_
    refine wl_v (x_assign ev_c) ?_
    refine wl_nil ?_
    refine then_n (hK1 _ _ ?_); clear hK1 K1
    refine wp_seq_k ?_; intro K2 hK2
    refine wlit ?_
    refine wl_v (x_move (tmS rfl rfl)) ?_
    refine wl_e rfl ?_; intro K hK
    refine ow_call Try.func33 rfl rfl (evs_cons (tmS rfl rfl) <| evs_nil) (hP _ A c (viewV hS.ok 0 rfl) hc) ?_
    rintro e w ⟨a1, a2, a3, a4, a5, a6, a7, a8, O, co, X, k, cx, rfl, hco, hn, hk⟩
    refine ⟨_, rfl, ?_⟩
    replace hS := hS.addn hk hn -- +vo
    clear hn hk
    refine hK _ _ ?_; clear hK K
    refine wl_v (x_move (tmT rfl rfl)) ?_
    refine wl_v (x_ext (tmT rfl rfl) rfl) ?_
    refine wl_v (x_ext (tmT rfl rfl) rfl) ?_
    refine wl_e rfl ?_; intro K hK
    refine ow_alloc hS tz_49 rfl ?_
    clear hS; intro g1_5 w hg1_5 hS
    refine hK _ _ ?_; clear hK K
    refine wl_e rfl ?_; intro K hK
    refine ow_storeA hS 0 rfl ts_49 (tmP rfl rfl) (tmA rfl rfl) rfl rfl rfl ?_
    clear hS; intro w hS
    try replace hS := St.nm (M' := [.blk _ _ [_, _, _, _, _, _, _, _, _, _], .vw _ _, .vw _ _]) hS rfl
    refine hK _ _ ?_; clear hK K
    refine wl_v (x_assign (tmI rfl rfl)) ?_
    refine wl_nil ?_
    refine then_n (hK2 _ _ ?_); clear hK2 K2
    refine wp_seq_k ?_; intro K3 hK3
    refine wp_seq_k ?_; intro K4 hK4
    refine wlit ?_
    refine wl_v (x_move (tmI rfl rfl)) ?_
    refine wl_v (x_neq (tmI rfl rfl) (ev_cN 0)) ?_
    refine wl_nil ?_
    refine then_n (hK4 _ _ ?_); clear hK4 K4
    refine cnd (tm rfl) (fun hc0 => ?_) (fun hc0 => ?_)
    · skip
      all_goals
       try simp only [nrm] at hc0
       refine wp_seq_k ?_; intro K5 hK5
       refine wlit ?_
       refine wl_v (x_assign (ev_cN 0)) ?_
       refine wl_v (x_assign ev_c) ?_
       refine wl_nil ?_
       refine then_n (hK5 _ _ ?_); clear hK5 K5
       refine wp_ret ?_
       refine then_r ?_
       refine ret2 rfl (.tmp rfl (show _ = Value.int _ _ from rfl)) (.tmp rfl (show _ = Value.bool _ from rfl)) ?_
       rw [(st_none hst).1, (st_none hst).2]
       exact ⟨rfl, hS.kp⟩
    all_goals
     try simp only [nrm] at hc0
     refine wp_skip ?_
     refine then_n (hK3 _ _ ?_); clear hK3 K3
     refine wp_seq_k ?_; intro K6 hK6
     refine wlit ?_
     refine wl_v (x_loadA (cs := [_, _, _, _, _, _, _, _, _, _]) Try.underlying49 rfl ts_49 (tmP rfl rfl) (rangeB hS.ok 0 rfl rfl)) ?_
     refine wl_e rfl ?_; intro K hK
     refine ow_call Try.func10 rfl rfl (evs_cons (tmA rfl rfl) <| evs_nil) (stamp_none_c a1 a2 a3 a4 a5 a6 a7 a8 O o.length co X k cx o _ (viewV hS.ok 1 rfl) rfl hob (by omega) hst) ?_
     rintro e w ⟨rfl, hk⟩
     refine ⟨_, rfl, ?_⟩
     replace hS := hS.kept hk
     clear hk
     refine hK _ _ ?_; clear hK K
     refine wl_v (x_move (tmT rfl rfl)) ?_
     refine wl_v (x_ext (tmT rfl rfl) rfl) ?_
     refine wl_v (x_ext (tmT rfl rfl) rfl) ?_
     refine wl_v (x_ext (tmT rfl rfl) rfl) ?_
     refine wl_v (x_assign (tmI rfl rfl)) ?_
     refine wl_v (x_assign (tmI rfl rfl)) ?_
     refine wl_v (x_assign (tmB rfl rfl)) ?_
     refine wl_nil ?_
     refine then_n (hK6 _ _ ?_); clear hK6 K6
     refine wp_seq_k ?_; intro K7 hK7
     refine wlit ?_
     refine wl_v (x_move (tmI rfl rfl)) ?_
     refine wl_v (x_move (tmB rfl rfl)) ?_
     refine wl_v (x_assign (tmI rfl rfl)) ?_
     refine wl_v (x_assign (tmB rfl rfl)) ?_
     refine wl_nil ?_
     refine then_n (hK7 _ _ ?_); clear hK7 K7
     refine wp_ret ?_
     refine ret2 rfl (.tmp rfl (show _ = Value.int _ _ from rfl)) (.tmp rfl (show _ = Value.bool _ from rfl)) ?_
     rw [(st_none hst).1, (st_none hst).2]
     exact ⟨rfl, hS.kp⟩
  · skip
    refine ent (n := 24) Try.func16 rfl rfl ?_
    refine wp_seq_k ?_; intro K1 hK1
    refine wlit ?_
    refine wl_v (x_assign (ev_cN 0)) ?_
    refine wl_v (x_assign ev_c) ?_
    refine wl_nil ?_
    refine then_n (hK1 _ _ ?_); clear hK1 K1
    refine wp_seq_k ?_; intro K2 hK2
    refine wlit ?_
    refine wl_v (x_move (tmS rfl rfl)) ?_
    refine wl_e rfl ?_; intro K hK
    refine ow_call Try.func33 rfl rfl (evs_cons (tmS rfl rfl) <| evs_nil) (hP _ A c (viewV hS.ok 0 rfl) hc) ?_
    rintro e w ⟨a1, a2, a3, a4, a5, a6, a7, a8, O, co, X, k, cx, rfl, hco, hn, hk⟩
    refine ⟨_, rfl, ?_⟩
    replace hS := hS.addn hk hn -- +vo
    clear hn hk
    refine hK _ _ ?_; clear hK K
    refine wl_v (x_move (tmT rfl rfl)) ?_
    refine wl_v (x_ext (tmT rfl rfl) rfl) ?_
    refine wl_v (x_ext (tmT rfl rfl) rfl) ?_
    refine wl_e rfl ?_; intro K hK
    refine ow_alloc hS tz_49 rfl ?_
    clear hS; intro g1_5 w hg1_5 hS
    refine hK _ _ ?_; clear hK K
    refine wl_e rfl ?_; intro K hK
    refine ow_storeA hS 0 rfl ts_49 (tmP rfl rfl) (tmA rfl rfl) rfl rfl rfl ?_
    clear hS; intro w hS
    try replace hS := St.nm (M' := [.blk _ _ [_, _, _, _, _, _, _, _, _, _], .vw _ _, .vw _ _]) hS rfl
    refine hK _ _ ?_; clear hK K
    refine wl_v (x_assign (tmI rfl rfl)) ?_
    refine wl_nil ?_
    refine then_n (hK2 _ _ ?_); clear hK2 K2
    refine wp_seq_k ?_; intro K3 hK3
    refine wp_seq_k ?_; intro K4 hK4
    refine wlit ?_
    refine wl_v (x_move (tmI rfl rfl)) ?_
    refine wl_v (x_neq (tmI rfl rfl) (ev_cN 0)) ?_
    refine wl_nil ?_
    refine then_n (hK4 _ _ ?_); clear hK4 K4
    refine cnd (tm rfl) (fun hc0 => ?_) (fun hc0 => ?_)
    · skip
      all_goals
       try simp only [nrm] at hc0
       refine wp_seq_k ?_; intro K5 hK5
       refine wlit ?_
       refine wl_v (x_assign (ev_cN 0)) ?_
       refine wl_v (x_assign ev_c) ?_
       refine wl_nil ?_
       refine then_n (hK5 _ _ ?_); clear hK5 K5
       refine wp_ret ?_
       refine then_r ?_
       refine ret2 rfl (.tmp rfl (show _ = Value.int _ _ from rfl)) (.tmp rfl (show _ = Value.bool _ from rfl)) ?_
       first
         | (have h0 : er = 0 := by first | omega | (simp at hc0; omega)
            rw [(st_some h0 hst).1, (st_some h0 hst).2]
            exact ⟨rfl, hS.kp⟩)
         | (have h0 : er ≠ 0 := by first | omega | (simp at hc0; omega)
            rw [(st_bad h0).1, (st_bad h0).2]
            exact ⟨rfl, hS.kp⟩)
    all_goals
     try simp only [nrm] at hc0
     refine wp_skip ?_
     refine then_n (hK3 _ _ ?_); clear hK3 K3
     refine wp_seq_k ?_; intro K6 hK6
     refine wlit ?_
     refine wl_v (x_loadA (cs := [_, _, _, _, _, _, _, _, _, _]) Try.underlying49 rfl ts_49 (tmP rfl rfl) (rangeB hS.ok 0 rfl rfl)) ?_
     refine wl_e rfl ?_; intro K hK
     refine ow_call Try.func10 rfl rfl (evs_cons (tmA rfl rfl) <| evs_nil) (stamp_some_c a1 a2 a3 a4 a5 a6 a7 a8 O o.length co X k cx o q _ (viewV hS.ok 1 rfl) rfl hco hob (by omega) hst) ?_
     rintro e w ⟨rfl, hk⟩
     refine ⟨_, rfl, ?_⟩
     replace hS := hS.kept hk
     clear hk
     refine hK _ _ ?_; clear hK K
     refine wl_v (x_move (tmT rfl rfl)) ?_
     refine wl_v (x_ext (tmT rfl rfl) rfl) ?_
     refine wl_v (x_ext (tmT rfl rfl) rfl) ?_
     refine wl_v (x_ext (tmT rfl rfl) rfl) ?_
     refine wl_v (x_assign (tmI rfl rfl)) ?_
     refine wl_v (x_assign (tmI rfl rfl)) ?_
     refine wl_v (x_assign (tmB rfl rfl)) ?_
     refine wl_nil ?_
     refine then_n (hK6 _ _ ?_); clear hK6 K6
     refine wp_seq_k ?_; intro K7 hK7
     refine wlit ?_
     refine wl_v (x_move (tmI rfl rfl)) ?_
     refine wl_v (x_move (tmB rfl rfl)) ?_
     refine wl_v (x_assign (tmI rfl rfl)) ?_
     refine wl_v (x_assign (tmB rfl rfl)) ?_
     refine wl_nil ?_
     refine then_n (hK7 _ _ ?_); clear hK7 K7
     refine wp_ret ?_
     refine ret2 rfl (.tmp rfl (show _ = Value.int _ _ from rfl)) (.tmp rfl (show _ = Value.bool _ from rfl)) ?_
     first
       | (have h0 : er = 0 := by first | omega | (simp at hc0; omega)
          rw [(st_some h0 hst).1, (st_some h0 hst).2]
          exact ⟨rfl, hS.kp⟩)
       | (have h0 : er ≠ 0 := by first | omega | (simp at hc0; omega)
          rw [(st_bad h0).1, (st_bad h0).2]
          exact ⟨rfl, hS.kp⟩)
end Go.Proofs.Ytcobjneobdihkaa
