/- steer: the reference's Read over IPv6, and what it refuses. Conditions: none but bounds. -/
import Derived.Test.YtcobjneobdihkaaStQ
namespace Go.Proofs.Ytcobjneobdihkaa
open Go.ChangeShapes Go.WideShapes Go.ChangeAt Go.RowKit
set_option maxRecDepth 100000 in
set_option maxHeartbeats 8000000 in
theorem rs6_ok (l : List Nat) (hb : Bytes l) (hn : l.length ≤ 3000)   (h : Hd6 l) (pr : Nat) (hpr : pr = nth l 6) (hp2 : pr = 6 ∨ pr = 17) (o : List Nat) (er : Nat) (hob : Bytes o) (ho : o.length ≤ 3000) (hP : PTo 19 (l.drop 40) o er) :
    ReadS 7 true l (quV (src6 l) (dst6 l) (getN l 40 2) (getN l (40 + 2) 2) pr (stV pr o er) (stH pr o er)) true := fun w0 A c hv hc => by
  have hS := (St.sv w0).vcons rfl hv
  obtain ⟨h48, hver⟩ := h
  have hlx : (l.drop 40).length = l.length - 40 := List.length_drop
  have hbx : Bytes (l.drop 40) := hb.drop 40
  have hqb : l.getD 0 0 < 256 := nth_lt hb 0
  have hq9 : l.getD 6 0 < 256 := nth_lt hb 6
  have hq9b : l.getD 9 0 < 256 := nth_lt hb 9
  have hpr' : l.getD 6 0 = pr := hpr.symm
  have q0 : l.getD 0 0 = nth l 0 := rfl
  have g1 : getN l 40 2 < 65536 := getN_lt hb 40 2
  have g2 : getN l (40 + 2) 2 < 65536 := getN_lt hb (40 + 2) 2
  obtain ⟨b4, o4, rfl⟩ := view_some hv (by rw [List.length_map]; omega)
  rcases hst : stampsL o 0 with _ | q
  · have hvn := st_none (er := er) hst
    refine ent (n := 143) Try.func7 rfl rfl ?_
    refine wp_seq_k ?_; intro K1 hK1
    refine wlit ?_
    refine wl_e rfl ?_; intro K hK
    refine ow_alloc hS tz_35 rfl ?_
    clear hS; intro g0_0 w hg0_0 hS
    refine hK _ _ ?_; clear hK K
    refine wl_v (x_assign ev_c) ?_
    refine wl_nil ?_
    refine then_n (hK1 _ _ ?_); clear hK1 K1
    refine wp_seq_k ?_; intro K2 hK2
    refine wp_seq_k ?_; intro K3 hK3
    refine wlit ?_
    refine wl_v (x_move (tmS rfl rfl)) ?_
    refine wl_v (x_len Try.underlying22 (tmS rfl rfl)) ?_
    refine wl_v (x_lss (tmI rfl rfl) (ev_cN 20)) ?_
    refine wl_nil ?_
    refine then_n (hK3 _ _ ?_); clear hK3 K3
    refine cnd (tm rfl) (fun hc0 => ?_) (fun hc0 => ?_)
    · exfalso
      simp only [nrm] at hc0
      omega
    all_goals
     try simp only [nrm] at hc0
     refine wp_skip ?_
     refine then_n (hK2 _ _ ?_); clear hK2 K2
     refine wp_seq_k ?_; intro K4 hK4
     refine rg_startk 0 hS mixed_ ?_
     clear hS; intro w hS
     refine rg_take 0 rfl rfl (by kernel_rfl) (by kernel_rfl) (by kernel_rfl) (want_0) (fun w hok => x_move (tmS rfl rfl)) ?_
     refine rg_take 1 rfl rfl (by kernel_rfl) (by kernel_rfl) (by kernel_rfl) (want_0) (fun w hok => x_ixs1 Try.underlying22 ts_5 (tmS rfl rfl) (ev_cN 0) (by omega)) ?_
     refine rg_take 2 rfl rfl (by kernel_rfl) (by kernel_rfl) (by kernel_rfl) (want_0) (fun w hok => x_load Try.underlying5 rfl (tmP rfl rfl) (cellV hok 1 rfl (getm (by omega)))) ?_
     refine rg_take 3 rfl rfl (by kernel_rfl) (by kernel_rfl) (by kernel_rfl) (want_0) (fun w hok => x_remN (tmI rfl rfl) (ev_cN 16) (by omega)) ?_
     refine rg_take 4 rfl rfl (by kernel_rfl) (by kernel_rfl) (by kernel_rfl) (want_0) (fun w hok => x_convN Try.underlying5 Try.underlying3 (tmI rfl rfl) (fit_i64 (by omega))) ?_
     refine rg_take 5 rfl rfl (by kernel_rfl) (by kernel_rfl) (by kernel_rfl) (want_0) (fun w hok => x_mulN (tmI rfl rfl) (ev_cN 4) (fit_i64 (by omega))) ?_
     refine rg_take 6 rfl rfl (by kernel_rfl) (by kernel_rfl) (by kernel_rfl) (want_0) (fun w hok => x_move (tmS rfl rfl)) ?_
     refine rg_take 7 rfl rfl (by kernel_rfl) (by kernel_rfl) (by kernel_rfl) (want_0) (fun w hok => x_ixs1 Try.underlying22 ts_5 (tmS rfl rfl) (ev_cN 9) (by omega)) ?_
     refine rg_take 8 rfl rfl (by kernel_rfl) (by kernel_rfl) (by kernel_rfl) (want_0) (fun w hok => x_load Try.underlying5 rfl (tmP rfl rfl) (cellV hok 1 rfl (getm (by omega)))) ?_
     refine rg_take 9 rfl rfl (by kernel_rfl) (by kernel_rfl) (by kernel_rfl) (want_0) (fun w hok => x_convN Try.underlying5 Try.underlying3 (tmI rfl rfl) (fit_i64 (by omega))) ?_
     refine rg_take 10 rfl rfl (by kernel_rfl) (by kernel_rfl) (by kernel_rfl) (want_0) (fun w hok => x_assign (tmI rfl rfl)) ?_
     refine rg_take 11 rfl rfl (by kernel_rfl) (by kernel_rfl) (by kernel_rfl) (want_0) (fun w hok => x_assign (ev_cN 12)) ?_
     refine rg_take 12 rfl rfl (by kernel_rfl) (by kernel_rfl) (by kernel_rfl) (want_0) (fun w hok => x_assign (ev_cN 4)) ?_
     refine rg_take 13 rfl rfl (by kernel_rfl) (by kernel_rfl) (by kernel_rfl) (want_0) (fun w hok => x_assign (tmI rfl rfl)) ?_
     refine rg_take 14 rfl rfl (by kernel_rfl) (by kernel_rfl) (by kernel_rfl) (want_0) (fun w hok => x_assign (ev_cN 4)) ?_
     refine rg_done (oks_drop hS 0 rfl) (by kernel_rfl) ?_
     refine then_n (hK4 _ _ ?_); clear hK4 K4
     refine wp_seq_k ?_; intro K5 hK5
     refine wp_seq_k ?_; intro K6 hK6
     refine wlit ?_
     refine wl_v (x_move (tmB rfl rfl)) ?_
     refine wl_nil ?_
     refine then_n (hK6 _ _ ?_); clear hK6 K6
     refine cnds (tm rfl) (fun hc1 => ?_) (fun hc1 => ?_)
     · exfalso
       simp at hc1
     all_goals
      try simp only [nrm] at hc1
      refine rg_startk 0 hS mixed_ ?_
      clear hS; intro w hS
      refine rg_take 0 rfl rfl (by kernel_rfl) (by kernel_rfl) (by kernel_rfl) (want_0) (fun w hok => x_move (tmS rfl rfl)) ?_
      refine rg_take 1 rfl rfl (by kernel_rfl) (by kernel_rfl) (by kernel_rfl) (want_0) (fun w hok => x_ixs1 Try.underlying22 ts_5 (tmS rfl rfl) (ev_cN 6) (by omega)) ?_
      refine rg_take 2 rfl rfl (by kernel_rfl) (by kernel_rfl) (by kernel_rfl) (want_0) (fun w hok => x_load Try.underlying5 rfl (tmP rfl rfl) (cellV hok 1 rfl (getm (by omega)))) ?_
      refine rg_take 3 rfl rfl (by kernel_rfl) (by kernel_rfl) (by kernel_rfl) (want_0) (fun w hok => x_convN Try.underlying5 Try.underlying3 (tmI rfl rfl) (fit_i64 (by omega))) ?_
      refine rg_take 4 rfl rfl (by kernel_rfl) (by kernel_rfl) (by kernel_rfl) (want_0) (fun w hok => x_assign (ev_cN 40)) ?_
      refine rg_take 5 rfl rfl (by kernel_rfl) (by kernel_rfl) (by kernel_rfl) (want_0) (fun w hok => x_assign (ev_cN 8)) ?_
      refine rg_take 6 rfl rfl (by kernel_rfl) (by kernel_rfl) (by kernel_rfl) (want_0) (fun w hok => x_assign (ev_cN 16)) ?_
      refine rg_take 7 rfl rfl (by kernel_rfl) (by kernel_rfl) (by kernel_rfl) (want_0) (fun w hok => x_assign (tmI rfl (congrArg (fun q : Nat => Value.int .i64 (q : Int)) hpr'))) ?_
      refine rg_take 8 rfl rfl (by kernel_rfl) (by kernel_rfl) (by kernel_rfl) (want_0) (fun w hok => x_assign (ev_cN 6)) ?_
      refine rg_done (oks_drop hS 0 rfl) (by kernel_rfl) ?_
      refine then_n (hK5 _ _ ?_); clear hK5 K5
      refine wp_seq_k ?_; intro K7 hK7
      refine wp_seq_k ?_; intro K8 hK8
      refine wlit ?_
      refine wl_v (x_move (tmS rfl rfl)) ?_
      refine wl_v (x_ixs1 Try.underlying22 ts_5 (tmS rfl rfl) (ev_cN 0) (by omega)) ?_
      refine wl_v (x_load Try.underlying5 rfl (tmP rfl rfl) (cellV hS.ok 1 rfl (getm (by omega)))) ?_
      refine wl_v (x_quoN (tmI rfl rfl) (ev_cN 16) (by omega) (fit_u8 (by omega))) ?_
      refine wl_v (x_move (tmI rfl rfl)) ?_
      refine wl_v (x_neq (tmI rfl rfl) (tmI rfl rfl)) ?_
      refine wl_v (x_move (tmB rfl rfl)) ?_
      refine gs_wl (tm (t := 40) rfl) (fun hg6_6 => ?_) (fun hg6_6 => ?_)
      · exfalso
        simp only [nrm] at hg6_6
        omega
      have hg6_6' := hg6_6; (try simp only [nrm] at hg6_6')
      all_goals
       refine wl_gv (want_y rfl rfl rfl rfl (by rw [hg6_6]; rfl)) (x_move (tmI rfl rfl)) ?_
       refine wl_gv (want_y rfl rfl rfl rfl (by rw [hg6_6]; rfl)) (x_lss (tmI rfl rfl) (ev_cN 20)) ?_
       refine wl_v (x_pickF (tmB rfl rfl) hg6_6 (tmB rfl rfl)) ?_
       refine wl_v (x_move (tmB rfl rfl)) ?_
       refine gs_wl (tm (t := 44) rfl) (fun hg6_10 => ?_) (fun hg6_10 => ?_)
       · exfalso
         simp only [nrm] at hg6_10
         omega
       have hg6_10' := hg6_10; (try simp only [nrm] at hg6_10')
       all_goals
        refine wl_gv (want_y rfl rfl rfl rfl (by rw [hg6_10]; rfl)) (x_move (tmS rfl rfl)) ?_
        refine wl_gv (want_y rfl rfl rfl rfl (by rw [hg6_10]; rfl)) (x_len Try.underlying22 (tmS rfl rfl)) ?_
        refine wl_gv (want_y rfl rfl rfl rfl (by rw [hg6_10]; rfl)) (x_move (tmI rfl rfl)) ?_
        refine wl_gv (want_y rfl rfl rfl rfl (by rw [hg6_10]; rfl)) (x_addN (tmI rfl rfl) (ev_cN 8) (fit_i64 (by omega))) ?_
        refine wl_gv (want_y rfl rfl rfl rfl (by rw [hg6_10]; rfl)) (x_lss (tmI rfl rfl) (tmI rfl rfl)) ?_
        refine wl_v (x_pickF (tmB rfl rfl) hg6_10 (tmB rfl rfl)) ?_
        refine wl_v (x_move (tmB rfl rfl)) ?_
        refine gs_wl (tm (t := 51) rfl) (fun hg6_17 => ?_) (fun hg6_17 => ?_)
        · exfalso
          simp only [nrm] at hg6_17
          omega
        have hg6_17' := hg6_17; (try simp only [nrm] at hg6_17')
        all_goals
         refine wl_gv (want_y rfl rfl rfl rfl (by rw [hg6_17]; rfl)) (x_move (tmB rfl rfl)) ?_
         refine wl_gv (want_y rfl rfl rfl rfl (by rw [hg6_17]; rfl)) (x_not (tmB rfl rfl)) ?_
         refine wl_gv (want_y rfl rfl rfl rfl (by rw [hg6_17]; rfl)) (x_move (tmB rfl rfl)) ?_
         refine gs_wl (tm (t := 54) rfl) (fun hg6_20 => ?_) (fun hg6_20 => ?_)
         · have hg6_20' := hg6_20; (try simp only [nrm] at hg6_20'); try (exfalso; first | with_reducible exact absurd hg6_20 Bool.false_ne_true | with_reducible exact absurd hg6_20.symm Bool.false_ne_true | omega | (simp at hg6_20; done))
           all_goals
            refine wl_gv (want_y rfl rfl rfl rfl (by rw [hg6_20]; rfl)) (x_move (tmS rfl rfl)) ?_
            refine wl_g (want_y rfl rfl rfl rfl (by rw [hg6_20]; rfl)) ?_; intro K hK
            refine ow_call Try.func17 rfl rfl (evs_cons (tmS rfl rfl) <| evs_cons (ev_cN 6) <| evs_cons (ev_cN 2) <| evs_nil) (get_c l.length _ c l 6 2 _ (viewV hS.ok 1 rfl) rfl hc (by omega) hb (by omega) (by omega)) ?_
            rintro e w ⟨rfl, hk⟩
            refine ⟨_, rfl, ?_⟩
            replace hS := hS.kept hk
            clear hk
            refine hK _ _ ?_; clear hK K
            first
             | refine wl_gv (want_y rfl rfl rfl rfl (by rw [hg6_20]; rfl)) (x_remN (tmI rfl rfl) (ev_cN 16384) (by omega)) ?_
             | refine wl_gv (want_y rfl rfl rfl rfl (by rw [hg6_20]; rfl)) (x_rem (tmI rfl rfl) (ev_cN 16384) (by omega)) ?_
            refine wl_gv (want_y rfl rfl rfl rfl (by rw [hg6_20]; rfl)) (x_neq (tmI rfl rfl) (ev_cN 0)) ?_
            refine wl_gv (want_y rfl rfl rfl rfl (by rw [hg6_17]; rfl)) (x_pickT (tmB rfl rfl) hg6_20 (tmB rfl rfl)) ?_
            refine wl_v (x_pickF (tmB rfl rfl) hg6_17 (tmB rfl rfl)) ?_
            refine wl_v (x_move (tmB rfl rfl)) ?_
            refine gs_wl (tm (t := 61) rfl) (fun hg6_27 => ?_) (fun hg6_27 => ?_)
            · exfalso
              simp only [nrm] at hg6_27
              omega
            have hg6_27' := hg6_27; (try simp only [nrm] at hg6_27')
            all_goals
             refine wl_gv (want_y rfl rfl rfl rfl (by rw [hg6_27]; rfl)) (x_move (tmI rfl rfl)) ?_
             refine wl_gv (want_y rfl rfl rfl rfl (by rw [hg6_27]; rfl)) (x_neq (tmI rfl rfl) (ev_cN 6)) ?_
             refine wl_gv (want_y rfl rfl rfl rfl (by rw [hg6_27]; rfl)) (x_move (tmB rfl rfl)) ?_
             refine gs_wl (tm (t := 64) rfl) (fun hg6_30 => ?_) (fun hg6_30 => ?_)
             · have hg6_30' := hg6_30; (try simp only [nrm] at hg6_30')
               all_goals
                refine wl_gv (want_y rfl rfl rfl rfl (by rw [hg6_30]; rfl)) (x_move (tmI rfl rfl)) ?_
                refine wl_gv (want_y rfl rfl rfl rfl (by rw [hg6_30]; rfl)) (x_neq (tmI rfl rfl) (ev_cN 17)) ?_
                refine wl_gv (want_y rfl rfl rfl rfl (by rw [hg6_27]; rfl)) (x_pickT (tmB rfl rfl) hg6_30 (tmB rfl rfl)) ?_
                refine wl_v (x_pickF (tmB rfl rfl) hg6_27 (tmB rfl rfl)) ?_
                refine wl_nil ?_
                refine then_n (hK8 _ _ ?_); clear hK8 K8
                refine cnd (tm rfl) (fun hc2 => ?_) (fun hc2 => ?_)
                · exfalso
                  first | omega | (simp only [nrm] at hc2; omega)
                all_goals
                 try simp only [nrm] at hc2
                 refine wp_skip ?_
                 refine then_n (hK7 _ _ ?_); clear hK7 K7
                 refine wp_seq_k ?_; intro K9 hK9
                 refine wlit ?_
                 refine wl_v (x_build (bc_skipL [.bool false, .int .u64 0, .int .u64 0, .bool false, .int .u64 0, .int .u64 0, .int .u16 0, .int .u16 0, .int .u8 0] <| bc_skip (.int .u32 0) <| bc_skip (.bool false) <| bc_nil) (by kernel_rfl)) ?_
                 refine wl_e rfl ?_; intro K hK
                 refine ow_alloc hS tz_35 rfl ?_
                 clear hS; intro g8_1 w hg8_1 hS
                 refine hK _ _ ?_; clear hK K
                 refine wl_e rfl ?_; intro K hK
                 refine ow_storeA hS 0 rfl ts_35 (tmP rfl rfl) (tmA rfl rfl) rfl rfl rfl ?_
                 clear hS; intro w hS
                 try replace hS := St.nm (M' := [.blk _ _ [_, _, _, _, _, _, _, _, _, _, _], .blk _ _ [_, _, _, _, _, _, _, _, _, _, _], .vw _ _]) hS rfl
                 refine hK _ _ ?_; clear hK K
                 refine wl_nil ?_
                 refine then_n (hK9 _ _ ?_); clear hK9 K9
                 refine wp_seq_k ?_; intro K10 hK10
                 refine wlit ?_
                 refine wl_v (x_move (tmS rfl rfl)) ?_
                 refine wl_v (x_move (tmI rfl rfl)) ?_
                 refine wl_v (x_move (tmI rfl rfl)) ?_
                 refine wl_v (x_move (tmI rfl rfl)) ?_
                 first
                  | refine wl_v (x_addN (tmI rfl rfl) (tmI rfl rfl) (fit_i64 (by omega))) ?_
                  | refine wl_v (x_addI (tmI rfl rfl) (tmI rfl rfl) (IntWalk.i64_in _ (by omega))) ?_
                  | refine wl_v (x_add (tmI rfl rfl) (tmI rfl rfl)) ?_
                 refine wl_v (x_sliceLH Try.underlying22 ts_5 (tmS rfl rfl) (tmI rfl rfl) (tmI rfl rfl) (by omega)) ?_
                 replace hS := hS.cutb 2 8 16 rfl hc
                 refine wl_e rfl ?_; intro K hK
                 refine ow_call Try.func18 rfl rfl (evs_cons (tmS rfl rfl) <| evs_nil) (rad_of16_c _ _ _ _ (viewV hS.ok 0 rfl) (by rw [List.length_take, List.length_drop]; omega) (by omega) ((hb.drop _).take 16)) ?_
                 rintro e w ⟨rfl, hk⟩
                 refine ⟨_, rfl, ?_⟩
                 replace hS := hS.kept hk
                 clear hk
                 refine hK _ _ ?_; clear hK K
                 refine wl_v (x_move (tmT rfl rfl)) ?_
                 refine wl_v (x_ext (tmT rfl rfl) rfl) ?_
                 refine wl_v (x_ext (tmT rfl rfl) rfl) ?_
                 refine wl_v (x_fa 0 Try.underlying35 rfl rfl ts_29 (tmP rfl rfl)) ?_
                 refine wl_v (x_fa 0 Try.underlying29 rfl rfl ts_26 (tmP rfl rfl)) ?_
                 refine wl_e rfl ?_; intro K hK
                 refine ow_storeA hS 1 rfl ts_26 (tmP rfl rfl) (tmA rfl rfl) rfl rfl rfl ?_
                 clear hS; intro w hS
                 try replace hS := St.nm (M' := [.vw _ _, .blk _ _ [_, _, _, _, _, _, _, _, _, _, _], .blk _ _ [_, _, _, _, _, _, _, _, _, _, _], .vw _ _]) hS rfl
                 refine hK _ _ ?_; clear hK K
                 refine wl_nil ?_
                 refine then_n (hK10 _ _ ?_); clear hK10 K10
                 refine wp_seq_k ?_; intro K11 hK11
                 refine wlit ?_
                 refine wl_v (x_move (tmS rfl rfl)) ?_
                 refine wl_v (x_move (tmI rfl rfl)) ?_
                 refine wl_v (x_move (tmI rfl rfl)) ?_
                 first
                  | refine wl_v (x_addN (tmI rfl rfl) (tmI rfl rfl) (fit_i64 (by omega))) ?_
                  | refine wl_v (x_addI (tmI rfl rfl) (tmI rfl rfl) (IntWalk.i64_in _ (by omega))) ?_
                  | refine wl_v (x_add (tmI rfl rfl) (tmI rfl rfl)) ?_
                 refine wl_v (x_move (tmI rfl rfl)) ?_
                 refine wl_v (x_move (tmI rfl rfl)) ?_
                 first
                  | refine wl_v (x_mulN (ev_cN 2) (tmI rfl rfl) (fit_i64 (by omega))) ?_
                  | refine wl_v (x_mulI (ev_cN 2) (tmI rfl rfl) (IntWalk.i64_in _ (by omega))) ?_
                  | refine wl_v (x_mul (ev_cN 2) (tmI rfl rfl)) ?_
                 first
                  | refine wl_v (x_addN (tmI rfl rfl) (tmI rfl rfl) (fit_i64 (by omega))) ?_
                  | refine wl_v (x_addI (tmI rfl rfl) (tmI rfl rfl) (IntWalk.i64_in _ (by omega))) ?_
                  | refine wl_v (x_add (tmI rfl rfl) (tmI rfl rfl)) ?_
                 refine wl_v (x_sliceLH Try.underlying22 ts_5 (tmS rfl rfl) (tmI rfl rfl) (tmI rfl rfl) (by omega)) ?_
                 replace hS := hS.cutb 3 24 16 rfl hc
                 refine wl_e rfl ?_; intro K hK
                 refine ow_call Try.func18 rfl rfl (evs_cons (tmS rfl rfl) <| evs_nil) (rad_of16_c _ _ _ _ (viewV hS.ok 0 rfl) (by rw [List.length_take, List.length_drop]; omega) (by omega) ((hb.drop _).take 16)) ?_
                 rintro e w ⟨rfl, hk⟩
                 refine ⟨_, rfl, ?_⟩
                 replace hS := hS.kept hk
                 clear hk
                 refine hK _ _ ?_; clear hK K
                 refine wl_v (x_move (tmT rfl rfl)) ?_
                 refine wl_v (x_ext (tmT rfl rfl) rfl) ?_
                 refine wl_v (x_ext (tmT rfl rfl) rfl) ?_
                 refine wl_v (x_fa 0 Try.underlying35 rfl rfl ts_29 (tmP rfl rfl)) ?_
                 refine wl_v (x_fa 3 Try.underlying29 rfl rfl ts_26 (tmP rfl rfl)) ?_
                 refine wl_e rfl ?_; intro K hK
                 refine ow_storeA hS 2 rfl ts_26 (tmP rfl rfl) (tmA rfl rfl) rfl rfl rfl ?_
                 clear hS; intro w hS
                 try replace hS := St.nm (M' := [.vw _ _, .vw _ _, .blk _ _ [_, _, _, _, _, _, _, _, _, _, _], .blk _ _ [_, _, _, _, _, _, _, _, _, _, _], .vw _ _]) hS rfl
                 refine hK _ _ ?_; clear hK K
                 refine wl_nil ?_
                 refine then_n (hK11 _ _ ?_); clear hK11 K11
                 refine wp_seq_k ?_; intro K12 hK12
                 refine wlit ?_
                 refine wl_v (x_move (tmI rfl rfl)) ?_
                 first
                  | refine wl_v (x_convN Try.underlying3 Try.underlying5 (tmI rfl rfl) (fit_u8 (by omega))) ?_
                  | refine wl_v (x_convU Try.underlying3 Try.underlying5 (tmI rfl rfl) rfl) ?_
                  | refine wl_v (x_conv Try.underlying3 Try.underlying5 (tmI rfl rfl)) ?_
                 refine wl_v (x_fa 0 Try.underlying35 rfl rfl ts_29 (tmP rfl rfl)) ?_
                 refine wl_v (x_fa 8 Try.underlying29 rfl rfl ts_5 (tmP rfl rfl)) ?_
                 refine wl_e rfl ?_; intro K hK
                 first
                  | refine ow_store hS 2 rfl ts_5 (tmP rfl rfl) (tmI rfl rfl) rfl rfl ?_
                  | refine ow_storeX hS 2 rfl ts_5 (tmP rfl rfl) (tmI rfl rfl) rfl (by simp; omega) ?_
                 clear hS; intro w hS
                 try replace hS := St.nm (M' := [.vw _ _, .vw _ _, .blk _ _ [_, _, _, _, _, _, _, _, _, _, _], .blk _ _ [_, _, _, _, _, _, _, _, _, _, _], .vw _ _]) hS rfl
                 refine hK _ _ ?_; clear hK K
                 refine wl_nil ?_
                 refine then_n (hK12 _ _ ?_); clear hK12 K12
                 refine wp_seq_k ?_; intro K13 hK13
                 refine wlit ?_
                 refine wl_v (x_move (tmS rfl rfl)) ?_
                 refine wl_v (x_move (tmI rfl rfl)) ?_
                 refine wl_e rfl ?_; intro K hK
                 refine ow_call Try.func17 rfl rfl (evs_cons (tmS rfl rfl) <| evs_cons (tmI rfl rfl) <| evs_cons (ev_cN 2) <| evs_nil) (get_c l.length _ c l 40 2 _ (viewV hS.ok 4 rfl) rfl hc (by omega) hb (by omega) (by omega)) ?_
                 rintro e w ⟨rfl, hk⟩
                 refine ⟨_, rfl, ?_⟩
                 replace hS := hS.kept hk
                 clear hk
                 refine hK _ _ ?_; clear hK K
                 first
                  | refine wl_v (x_convN Try.underlying24 Try.underlying27 (tmI rfl rfl) (fit_u16 (by omega))) ?_
                  | refine wl_v (x_convU Try.underlying24 Try.underlying27 (tmI rfl rfl) rfl) ?_
                  | refine wl_v (x_conv Try.underlying24 Try.underlying27 (tmI rfl rfl)) ?_
                 refine wl_v (x_fa 0 Try.underlying35 rfl rfl ts_29 (tmP rfl rfl)) ?_
                 refine wl_v (x_fa 6 Try.underlying29 rfl rfl ts_27 (tmP rfl rfl)) ?_
                 refine wl_e rfl ?_; intro K hK
                 first
                  | refine ow_store hS 2 rfl ts_27 (tmP rfl rfl) (tmI rfl rfl) rfl rfl ?_
                  | refine ow_storeX hS 2 rfl ts_27 (tmP rfl rfl) (tmI rfl rfl) rfl (by simp; omega) ?_
                 clear hS; intro w hS
                 try replace hS := St.nm (M' := [.vw _ _, .vw _ _, .blk _ _ [_, _, _, _, _, _, _, _, _, _, _], .blk _ _ [_, _, _, _, _, _, _, _, _, _, _], .vw _ _]) hS rfl
                 refine hK _ _ ?_; clear hK K
                 refine wl_nil ?_
                 refine then_n (hK13 _ _ ?_); clear hK13 K13
                 refine wp_seq_k ?_; intro K14 hK14
                 refine wlit ?_
                 refine wl_v (x_move (tmS rfl rfl)) ?_
                 refine wl_v (x_move (tmI rfl rfl)) ?_
                 first
                  | refine wl_v (x_addN (tmI rfl rfl) (ev_cN 2) (fit_i64 (by omega))) ?_
                  | refine wl_v (x_addI (tmI rfl rfl) (ev_cN 2) (IntWalk.i64_in _ (by omega))) ?_
                  | refine wl_v (x_add (tmI rfl rfl) (ev_cN 2)) ?_
                 refine wl_e rfl ?_; intro K hK
                 refine ow_call Try.func17 rfl rfl (evs_cons (tmS rfl rfl) <| evs_cons (tmI rfl rfl) <| evs_cons (ev_cN 2) <| evs_nil) (get_c l.length _ c l (40 + 2) 2 _ (viewV hS.ok 4 rfl) rfl hc (by omega) hb (by omega) (by omega)) ?_
                 rintro e w ⟨rfl, hk⟩
                 refine ⟨_, rfl, ?_⟩
                 replace hS := hS.kept hk
                 clear hk
                 refine hK _ _ ?_; clear hK K
                 first
                  | refine wl_v (x_convN Try.underlying24 Try.underlying27 (tmI rfl rfl) (fit_u16 (by omega))) ?_
                  | refine wl_v (x_convU Try.underlying24 Try.underlying27 (tmI rfl rfl) rfl) ?_
                  | refine wl_v (x_conv Try.underlying24 Try.underlying27 (tmI rfl rfl)) ?_
                 refine wl_v (x_fa 0 Try.underlying35 rfl rfl ts_29 (tmP rfl rfl)) ?_
                 refine wl_v (x_fa 7 Try.underlying29 rfl rfl ts_27 (tmP rfl rfl)) ?_
                 refine wl_e rfl ?_; intro K hK
                 first
                  | refine ow_store hS 2 rfl ts_27 (tmP rfl rfl) (tmI rfl rfl) rfl rfl ?_
                  | refine ow_storeX hS 2 rfl ts_27 (tmP rfl rfl) (tmI rfl rfl) rfl (by simp; omega) ?_
                 clear hS; intro w hS
                 try replace hS := St.nm (M' := [.vw _ _, .vw _ _, .blk _ _ [_, _, _, _, _, _, _, _, _, _, _], .blk _ _ [_, _, _, _, _, _, _, _, _, _, _], .vw _ _]) hS rfl
                 refine hK _ _ ?_; clear hK K
                 refine wl_nil ?_
                 refine then_n (hK14 _ _ ?_); clear hK14 K14
                 refine wp_seq_k ?_; intro K15 hK15
                 refine wlit ?_
                 refine wl_v (x_move (tmS rfl rfl)) ?_
                 refine wl_v (x_move (tmI rfl rfl)) ?_
                 refine wl_v (x_sliceL Try.underlying22 ts_5 (tmS rfl rfl) (tmI rfl rfl) (by omega)) ?_
                 replace hS := hS.dropb 4 40 rfl hc
                 refine wl_e rfl ?_; intro K hK
                 refine ow_call Try.func19 rfl rfl (evs_cons (tmS rfl rfl) <| evs_nil) (hP.at_ hlx _ _ _ (viewV hS.ok 0 rfl) (by omega)) ?_
                 rintro e w ⟨a1, a2, a3, a4, a5, a6, a7, a8, O, co, X, k, cx, rfl, hco, hn, hk⟩
                 refine ⟨_, rfl, ?_⟩
                 replace hS := hS.addn hk hn -- +vo
                 clear hn hk
                 refine hK _ _ ?_; clear hK K
                 refine wl_v (x_move (tmT rfl rfl)) ?_
                 refine wl_v (x_ext (tmT rfl rfl) rfl) ?_
                 refine wl_v (x_ext (tmT rfl rfl) rfl) ?_
                 refine wl_e rfl ?_; intro K hK
                 refine ow_alloc hS tz_40 rfl ?_
                 clear hS; intro g14_7 w hg14_7 hS
                 refine hK _ _ ?_; clear hK K
                 refine wl_e rfl ?_; intro K hK
                 refine ow_storeA hS 0 rfl ts_40 (tmP rfl rfl) (tmA rfl rfl) rfl rfl rfl ?_
                 clear hS; intro w hS
                 try replace hS := St.nm (M' := [.blk _ _ [_, _, _, _, _, _, _, _, _, _], .vw _ _, .vw _ _, .vw _ _, .vw _ _, .blk _ _ [_, _, _, _, _, _, _, _, _, _, _], .blk _ _ [_, _, _, _, _, _, _, _, _, _, _], .vw _ _]) hS rfl
                 refine hK _ _ ?_; clear hK K
                 refine wl_v (x_assign (tmI rfl rfl)) ?_
                 refine wl_nil ?_
                 refine then_n (hK15 _ _ ?_); clear hK15 K15
                 refine wp_seq_k ?_; intro K16 hK16
                 refine wlit ?_
                 refine wl_v (x_fa 8 Try.underlying40 rfl rfl ts_22 (tmP rfl rfl)) ?_
                 first
                  | refine wl_v (x_load Try.underlying22 rfl (tmP rfl rfl) (cellB hS.ok 0 rfl rfl)) ?_
                  | refine wl_v (x_load Try.underlying22 rfl (tmP rfl rfl) (cellB hS.ok 0 rfl (getm (by omega)))) ?_
                 refine wl_e rfl ?_; intro K hK
                 refine ow_call Try.func20 rfl rfl (evs_cons (tmS rfl rfl) <| evs_nil) (rstamps_none_c o.length O co o _ (viewV hS.ok 1 rfl) rfl hob (by omega) hst) ?_
                 rintro e w ⟨rfl, hk⟩
                 refine ⟨_, rfl, ?_⟩
                 replace hS := hS.kept hk
                 clear hk
                 refine hK _ _ ?_; clear hK K
                 refine wl_v (x_assign (tmI rfl rfl)) ?_
                 refine wl_nil ?_
                 refine then_n (hK16 _ _ ?_); clear hK16 K16
                 refine wp_seq_k ?_; intro K17 hK17
                 refine wp_seq_k ?_; intro K18 hK18
                 refine wlit ?_
                 refine wl_v (x_move (tmI rfl rfl)) ?_
                 refine wl_v (x_eql (tmI rfl rfl) (ev_cN 6)) ?_
                 refine wl_v (x_move (tmB rfl rfl)) ?_
                 refine gs_wl (tm (t := 127) rfl) (fun hg16_2 => ?_) (fun hg16_2 => ?_)
                 · have hg16_2' := hg16_2; (try simp only [nrm] at hg16_2')
                   all_goals
                    refine wl_gv (want_y rfl rfl rfl rfl (by rw [hg16_2]; rfl)) (x_move (tmI rfl rfl)) ?_
                    refine wl_gv (want_y rfl rfl rfl rfl (by rw [hg16_2]; rfl)) (x_eql (tmI rfl rfl) (ev_cN 0)) ?_
                    refine wl_v (x_pickT (tmB rfl rfl) hg16_2 (tmB rfl rfl)) ?_
                    refine wl_v (x_move (tmB rfl rfl)) ?_
                    refine gs_wl (tm (t := 131) rfl) (fun hg16_6 => ?_) (fun hg16_6 => ?_)
                    · have hg16_6' := hg16_6; (try simp only [nrm] at hg16_6')
                      all_goals
                       refine wl_gv (want_y rfl rfl rfl rfl (by rw [hg16_6]; rfl)) (x_move (tmI rfl rfl)) ?_
                       refine wl_gv (want_y rfl rfl rfl rfl (by rw [hg16_6]; rfl)) (x_geq (tmI rfl rfl) (ev_cN 0)) ?_
                       refine wl_v (x_pickT (tmB rfl rfl) hg16_6 (tmB rfl rfl)) ?_
                       refine wl_nil ?_
                       refine then_n (hK18 _ _ ?_); clear hK18 K18
                       refine cnd (tm rfl) (fun hc3 => ?_) (fun hc3 => ?_)
                       · exfalso
                         simp at hc3
                       all_goals
                        try simp only [nrm] at hc3
                        refine wp_skip ?_
                        refine then_n (hK17 _ _ ?_); clear hK17 K17
                        refine wp_seq_k ?_; intro K19 hK19
                        refine wlit ?_
                        refine wl_v (x_loadA (cs := [_, _, _, _, _, _, _, _, _, _, _]) Try.underlying35 rfl ts_35 (tmP rfl rfl) (rangeB hS.ok 5 rfl rfl)) ?_
                        refine wl_e rfl ?_; intro K hK
                        refine ow_storeA hS 6 rfl ts_35 (tmP rfl rfl) (tmA rfl rfl) rfl rfl rfl ?_
                        clear hS; intro w hS
                        try replace hS := St.nm (M' := [.blk _ _ [_, _, _, _, _, _, _, _, _, _], .vw _ _, .vw _ _, .vw _ _, .vw _ _, .blk _ _ [_, _, _, _, _, _, _, _, _, _, _], .blk _ _ [_, _, _, _, _, _, _, _, _, _, _], .vw _ _]) hS rfl
                        refine hK _ _ ?_; clear hK K
                        refine wl_v (x_assign ev_c) ?_
                        refine wl_nil ?_
                        refine then_n (hK19 _ _ ?_); clear hK19 K19
                        refine wp_ret ?_
                        refine ret2 rfl (.cell rfl rfl (load_rowB (cs := [_, _, _, _, _, _, _, _, _, _, _]) hS.ok 6 rfl Try.underlying35 rfl ts_35 rfl)) (.tmp rfl (show _ = Value.bool _ from rfl)) ?_
                        obtain ⟨e1, e2⟩ := sv_no (pr := pr) ⟨hvn.2, hvn.1⟩
                        rw [e1, e2]
                        first | exact ⟨rfl, hS.kp⟩ | exact ⟨by rw [six_ad, six_ad]; rfl, hS.kp⟩
                    have hg16_6' := hg16_6; (try simp only [nrm] at hg16_6')
                    all_goals
                     refine wl_s rfl (want_n rfl rfl rfl rfl (by rw [hg16_6]; rfl)) ?_
                     refine wl_s rfl (want_n rfl rfl rfl rfl (by rw [hg16_6]; rfl)) ?_
                     refine wl_v (x_pickF (tmB rfl rfl) hg16_6 ev_c) ?_
                     refine wl_nil ?_
                     refine then_n (hK18 _ _ ?_); clear hK18 K18
                     refine cnd_f (tmB rfl rfl) rfl ?_
                     refine wp_skip ?_
                     refine then_n (hK17 _ _ ?_); clear hK17 K17
                     refine wp_seq_k ?_; intro K21 hK21
                     refine wlit ?_
                     refine wl_v (x_loadA (cs := [_, _, _, _, _, _, _, _, _, _, _]) Try.underlying35 rfl ts_35 (tmP rfl rfl) (rangeB hS.ok 5 rfl rfl)) ?_
                     refine wl_e rfl ?_; intro K hK
                     refine ow_storeA hS 6 rfl ts_35 (tmP rfl rfl) (tmA rfl rfl) rfl rfl rfl ?_
                     clear hS; intro w hS
                     try replace hS := St.nm (M' := [.blk _ _ [_, _, _, _, _, _, _, _, _, _], .vw _ _, .vw _ _, .vw _ _, .vw _ _, .blk _ _ [_, _, _, _, _, _, _, _, _, _, _], .blk _ _ [_, _, _, _, _, _, _, _, _, _, _], .vw _ _]) hS rfl
                     refine hK _ _ ?_; clear hK K
                     refine wl_v (x_assign ev_c) ?_
                     refine wl_nil ?_
                     refine then_n (hK21 _ _ ?_); clear hK21 K21
                     refine wp_ret ?_
                     refine ret2 rfl (.cell rfl rfl (load_rowB (cs := [_, _, _, _, _, _, _, _, _, _, _]) hS.ok 6 rfl Try.underlying35 rfl ts_35 rfl)) (.tmp rfl (show _ = Value.bool _ from rfl)) ?_
                     obtain ⟨e1, e2⟩ := sv_no (pr := pr) ⟨hvn.2, hvn.1⟩
                     rw [e1, e2]
                     first | exact ⟨rfl, hS.kp⟩ | exact ⟨by rw [six_ad, six_ad]; rfl, hS.kp⟩
                 have hg16_2' := hg16_2; (try simp only [nrm] at hg16_2')
                 all_goals
                  refine wl_s rfl (want_n rfl rfl rfl rfl (by rw [hg16_2]; rfl)) ?_
                  refine wl_s rfl (want_n rfl rfl rfl rfl (by rw [hg16_2]; rfl)) ?_
                  refine wl_v (x_pickF (tmB rfl rfl) hg16_2 ev_c) ?_
                  refine wl_v (x_move (tmB rfl rfl)) ?_
                  refine wl_s rfl (want_n rfl rfl rfl rfl rfl) ?_
                  refine wl_s rfl (want_n rfl rfl rfl rfl rfl) ?_
                  refine wl_v (x_pickF (tmB rfl rfl) rfl ev_c) ?_
                  refine wl_nil ?_
                  refine then_n (hK18 _ _ ?_); clear hK18 K18
                  refine cnd_f (tmB rfl rfl) rfl ?_
                  refine wp_skip ?_
                  refine then_n (hK17 _ _ ?_); clear hK17 K17
                  refine wp_seq_k ?_; intro K23 hK23
                  refine wlit ?_
                  refine wl_v (x_loadA (cs := [_, _, _, _, _, _, _, _, _, _, _]) Try.underlying35 rfl ts_35 (tmP rfl rfl) (rangeB hS.ok 5 rfl rfl)) ?_
                  refine wl_e rfl ?_; intro K hK
                  refine ow_storeA hS 6 rfl ts_35 (tmP rfl rfl) (tmA rfl rfl) rfl rfl rfl ?_
                  clear hS; intro w hS
                  try replace hS := St.nm (M' := [.blk _ _ [_, _, _, _, _, _, _, _, _, _], .vw _ _, .vw _ _, .vw _ _, .vw _ _, .blk _ _ [_, _, _, _, _, _, _, _, _, _, _], .blk _ _ [_, _, _, _, _, _, _, _, _, _, _], .vw _ _]) hS rfl
                  refine hK _ _ ?_; clear hK K
                  refine wl_v (x_assign ev_c) ?_
                  refine wl_nil ?_
                  refine then_n (hK23 _ _ ?_); clear hK23 K23
                  refine wp_ret ?_
                  refine ret2 rfl (.cell rfl rfl (load_rowB (cs := [_, _, _, _, _, _, _, _, _, _, _]) hS.ok 6 rfl Try.underlying35 rfl ts_35 rfl)) (.tmp rfl (show _ = Value.bool _ from rfl)) ?_
                  obtain ⟨e1, e2⟩ := sv_no (pr := pr) ⟨hvn.2, hvn.1⟩
                  rw [e1, e2]
                  first | exact ⟨rfl, hS.kp⟩ | exact ⟨by rw [six_ad, six_ad]; rfl, hS.kp⟩
             have hg6_30' := hg6_30; (try simp only [nrm] at hg6_30')
             all_goals
              refine wl_s rfl (want_n rfl rfl rfl rfl (by rw [hg6_30]; rfl)) ?_
              refine wl_s rfl (want_n rfl rfl rfl rfl (by rw [hg6_30]; rfl)) ?_
              refine wl_gv (want_y rfl rfl rfl rfl (by rw [hg6_27]; rfl)) (x_pickF (tmB rfl rfl) hg6_30 ev_c) ?_
              refine wl_v (x_pickF (tmB rfl rfl) hg6_27 (tmB rfl rfl)) ?_
              refine wl_nil ?_
              refine then_n (hK8 _ _ ?_); clear hK8 K8
              refine cnd_f (tmB rfl rfl) rfl ?_
              refine wp_skip ?_
              refine then_n (hK7 _ _ ?_); clear hK7 K7
              refine wp_seq_k ?_; intro K25 hK25
              refine wlit ?_
              refine wl_v (x_build (bc_skipL [.bool false, .int .u64 0, .int .u64 0, .bool false, .int .u64 0, .int .u64 0, .int .u16 0, .int .u16 0, .int .u8 0] <| bc_skip (.int .u32 0) <| bc_skip (.bool false) <| bc_nil) (by kernel_rfl)) ?_
              refine wl_e rfl ?_; intro K hK
              refine ow_alloc hS tz_35 rfl ?_
              clear hS; intro g8_1 w hg8_1 hS
              refine hK _ _ ?_; clear hK K
              refine wl_e rfl ?_; intro K hK
              refine ow_storeA hS 0 rfl ts_35 (tmP rfl rfl) (tmA rfl rfl) rfl rfl rfl ?_
              clear hS; intro w hS
              try replace hS := St.nm (M' := [.blk _ _ [_, _, _, _, _, _, _, _, _, _, _], .blk _ _ [_, _, _, _, _, _, _, _, _, _, _], .vw _ _]) hS rfl
              refine hK _ _ ?_; clear hK K
              refine wl_nil ?_
              refine then_n (hK25 _ _ ?_); clear hK25 K25
              refine wp_seq_k ?_; intro K26 hK26
              refine wlit ?_
              refine wl_v (x_move (tmS rfl rfl)) ?_
              refine wl_v (x_move (tmI rfl rfl)) ?_
              refine wl_v (x_move (tmI rfl rfl)) ?_
              refine wl_v (x_move (tmI rfl rfl)) ?_
              first
               | refine wl_v (x_addN (tmI rfl rfl) (tmI rfl rfl) (fit_i64 (by omega))) ?_
               | refine wl_v (x_addI (tmI rfl rfl) (tmI rfl rfl) (IntWalk.i64_in _ (by omega))) ?_
               | refine wl_v (x_add (tmI rfl rfl) (tmI rfl rfl)) ?_
              refine wl_v (x_sliceLH Try.underlying22 ts_5 (tmS rfl rfl) (tmI rfl rfl) (tmI rfl rfl) (by omega)) ?_
              replace hS := hS.cutb 2 8 16 rfl hc
              refine wl_e rfl ?_; intro K hK
              refine ow_call Try.func18 rfl rfl (evs_cons (tmS rfl rfl) <| evs_nil) (rad_of16_c _ _ _ _ (viewV hS.ok 0 rfl) (by rw [List.length_take, List.length_drop]; omega) (by omega) ((hb.drop _).take 16)) ?_
              rintro e w ⟨rfl, hk⟩
              refine ⟨_, rfl, ?_⟩
              replace hS := hS.kept hk
              clear hk
              refine hK _ _ ?_; clear hK K
              refine wl_v (x_move (tmT rfl rfl)) ?_
              refine wl_v (x_ext (tmT rfl rfl) rfl) ?_
              refine wl_v (x_ext (tmT rfl rfl) rfl) ?_
              refine wl_v (x_fa 0 Try.underlying35 rfl rfl ts_29 (tmP rfl rfl)) ?_
              refine wl_v (x_fa 0 Try.underlying29 rfl rfl ts_26 (tmP rfl rfl)) ?_
              refine wl_e rfl ?_; intro K hK
              refine ow_storeA hS 1 rfl ts_26 (tmP rfl rfl) (tmA rfl rfl) rfl rfl rfl ?_
              clear hS; intro w hS
              try replace hS := St.nm (M' := [.vw _ _, .blk _ _ [_, _, _, _, _, _, _, _, _, _, _], .blk _ _ [_, _, _, _, _, _, _, _, _, _, _], .vw _ _]) hS rfl
              refine hK _ _ ?_; clear hK K
              refine wl_nil ?_
              refine then_n (hK26 _ _ ?_); clear hK26 K26
              refine wp_seq_k ?_; intro K27 hK27
              refine wlit ?_
              refine wl_v (x_move (tmS rfl rfl)) ?_
              refine wl_v (x_move (tmI rfl rfl)) ?_
              refine wl_v (x_move (tmI rfl rfl)) ?_
              first
               | refine wl_v (x_addN (tmI rfl rfl) (tmI rfl rfl) (fit_i64 (by omega))) ?_
               | refine wl_v (x_addI (tmI rfl rfl) (tmI rfl rfl) (IntWalk.i64_in _ (by omega))) ?_
               | refine wl_v (x_add (tmI rfl rfl) (tmI rfl rfl)) ?_
              refine wl_v (x_move (tmI rfl rfl)) ?_
              refine wl_v (x_move (tmI rfl rfl)) ?_
              first
               | refine wl_v (x_mulN (ev_cN 2) (tmI rfl rfl) (fit_i64 (by omega))) ?_
               | refine wl_v (x_mulI (ev_cN 2) (tmI rfl rfl) (IntWalk.i64_in _ (by omega))) ?_
               | refine wl_v (x_mul (ev_cN 2) (tmI rfl rfl)) ?_
              first
               | refine wl_v (x_addN (tmI rfl rfl) (tmI rfl rfl) (fit_i64 (by omega))) ?_
               | refine wl_v (x_addI (tmI rfl rfl) (tmI rfl rfl) (IntWalk.i64_in _ (by omega))) ?_
               | refine wl_v (x_add (tmI rfl rfl) (tmI rfl rfl)) ?_
              refine wl_v (x_sliceLH Try.underlying22 ts_5 (tmS rfl rfl) (tmI rfl rfl) (tmI rfl rfl) (by omega)) ?_
              replace hS := hS.cutb 3 24 16 rfl hc
              refine wl_e rfl ?_; intro K hK
              refine ow_call Try.func18 rfl rfl (evs_cons (tmS rfl rfl) <| evs_nil) (rad_of16_c _ _ _ _ (viewV hS.ok 0 rfl) (by rw [List.length_take, List.length_drop]; omega) (by omega) ((hb.drop _).take 16)) ?_
              rintro e w ⟨rfl, hk⟩
              refine ⟨_, rfl, ?_⟩
              replace hS := hS.kept hk
              clear hk
              refine hK _ _ ?_; clear hK K
              refine wl_v (x_move (tmT rfl rfl)) ?_
              refine wl_v (x_ext (tmT rfl rfl) rfl) ?_
              refine wl_v (x_ext (tmT rfl rfl) rfl) ?_
              refine wl_v (x_fa 0 Try.underlying35 rfl rfl ts_29 (tmP rfl rfl)) ?_
              refine wl_v (x_fa 3 Try.underlying29 rfl rfl ts_26 (tmP rfl rfl)) ?_
              refine wl_e rfl ?_; intro K hK
              refine ow_storeA hS 2 rfl ts_26 (tmP rfl rfl) (tmA rfl rfl) rfl rfl rfl ?_
              clear hS; intro w hS
              try replace hS := St.nm (M' := [.vw _ _, .vw _ _, .blk _ _ [_, _, _, _, _, _, _, _, _, _, _], .blk _ _ [_, _, _, _, _, _, _, _, _, _, _], .vw _ _]) hS rfl
              refine hK _ _ ?_; clear hK K
              refine wl_nil ?_
              refine then_n (hK27 _ _ ?_); clear hK27 K27
              refine wp_seq_k ?_; intro K28 hK28
              refine wlit ?_
              refine wl_v (x_move (tmI rfl rfl)) ?_
              first
               | refine wl_v (x_convN Try.underlying3 Try.underlying5 (tmI rfl rfl) (fit_u8 (by omega))) ?_
               | refine wl_v (x_convU Try.underlying3 Try.underlying5 (tmI rfl rfl) rfl) ?_
               | refine wl_v (x_conv Try.underlying3 Try.underlying5 (tmI rfl rfl)) ?_
              refine wl_v (x_fa 0 Try.underlying35 rfl rfl ts_29 (tmP rfl rfl)) ?_
              refine wl_v (x_fa 8 Try.underlying29 rfl rfl ts_5 (tmP rfl rfl)) ?_
              refine wl_e rfl ?_; intro K hK
              first
               | refine ow_store hS 2 rfl ts_5 (tmP rfl rfl) (tmI rfl rfl) rfl rfl ?_
               | refine ow_storeX hS 2 rfl ts_5 (tmP rfl rfl) (tmI rfl rfl) rfl (by simp; omega) ?_
              clear hS; intro w hS
              try replace hS := St.nm (M' := [.vw _ _, .vw _ _, .blk _ _ [_, _, _, _, _, _, _, _, _, _, _], .blk _ _ [_, _, _, _, _, _, _, _, _, _, _], .vw _ _]) hS rfl
              refine hK _ _ ?_; clear hK K
              refine wl_nil ?_
              refine then_n (hK28 _ _ ?_); clear hK28 K28
              refine wp_seq_k ?_; intro K29 hK29
              refine wlit ?_
              refine wl_v (x_move (tmS rfl rfl)) ?_
              refine wl_v (x_move (tmI rfl rfl)) ?_
              refine wl_e rfl ?_; intro K hK
              refine ow_call Try.func17 rfl rfl (evs_cons (tmS rfl rfl) <| evs_cons (tmI rfl rfl) <| evs_cons (ev_cN 2) <| evs_nil) (get_c l.length _ c l 40 2 _ (viewV hS.ok 4 rfl) rfl hc (by omega) hb (by omega) (by omega)) ?_
              rintro e w ⟨rfl, hk⟩
              refine ⟨_, rfl, ?_⟩
              replace hS := hS.kept hk
              clear hk
              refine hK _ _ ?_; clear hK K
              first
               | refine wl_v (x_convN Try.underlying24 Try.underlying27 (tmI rfl rfl) (fit_u16 (by omega))) ?_
               | refine wl_v (x_convU Try.underlying24 Try.underlying27 (tmI rfl rfl) rfl) ?_
               | refine wl_v (x_conv Try.underlying24 Try.underlying27 (tmI rfl rfl)) ?_
              refine wl_v (x_fa 0 Try.underlying35 rfl rfl ts_29 (tmP rfl rfl)) ?_
              refine wl_v (x_fa 6 Try.underlying29 rfl rfl ts_27 (tmP rfl rfl)) ?_
              refine wl_e rfl ?_; intro K hK
              first
               | refine ow_store hS 2 rfl ts_27 (tmP rfl rfl) (tmI rfl rfl) rfl rfl ?_
               | refine ow_storeX hS 2 rfl ts_27 (tmP rfl rfl) (tmI rfl rfl) rfl (by simp; omega) ?_
              clear hS; intro w hS
              try replace hS := St.nm (M' := [.vw _ _, .vw _ _, .blk _ _ [_, _, _, _, _, _, _, _, _, _, _], .blk _ _ [_, _, _, _, _, _, _, _, _, _, _], .vw _ _]) hS rfl
              refine hK _ _ ?_; clear hK K
              refine wl_nil ?_
              refine then_n (hK29 _ _ ?_); clear hK29 K29
              refine wp_seq_k ?_; intro K30 hK30
              refine wlit ?_
              refine wl_v (x_move (tmS rfl rfl)) ?_
              refine wl_v (x_move (tmI rfl rfl)) ?_
              first
               | refine wl_v (x_addN (tmI rfl rfl) (ev_cN 2) (fit_i64 (by omega))) ?_
               | refine wl_v (x_addI (tmI rfl rfl) (ev_cN 2) (IntWalk.i64_in _ (by omega))) ?_
               | refine wl_v (x_add (tmI rfl rfl) (ev_cN 2)) ?_
              refine wl_e rfl ?_; intro K hK
              refine ow_call Try.func17 rfl rfl (evs_cons (tmS rfl rfl) <| evs_cons (tmI rfl rfl) <| evs_cons (ev_cN 2) <| evs_nil) (get_c l.length _ c l (40 + 2) 2 _ (viewV hS.ok 4 rfl) rfl hc (by omega) hb (by omega) (by omega)) ?_
              rintro e w ⟨rfl, hk⟩
              refine ⟨_, rfl, ?_⟩
              replace hS := hS.kept hk
              clear hk
              refine hK _ _ ?_; clear hK K
              first
               | refine wl_v (x_convN Try.underlying24 Try.underlying27 (tmI rfl rfl) (fit_u16 (by omega))) ?_
               | refine wl_v (x_convU Try.underlying24 Try.underlying27 (tmI rfl rfl) rfl) ?_
               | refine wl_v (x_conv Try.underlying24 Try.underlying27 (tmI rfl rfl)) ?_
              refine wl_v (x_fa 0 Try.underlying35 rfl rfl ts_29 (tmP rfl rfl)) ?_
              refine wl_v (x_fa 7 Try.underlying29 rfl rfl ts_27 (tmP rfl rfl)) ?_
              refine wl_e rfl ?_; intro K hK
              first
               | refine ow_store hS 2 rfl ts_27 (tmP rfl rfl) (tmI rfl rfl) rfl rfl ?_
               | refine ow_storeX hS 2 rfl ts_27 (tmP rfl rfl) (tmI rfl rfl) rfl (by simp; omega) ?_
              clear hS; intro w hS
              try replace hS := St.nm (M' := [.vw _ _, .vw _ _, .blk _ _ [_, _, _, _, _, _, _, _, _, _, _], .blk _ _ [_, _, _, _, _, _, _, _, _, _, _], .vw _ _]) hS rfl
              refine hK _ _ ?_; clear hK K
              refine wl_nil ?_
              refine then_n (hK30 _ _ ?_); clear hK30 K30
              refine wp_seq_k ?_; intro K31 hK31
              refine wlit ?_
              refine wl_v (x_move (tmS rfl rfl)) ?_
              refine wl_v (x_move (tmI rfl rfl)) ?_
              refine wl_v (x_sliceL Try.underlying22 ts_5 (tmS rfl rfl) (tmI rfl rfl) (by omega)) ?_
              replace hS := hS.dropb 4 40 rfl hc
              refine wl_e rfl ?_; intro K hK
              refine ow_call Try.func19 rfl rfl (evs_cons (tmS rfl rfl) <| evs_nil) (hP.at_ hlx _ _ _ (viewV hS.ok 0 rfl) (by omega)) ?_
              rintro e w ⟨a1, a2, a3, a4, a5, a6, a7, a8, O, co, X, k, cx, rfl, hco, hn, hk⟩
              refine ⟨_, rfl, ?_⟩
              replace hS := hS.addn hk hn -- +vo
              clear hn hk
              refine hK _ _ ?_; clear hK K
              refine wl_v (x_move (tmT rfl rfl)) ?_
              refine wl_v (x_ext (tmT rfl rfl) rfl) ?_
              refine wl_v (x_ext (tmT rfl rfl) rfl) ?_
              refine wl_e rfl ?_; intro K hK
              refine ow_alloc hS tz_40 rfl ?_
              clear hS; intro g14_7 w hg14_7 hS
              refine hK _ _ ?_; clear hK K
              refine wl_e rfl ?_; intro K hK
              refine ow_storeA hS 0 rfl ts_40 (tmP rfl rfl) (tmA rfl rfl) rfl rfl rfl ?_
              clear hS; intro w hS
              try replace hS := St.nm (M' := [.blk _ _ [_, _, _, _, _, _, _, _, _, _], .vw _ _, .vw _ _, .vw _ _, .vw _ _, .blk _ _ [_, _, _, _, _, _, _, _, _, _, _], .blk _ _ [_, _, _, _, _, _, _, _, _, _, _], .vw _ _]) hS rfl
              refine hK _ _ ?_; clear hK K
              refine wl_v (x_assign (tmI rfl rfl)) ?_
              refine wl_nil ?_
              refine then_n (hK31 _ _ ?_); clear hK31 K31
              refine wp_seq_k ?_; intro K32 hK32
              refine wlit ?_
              refine wl_v (x_fa 8 Try.underlying40 rfl rfl ts_22 (tmP rfl rfl)) ?_
              first
               | refine wl_v (x_load Try.underlying22 rfl (tmP rfl rfl) (cellB hS.ok 0 rfl rfl)) ?_
               | refine wl_v (x_load Try.underlying22 rfl (tmP rfl rfl) (cellB hS.ok 0 rfl (getm (by omega)))) ?_
              refine wl_e rfl ?_; intro K hK
              refine ow_call Try.func20 rfl rfl (evs_cons (tmS rfl rfl) <| evs_nil) (rstamps_none_c o.length O co o _ (viewV hS.ok 1 rfl) rfl hob (by omega) hst) ?_
              rintro e w ⟨rfl, hk⟩
              refine ⟨_, rfl, ?_⟩
              replace hS := hS.kept hk
              clear hk
              refine hK _ _ ?_; clear hK K
              refine wl_v (x_assign (tmI rfl rfl)) ?_
              refine wl_nil ?_
              refine then_n (hK32 _ _ ?_); clear hK32 K32
              refine wp_seq_k ?_; intro K33 hK33
              refine wp_seq_k ?_; intro K34 hK34
              refine wlit ?_
              refine wl_v (x_move (tmI rfl rfl)) ?_
              refine wl_v (x_eql (tmI rfl rfl) (ev_cN 6)) ?_
              refine wl_v (x_move (tmB rfl rfl)) ?_
              refine gs_wl (tm (t := 127) rfl) (fun hg16_2 => ?_) (fun hg16_2 => ?_)
              · have hg16_2' := hg16_2; (try simp only [nrm] at hg16_2')
                all_goals
                 refine wl_gv (want_y rfl rfl rfl rfl (by rw [hg16_2]; rfl)) (x_move (tmI rfl rfl)) ?_
                 refine wl_gv (want_y rfl rfl rfl rfl (by rw [hg16_2]; rfl)) (x_eql (tmI rfl rfl) (ev_cN 0)) ?_
                 refine wl_v (x_pickT (tmB rfl rfl) hg16_2 (tmB rfl rfl)) ?_
                 refine wl_v (x_move (tmB rfl rfl)) ?_
                 refine gs_wl (tm (t := 131) rfl) (fun hg16_6 => ?_) (fun hg16_6 => ?_)
                 · have hg16_6' := hg16_6; (try simp only [nrm] at hg16_6')
                   all_goals
                    refine wl_gv (want_y rfl rfl rfl rfl (by rw [hg16_6]; rfl)) (x_move (tmI rfl rfl)) ?_
                    refine wl_gv (want_y rfl rfl rfl rfl (by rw [hg16_6]; rfl)) (x_geq (tmI rfl rfl) (ev_cN 0)) ?_
                    refine wl_v (x_pickT (tmB rfl rfl) hg16_6 (tmB rfl rfl)) ?_
                    refine wl_nil ?_
                    refine then_n (hK34 _ _ ?_); clear hK34 K34
                    refine cnd (tm rfl) (fun hc3 => ?_) (fun hc3 => ?_)
                    · exfalso
                      simp at hc3
                    all_goals
                     try simp only [nrm] at hc3
                     refine wp_skip ?_
                     refine then_n (hK33 _ _ ?_); clear hK33 K33
                     refine wp_seq_k ?_; intro K35 hK35
                     refine wlit ?_
                     refine wl_v (x_loadA (cs := [_, _, _, _, _, _, _, _, _, _, _]) Try.underlying35 rfl ts_35 (tmP rfl rfl) (rangeB hS.ok 5 rfl rfl)) ?_
                     refine wl_e rfl ?_; intro K hK
                     refine ow_storeA hS 6 rfl ts_35 (tmP rfl rfl) (tmA rfl rfl) rfl rfl rfl ?_
                     clear hS; intro w hS
                     try replace hS := St.nm (M' := [.blk _ _ [_, _, _, _, _, _, _, _, _, _], .vw _ _, .vw _ _, .vw _ _, .vw _ _, .blk _ _ [_, _, _, _, _, _, _, _, _, _, _], .blk _ _ [_, _, _, _, _, _, _, _, _, _, _], .vw _ _]) hS rfl
                     refine hK _ _ ?_; clear hK K
                     refine wl_v (x_assign ev_c) ?_
                     refine wl_nil ?_
                     refine then_n (hK35 _ _ ?_); clear hK35 K35
                     refine wp_ret ?_
                     refine ret2 rfl (.cell rfl rfl (load_rowB (cs := [_, _, _, _, _, _, _, _, _, _, _]) hS.ok 6 rfl Try.underlying35 rfl ts_35 rfl)) (.tmp rfl (show _ = Value.bool _ from rfl)) ?_
                     obtain ⟨e1, e2⟩ := sv_no (pr := pr) ⟨hvn.2, hvn.1⟩
                     rw [e1, e2]
                     first | exact ⟨rfl, hS.kp⟩ | exact ⟨by rw [six_ad, six_ad]; rfl, hS.kp⟩
                 have hg16_6' := hg16_6; (try simp only [nrm] at hg16_6')
                 all_goals
                  refine wl_s rfl (want_n rfl rfl rfl rfl (by rw [hg16_6]; rfl)) ?_
                  refine wl_s rfl (want_n rfl rfl rfl rfl (by rw [hg16_6]; rfl)) ?_
                  refine wl_v (x_pickF (tmB rfl rfl) hg16_6 ev_c) ?_
                  refine wl_nil ?_
                  refine then_n (hK34 _ _ ?_); clear hK34 K34
                  refine cnd_f (tmB rfl rfl) rfl ?_
                  refine wp_skip ?_
                  refine then_n (hK33 _ _ ?_); clear hK33 K33
                  refine wp_seq_k ?_; intro K37 hK37
                  refine wlit ?_
                  refine wl_v (x_loadA (cs := [_, _, _, _, _, _, _, _, _, _, _]) Try.underlying35 rfl ts_35 (tmP rfl rfl) (rangeB hS.ok 5 rfl rfl)) ?_
                  refine wl_e rfl ?_; intro K hK
                  refine ow_storeA hS 6 rfl ts_35 (tmP rfl rfl) (tmA rfl rfl) rfl rfl rfl ?_
                  clear hS; intro w hS
                  try replace hS := St.nm (M' := [.blk _ _ [_, _, _, _, _, _, _, _, _, _], .vw _ _, .vw _ _, .vw _ _, .vw _ _, .blk _ _ [_, _, _, _, _, _, _, _, _, _, _], .blk _ _ [_, _, _, _, _, _, _, _, _, _, _], .vw _ _]) hS rfl
                  refine hK _ _ ?_; clear hK K
                  refine wl_v (x_assign ev_c) ?_
                  refine wl_nil ?_
                  refine then_n (hK37 _ _ ?_); clear hK37 K37
                  refine wp_ret ?_
                  refine ret2 rfl (.cell rfl rfl (load_rowB (cs := [_, _, _, _, _, _, _, _, _, _, _]) hS.ok 6 rfl Try.underlying35 rfl ts_35 rfl)) (.tmp rfl (show _ = Value.bool _ from rfl)) ?_
                  obtain ⟨e1, e2⟩ := sv_no (pr := pr) ⟨hvn.2, hvn.1⟩
                  rw [e1, e2]
                  first | exact ⟨rfl, hS.kp⟩ | exact ⟨by rw [six_ad, six_ad]; rfl, hS.kp⟩
              have hg16_2' := hg16_2; (try simp only [nrm] at hg16_2')
              all_goals
               refine wl_s rfl (want_n rfl rfl rfl rfl (by rw [hg16_2]; rfl)) ?_
               refine wl_s rfl (want_n rfl rfl rfl rfl (by rw [hg16_2]; rfl)) ?_
               refine wl_v (x_pickF (tmB rfl rfl) hg16_2 ev_c) ?_
               refine wl_v (x_move (tmB rfl rfl)) ?_
               refine wl_s rfl (want_n rfl rfl rfl rfl rfl) ?_
               refine wl_s rfl (want_n rfl rfl rfl rfl rfl) ?_
               refine wl_v (x_pickF (tmB rfl rfl) rfl ev_c) ?_
               refine wl_nil ?_
               refine then_n (hK34 _ _ ?_); clear hK34 K34
               refine cnd_f (tmB rfl rfl) rfl ?_
               refine wp_skip ?_
               refine then_n (hK33 _ _ ?_); clear hK33 K33
               refine wp_seq_k ?_; intro K39 hK39
               refine wlit ?_
               refine wl_v (x_loadA (cs := [_, _, _, _, _, _, _, _, _, _, _]) Try.underlying35 rfl ts_35 (tmP rfl rfl) (rangeB hS.ok 5 rfl rfl)) ?_
               refine wl_e rfl ?_; intro K hK
               refine ow_storeA hS 6 rfl ts_35 (tmP rfl rfl) (tmA rfl rfl) rfl rfl rfl ?_
               clear hS; intro w hS
               try replace hS := St.nm (M' := [.blk _ _ [_, _, _, _, _, _, _, _, _, _], .vw _ _, .vw _ _, .vw _ _, .vw _ _, .blk _ _ [_, _, _, _, _, _, _, _, _, _, _], .blk _ _ [_, _, _, _, _, _, _, _, _, _, _], .vw _ _]) hS rfl
               refine hK _ _ ?_; clear hK K
               refine wl_v (x_assign ev_c) ?_
               refine wl_nil ?_
               refine then_n (hK39 _ _ ?_); clear hK39 K39
               refine wp_ret ?_
               refine ret2 rfl (.cell rfl rfl (load_rowB (cs := [_, _, _, _, _, _, _, _, _, _, _]) hS.ok 6 rfl Try.underlying35 rfl ts_35 rfl)) (.tmp rfl (show _ = Value.bool _ from rfl)) ?_
               obtain ⟨e1, e2⟩ := sv_no (pr := pr) ⟨hvn.2, hvn.1⟩
               rw [e1, e2]
               first | exact ⟨rfl, hS.kp⟩ | exact ⟨by rw [six_ad, six_ad]; rfl, hS.kp⟩
         have hg6_20' := hg6_20; (try simp only [nrm] at hg6_20')
         all_goals
          refine wl_s rfl (want_n rfl rfl rfl rfl (by rw [hg6_20]; rfl)) ?_
          refine wl_s rfl (want_n rfl rfl rfl rfl (by rw [hg6_20]; rfl)) ?_
          refine wl_s rfl (want_n rfl rfl rfl rfl (by rw [hg6_20]; rfl)) ?_
          refine wl_s rfl (want_n rfl rfl rfl rfl (by rw [hg6_20]; rfl)) ?_
          refine wl_gv (want_y rfl rfl rfl rfl (by rw [hg6_17]; rfl)) (x_pickF (tmB rfl rfl) hg6_20 ev_c) ?_
          refine wl_v (x_pickF (tmB rfl rfl) hg6_17 (tmB rfl rfl)) ?_
          refine wl_v (x_move (tmB rfl rfl)) ?_
          refine wl_gv (want_y rfl rfl rfl rfl rfl) (x_move (tmI rfl rfl)) ?_
          refine wl_gv (want_y rfl rfl rfl rfl rfl) (x_neq (tmI rfl rfl) (ev_cN 6)) ?_
          refine wl_gv (want_y rfl rfl rfl rfl rfl) (x_move (tmB rfl rfl)) ?_
          refine gs_wl (tm (t := 64) rfl) (fun hg6_30 => ?_) (fun hg6_30 => ?_)
          · have hg6_30' := hg6_30; (try simp only [nrm] at hg6_30')
            all_goals
             refine wl_gv (want_y rfl rfl rfl rfl (by rw [hg6_30]; rfl)) (x_move (tmI rfl rfl)) ?_
             refine wl_gv (want_y rfl rfl rfl rfl (by rw [hg6_30]; rfl)) (x_neq (tmI rfl rfl) (ev_cN 17)) ?_
             refine wl_gv (want_y rfl rfl rfl rfl rfl) (x_pickT (tmB rfl rfl) hg6_30 (tmB rfl rfl)) ?_
             refine wl_v (x_pickF (tmB rfl rfl) rfl (tmB rfl rfl)) ?_
             refine wl_nil ?_
             refine then_n (hK8 _ _ ?_); clear hK8 K8
             refine cnd (tm rfl) (fun hc2 => ?_) (fun hc2 => ?_)
             · exfalso
               first | omega | (simp only [nrm] at hc2; omega)
             all_goals
              try simp only [nrm] at hc2
              refine wp_skip ?_
              refine then_n (hK7 _ _ ?_); clear hK7 K7
              refine wp_seq_k ?_; intro K41 hK41
              refine wlit ?_
              refine wl_v (x_build (bc_skipL [.bool false, .int .u64 0, .int .u64 0, .bool false, .int .u64 0, .int .u64 0, .int .u16 0, .int .u16 0, .int .u8 0] <| bc_skip (.int .u32 0) <| bc_skip (.bool false) <| bc_nil) (by kernel_rfl)) ?_
              refine wl_e rfl ?_; intro K hK
              refine ow_alloc hS tz_35 rfl ?_
              clear hS; intro g8_1 w hg8_1 hS
              refine hK _ _ ?_; clear hK K
              refine wl_e rfl ?_; intro K hK
              refine ow_storeA hS 0 rfl ts_35 (tmP rfl rfl) (tmA rfl rfl) rfl rfl rfl ?_
              clear hS; intro w hS
              try replace hS := St.nm (M' := [.blk _ _ [_, _, _, _, _, _, _, _, _, _, _], .blk _ _ [_, _, _, _, _, _, _, _, _, _, _], .vw _ _]) hS rfl
              refine hK _ _ ?_; clear hK K
              refine wl_nil ?_
              refine then_n (hK41 _ _ ?_); clear hK41 K41
              refine wp_seq_k ?_; intro K42 hK42
              refine wlit ?_
              refine wl_v (x_move (tmS rfl rfl)) ?_
              refine wl_v (x_move (tmI rfl rfl)) ?_
              refine wl_v (x_move (tmI rfl rfl)) ?_
              refine wl_v (x_move (tmI rfl rfl)) ?_
              refine wl_v (x_addN (tmI rfl rfl) (tmI rfl rfl) (fit_i64 (by omega))) ?_
              refine wl_v (x_sliceLH Try.underlying22 ts_5 (tmS rfl rfl) (tmI rfl rfl) (tmI rfl rfl) (by omega)) ?_
              replace hS := hS.cutb 2 8 16 rfl hc
              refine wl_e rfl ?_; intro K hK
              refine ow_call Try.func18 rfl rfl (evs_cons (tmS rfl rfl) <| evs_nil) (rad_of16_c _ _ _ _ (viewV hS.ok 0 rfl) (by rw [List.length_take, List.length_drop]; omega) (by omega) ((hb.drop _).take 16)) ?_
              rintro e w ⟨rfl, hk⟩
              refine ⟨_, rfl, ?_⟩
              replace hS := hS.kept hk
              clear hk
              refine hK _ _ ?_; clear hK K
              refine wl_v (x_move (tmT rfl rfl)) ?_
              refine wl_v (x_ext (tmT rfl rfl) rfl) ?_
              refine wl_v (x_ext (tmT rfl rfl) rfl) ?_
              refine wl_v (x_fa 0 Try.underlying35 rfl rfl ts_29 (tmP rfl rfl)) ?_
              refine wl_v (x_fa 0 Try.underlying29 rfl rfl ts_26 (tmP rfl rfl)) ?_
              refine wl_e rfl ?_; intro K hK
              refine ow_storeA hS 1 rfl ts_26 (tmP rfl rfl) (tmA rfl rfl) rfl rfl rfl ?_
              clear hS; intro w hS
              try replace hS := St.nm (M' := [.vw _ _, .blk _ _ [_, _, _, _, _, _, _, _, _, _, _], .blk _ _ [_, _, _, _, _, _, _, _, _, _, _], .vw _ _]) hS rfl
              refine hK _ _ ?_; clear hK K
              refine wl_nil ?_
              refine then_n (hK42 _ _ ?_); clear hK42 K42
              refine wp_seq_k ?_; intro K43 hK43
              refine wlit ?_
              refine wl_v (x_move (tmS rfl rfl)) ?_
              refine wl_v (x_move (tmI rfl rfl)) ?_
              refine wl_v (x_move (tmI rfl rfl)) ?_
              refine wl_v (x_addN (tmI rfl rfl) (tmI rfl rfl) (fit_i64 (by omega))) ?_
              refine wl_v (x_move (tmI rfl rfl)) ?_
              refine wl_v (x_move (tmI rfl rfl)) ?_
              refine wl_v (x_mulN (ev_cN 2) (tmI rfl rfl) (fit_i64 (by omega))) ?_
              refine wl_v (x_addN (tmI rfl rfl) (tmI rfl rfl) (fit_i64 (by omega))) ?_
              refine wl_v (x_sliceLH Try.underlying22 ts_5 (tmS rfl rfl) (tmI rfl rfl) (tmI rfl rfl) (by omega)) ?_
              replace hS := hS.cutb 3 24 16 rfl hc
              refine wl_e rfl ?_; intro K hK
              refine ow_call Try.func18 rfl rfl (evs_cons (tmS rfl rfl) <| evs_nil) (rad_of16_c _ _ _ _ (viewV hS.ok 0 rfl) (by rw [List.length_take, List.length_drop]; omega) (by omega) ((hb.drop _).take 16)) ?_
              rintro e w ⟨rfl, hk⟩
              refine ⟨_, rfl, ?_⟩
              replace hS := hS.kept hk
              clear hk
              refine hK _ _ ?_; clear hK K
              refine wl_v (x_move (tmT rfl rfl)) ?_
              refine wl_v (x_ext (tmT rfl rfl) rfl) ?_
              refine wl_v (x_ext (tmT rfl rfl) rfl) ?_
              refine wl_v (x_fa 0 Try.underlying35 rfl rfl ts_29 (tmP rfl rfl)) ?_
              refine wl_v (x_fa 3 Try.underlying29 rfl rfl ts_26 (tmP rfl rfl)) ?_
              refine wl_e rfl ?_; intro K hK
              refine ow_storeA hS 2 rfl ts_26 (tmP rfl rfl) (tmA rfl rfl) rfl rfl rfl ?_
              clear hS; intro w hS
              try replace hS := St.nm (M' := [.vw _ _, .vw _ _, .blk _ _ [_, _, _, _, _, _, _, _, _, _, _], .blk _ _ [_, _, _, _, _, _, _, _, _, _, _], .vw _ _]) hS rfl
              refine hK _ _ ?_; clear hK K
              refine wl_nil ?_
              refine then_n (hK43 _ _ ?_); clear hK43 K43
              refine wp_seq_k ?_; intro K44 hK44
              refine wlit ?_
              refine wl_v (x_move (tmI rfl rfl)) ?_
              refine wl_v (x_convN Try.underlying3 Try.underlying5 (tmI rfl rfl) (fit_u8 (by omega))) ?_
              refine wl_v (x_fa 0 Try.underlying35 rfl rfl ts_29 (tmP rfl rfl)) ?_
              refine wl_v (x_fa 8 Try.underlying29 rfl rfl ts_5 (tmP rfl rfl)) ?_
              refine wl_e rfl ?_; intro K hK
              refine ow_store hS 2 rfl ts_5 (tmP rfl rfl) (tmI rfl rfl) rfl rfl ?_
              clear hS; intro w hS
              try replace hS := St.nm (M' := [.vw _ _, .vw _ _, .blk _ _ [_, _, _, _, _, _, _, _, _, _, _], .blk _ _ [_, _, _, _, _, _, _, _, _, _, _], .vw _ _]) hS rfl
              refine hK _ _ ?_; clear hK K
              refine wl_nil ?_
              refine then_n (hK44 _ _ ?_); clear hK44 K44
              refine wp_seq_k ?_; intro K45 hK45
              refine wlit ?_
              refine wl_v (x_move (tmS rfl rfl)) ?_
              refine wl_v (x_move (tmI rfl rfl)) ?_
              refine wl_e rfl ?_; intro K hK
              refine ow_call Try.func17 rfl rfl (evs_cons (tmS rfl rfl) <| evs_cons (tmI rfl rfl) <| evs_cons (ev_cN 2) <| evs_nil) (get_c l.length _ c l 40 2 _ (viewV hS.ok 4 rfl) rfl hc (by omega) hb (by omega) (by omega)) ?_
              rintro e w ⟨rfl, hk⟩
              refine ⟨_, rfl, ?_⟩
              replace hS := hS.kept hk
              clear hk
              refine hK _ _ ?_; clear hK K
              refine wl_v (x_convN Try.underlying24 Try.underlying27 (tmI rfl rfl) (fit_u16 (by omega))) ?_
              refine wl_v (x_fa 0 Try.underlying35 rfl rfl ts_29 (tmP rfl rfl)) ?_
              refine wl_v (x_fa 6 Try.underlying29 rfl rfl ts_27 (tmP rfl rfl)) ?_
              refine wl_e rfl ?_; intro K hK
              refine ow_store hS 2 rfl ts_27 (tmP rfl rfl) (tmI rfl rfl) rfl rfl ?_
              clear hS; intro w hS
              try replace hS := St.nm (M' := [.vw _ _, .vw _ _, .blk _ _ [_, _, _, _, _, _, _, _, _, _, _], .blk _ _ [_, _, _, _, _, _, _, _, _, _, _], .vw _ _]) hS rfl
              refine hK _ _ ?_; clear hK K
              refine wl_nil ?_
              refine then_n (hK45 _ _ ?_); clear hK45 K45
              refine wp_seq_k ?_; intro K46 hK46
              refine wlit ?_
              refine wl_v (x_move (tmS rfl rfl)) ?_
              refine wl_v (x_move (tmI rfl rfl)) ?_
              refine wl_v (x_addN (tmI rfl rfl) (ev_cN 2) (fit_i64 (by omega))) ?_
              refine wl_e rfl ?_; intro K hK
              refine ow_call Try.func17 rfl rfl (evs_cons (tmS rfl rfl) <| evs_cons (tmI rfl rfl) <| evs_cons (ev_cN 2) <| evs_nil) (get_c l.length _ c l (40 + 2) 2 _ (viewV hS.ok 4 rfl) rfl hc (by omega) hb (by omega) (by omega)) ?_
              rintro e w ⟨rfl, hk⟩
              refine ⟨_, rfl, ?_⟩
              replace hS := hS.kept hk
              clear hk
              refine hK _ _ ?_; clear hK K
              refine wl_v (x_convN Try.underlying24 Try.underlying27 (tmI rfl rfl) (fit_u16 (by omega))) ?_
              refine wl_v (x_fa 0 Try.underlying35 rfl rfl ts_29 (tmP rfl rfl)) ?_
              refine wl_v (x_fa 7 Try.underlying29 rfl rfl ts_27 (tmP rfl rfl)) ?_
              refine wl_e rfl ?_; intro K hK
              refine ow_store hS 2 rfl ts_27 (tmP rfl rfl) (tmI rfl rfl) rfl rfl ?_
              clear hS; intro w hS
              try replace hS := St.nm (M' := [.vw _ _, .vw _ _, .blk _ _ [_, _, _, _, _, _, _, _, _, _, _], .blk _ _ [_, _, _, _, _, _, _, _, _, _, _], .vw _ _]) hS rfl
              refine hK _ _ ?_; clear hK K
              refine wl_nil ?_
              refine then_n (hK46 _ _ ?_); clear hK46 K46
              refine wp_seq_k ?_; intro K47 hK47
              refine wlit ?_
              refine wl_v (x_move (tmS rfl rfl)) ?_
              refine wl_v (x_move (tmI rfl rfl)) ?_
              refine wl_v (x_sliceL Try.underlying22 ts_5 (tmS rfl rfl) (tmI rfl rfl) (by omega)) ?_
              replace hS := hS.dropb 4 40 rfl hc
              refine wl_e rfl ?_; intro K hK
              refine ow_call Try.func19 rfl rfl (evs_cons (tmS rfl rfl) <| evs_nil) (hP.at_ hlx _ _ _ (viewV hS.ok 0 rfl) (by omega)) ?_
              rintro e w ⟨a1, a2, a3, a4, a5, a6, a7, a8, O, co, X, k, cx, rfl, hco, hn, hk⟩
              refine ⟨_, rfl, ?_⟩
              replace hS := hS.addn hk hn -- +vo
              clear hn hk
              refine hK _ _ ?_; clear hK K
              refine wl_v (x_move (tmT rfl rfl)) ?_
              refine wl_v (x_ext (tmT rfl rfl) rfl) ?_
              refine wl_v (x_ext (tmT rfl rfl) rfl) ?_
              refine wl_e rfl ?_; intro K hK
              refine ow_alloc hS tz_40 rfl ?_
              clear hS; intro g14_7 w hg14_7 hS
              refine hK _ _ ?_; clear hK K
              refine wl_e rfl ?_; intro K hK
              refine ow_storeA hS 0 rfl ts_40 (tmP rfl rfl) (tmA rfl rfl) rfl rfl rfl ?_
              clear hS; intro w hS
              try replace hS := St.nm (M' := [.blk _ _ [_, _, _, _, _, _, _, _, _, _], .vw _ _, .vw _ _, .vw _ _, .vw _ _, .blk _ _ [_, _, _, _, _, _, _, _, _, _, _], .blk _ _ [_, _, _, _, _, _, _, _, _, _, _], .vw _ _]) hS rfl
              refine hK _ _ ?_; clear hK K
              refine wl_v (x_assign (tmI rfl rfl)) ?_
              refine wl_nil ?_
              refine then_n (hK47 _ _ ?_); clear hK47 K47
              refine wp_seq_k ?_; intro K48 hK48
              refine wlit ?_
              refine wl_v (x_fa 8 Try.underlying40 rfl rfl ts_22 (tmP rfl rfl)) ?_
              refine wl_v (x_load Try.underlying22 rfl (tmP rfl rfl) (cellB hS.ok 0 rfl rfl)) ?_
              refine wl_e rfl ?_; intro K hK
              refine ow_call Try.func20 rfl rfl (evs_cons (tmS rfl rfl) <| evs_nil) (rstamps_none_c o.length O co o _ (viewV hS.ok 1 rfl) rfl hob (by omega) hst) ?_
              rintro e w ⟨rfl, hk⟩
              refine ⟨_, rfl, ?_⟩
              replace hS := hS.kept hk
              clear hk
              refine hK _ _ ?_; clear hK K
              refine wl_v (x_assign (tmI rfl rfl)) ?_
              refine wl_nil ?_
              refine then_n (hK48 _ _ ?_); clear hK48 K48
              refine wp_seq_k ?_; intro K49 hK49
              refine wp_seq_k ?_; intro K50 hK50
              refine wlit ?_
              refine wl_v (x_move (tmI rfl rfl)) ?_
              refine wl_v (x_eql (tmI rfl rfl) (ev_cN 6)) ?_
              refine wl_v (x_move (tmB rfl rfl)) ?_
              refine gs_wl (tm (t := 127) rfl) (fun hg16_2 => ?_) (fun hg16_2 => ?_)
              · have hg16_2' := hg16_2; (try simp only [nrm] at hg16_2'); try (exfalso; first | with_reducible exact absurd hg16_2 Bool.false_ne_true | with_reducible exact absurd hg16_2.symm Bool.false_ne_true | omega | (simp at hg16_2; done))
                all_goals
                 refine wl_gv (want_y rfl rfl rfl rfl (by rw [hg16_2]; rfl)) (x_move (tmI rfl rfl)) ?_
                 refine wl_gv (want_y rfl rfl rfl rfl (by rw [hg16_2]; rfl)) (x_eql (tmI rfl rfl) (ev_cN 0)) ?_
                 refine wl_v (x_pickT (tmB rfl rfl) hg16_2 (tmB rfl rfl)) ?_
                 refine wl_v (x_move (tmB rfl rfl)) ?_
                 refine gs_wl (tm (t := 131) rfl) (fun hg16_6 => ?_) (fun hg16_6 => ?_)
                 · have hg16_6' := hg16_6; (try simp only [nrm] at hg16_6')
                   all_goals
                    refine wl_gv (want_y rfl rfl rfl rfl (by rw [hg16_6]; rfl)) (x_move (tmI rfl rfl)) ?_
                    refine wl_gv (want_y rfl rfl rfl rfl (by rw [hg16_6]; rfl)) (x_geq (tmI rfl rfl) (ev_cN 0)) ?_
                    refine wl_v (x_pickT (tmB rfl rfl) hg16_6 (tmB rfl rfl)) ?_
                    refine wl_nil ?_
                    refine then_n (hK50 _ _ ?_); clear hK50 K50
                    refine cnd (tm rfl) (fun hc3 => ?_) (fun hc3 => ?_)
                    · exfalso
                      simp at hc3
                    all_goals
                     try simp only [nrm] at hc3
                     refine wp_skip ?_
                     refine then_n (hK49 _ _ ?_); clear hK49 K49
                     refine wp_seq_k ?_; intro K51 hK51
                     refine wlit ?_
                     refine wl_v (x_loadA (cs := [_, _, _, _, _, _, _, _, _, _, _]) Try.underlying35 rfl ts_35 (tmP rfl rfl) (rangeB hS.ok 5 rfl rfl)) ?_
                     refine wl_e rfl ?_; intro K hK
                     refine ow_storeA hS 6 rfl ts_35 (tmP rfl rfl) (tmA rfl rfl) rfl rfl rfl ?_
                     clear hS; intro w hS
                     try replace hS := St.nm (M' := [.blk _ _ [_, _, _, _, _, _, _, _, _, _], .vw _ _, .vw _ _, .vw _ _, .vw _ _, .blk _ _ [_, _, _, _, _, _, _, _, _, _, _], .blk _ _ [_, _, _, _, _, _, _, _, _, _, _], .vw _ _]) hS rfl
                     refine hK _ _ ?_; clear hK K
                     refine wl_v (x_assign ev_c) ?_
                     refine wl_nil ?_
                     refine then_n (hK51 _ _ ?_); clear hK51 K51
                     refine wp_ret ?_
                     refine ret2 rfl (.cell rfl rfl (load_rowB (cs := [_, _, _, _, _, _, _, _, _, _, _]) hS.ok 6 rfl Try.underlying35 rfl ts_35 rfl)) (.tmp rfl (show _ = Value.bool _ from rfl)) ?_
                     obtain ⟨e1, e2⟩ := sv_no (pr := pr) ⟨hvn.2, hvn.1⟩
                     rw [e1, e2]
                     first | exact ⟨rfl, hS.kp⟩ | exact ⟨by rw [six_ad, six_ad]; rfl, hS.kp⟩
                 have hg16_6' := hg16_6; (try simp only [nrm] at hg16_6')
                 all_goals
                  refine wl_s rfl (want_n rfl rfl rfl rfl (by rw [hg16_6]; rfl)) ?_
                  refine wl_s rfl (want_n rfl rfl rfl rfl (by rw [hg16_6]; rfl)) ?_
                  refine wl_v (x_pickF (tmB rfl rfl) hg16_6 ev_c) ?_
                  refine wl_nil ?_
                  refine then_n (hK50 _ _ ?_); clear hK50 K50
                  refine cnd_f (tmB rfl rfl) rfl ?_
                  refine wp_skip ?_
                  refine then_n (hK49 _ _ ?_); clear hK49 K49
                  refine wp_seq_k ?_; intro K53 hK53
                  refine wlit ?_
                  refine wl_v (x_loadA (cs := [_, _, _, _, _, _, _, _, _, _, _]) Try.underlying35 rfl ts_35 (tmP rfl rfl) (rangeB hS.ok 5 rfl rfl)) ?_
                  refine wl_e rfl ?_; intro K hK
                  refine ow_storeA hS 6 rfl ts_35 (tmP rfl rfl) (tmA rfl rfl) rfl rfl rfl ?_
                  clear hS; intro w hS
                  try replace hS := St.nm (M' := [.blk _ _ [_, _, _, _, _, _, _, _, _, _], .vw _ _, .vw _ _, .vw _ _, .vw _ _, .blk _ _ [_, _, _, _, _, _, _, _, _, _, _], .blk _ _ [_, _, _, _, _, _, _, _, _, _, _], .vw _ _]) hS rfl
                  refine hK _ _ ?_; clear hK K
                  refine wl_v (x_assign ev_c) ?_
                  refine wl_nil ?_
                  refine then_n (hK53 _ _ ?_); clear hK53 K53
                  refine wp_ret ?_
                  refine ret2 rfl (.cell rfl rfl (load_rowB (cs := [_, _, _, _, _, _, _, _, _, _, _]) hS.ok 6 rfl Try.underlying35 rfl ts_35 rfl)) (.tmp rfl (show _ = Value.bool _ from rfl)) ?_
                  obtain ⟨e1, e2⟩ := sv_no (pr := pr) ⟨hvn.2, hvn.1⟩
                  rw [e1, e2]
                  first | exact ⟨rfl, hS.kp⟩ | exact ⟨by rw [six_ad, six_ad]; rfl, hS.kp⟩
              have hg16_2' := hg16_2; (try simp only [nrm] at hg16_2')
              all_goals
               refine wl_s rfl (want_n rfl rfl rfl rfl (by rw [hg16_2]; rfl)) ?_
               refine wl_s rfl (want_n rfl rfl rfl rfl (by rw [hg16_2]; rfl)) ?_
               refine wl_v (x_pickF (tmB rfl rfl) hg16_2 ev_c) ?_
               refine wl_v (x_move (tmB rfl rfl)) ?_
               refine wl_s rfl (want_n rfl rfl rfl rfl rfl) ?_
               refine wl_s rfl (want_n rfl rfl rfl rfl rfl) ?_
               refine wl_v (x_pickF (tmB rfl rfl) rfl ev_c) ?_
               refine wl_nil ?_
               refine then_n (hK50 _ _ ?_); clear hK50 K50
               refine cnd_f (tmB rfl rfl) rfl ?_
               refine wp_skip ?_
               refine then_n (hK49 _ _ ?_); clear hK49 K49
               refine wp_seq_k ?_; intro K55 hK55
               refine wlit ?_
               refine wl_v (x_loadA (cs := [_, _, _, _, _, _, _, _, _, _, _]) Try.underlying35 rfl ts_35 (tmP rfl rfl) (rangeB hS.ok 5 rfl rfl)) ?_
               refine wl_e rfl ?_; intro K hK
               refine ow_storeA hS 6 rfl ts_35 (tmP rfl rfl) (tmA rfl rfl) rfl rfl rfl ?_
               clear hS; intro w hS
               try replace hS := St.nm (M' := [.blk _ _ [_, _, _, _, _, _, _, _, _, _], .vw _ _, .vw _ _, .vw _ _, .vw _ _, .blk _ _ [_, _, _, _, _, _, _, _, _, _, _], .blk _ _ [_, _, _, _, _, _, _, _, _, _, _], .vw _ _]) hS rfl
               refine hK _ _ ?_; clear hK K
               refine wl_v (x_assign ev_c) ?_
               refine wl_nil ?_
               refine then_n (hK55 _ _ ?_); clear hK55 K55
               refine wp_ret ?_
               refine ret2 rfl (.cell rfl rfl (load_rowB (cs := [_, _, _, _, _, _, _, _, _, _, _]) hS.ok 6 rfl Try.underlying35 rfl ts_35 rfl)) (.tmp rfl (show _ = Value.bool _ from rfl)) ?_
               obtain ⟨e1, e2⟩ := sv_no (pr := pr) ⟨hvn.2, hvn.1⟩
               rw [e1, e2]
               first | exact ⟨rfl, hS.kp⟩ | exact ⟨by rw [six_ad, six_ad]; rfl, hS.kp⟩
          have hg6_30' := hg6_30; (try simp only [nrm] at hg6_30')
          all_goals
           refine wl_s rfl (want_n rfl rfl rfl rfl (by rw [hg6_30]; rfl)) ?_
           refine wl_s rfl (want_n rfl rfl rfl rfl (by rw [hg6_30]; rfl)) ?_
           refine wl_gv (want_y rfl rfl rfl rfl rfl) (x_pickF (tmB rfl rfl) hg6_30 ev_c) ?_
           refine wl_v (x_pickF (tmB rfl rfl) rfl (tmB rfl rfl)) ?_
           refine wl_nil ?_
           refine then_n (hK8 _ _ ?_); clear hK8 K8
           refine cnd_f (tmB rfl rfl) rfl ?_
           refine wp_skip ?_
           refine then_n (hK7 _ _ ?_); clear hK7 K7
           refine wp_seq_k ?_; intro K57 hK57
           refine wlit ?_
           refine wl_v (x_build (bc_skipL [.bool false, .int .u64 0, .int .u64 0, .bool false, .int .u64 0, .int .u64 0, .int .u16 0, .int .u16 0, .int .u8 0] <| bc_skip (.int .u32 0) <| bc_skip (.bool false) <| bc_nil) (by kernel_rfl)) ?_
           refine wl_e rfl ?_; intro K hK
           refine ow_alloc hS tz_35 rfl ?_
           clear hS; intro g8_1 w hg8_1 hS
           refine hK _ _ ?_; clear hK K
           refine wl_e rfl ?_; intro K hK
           refine ow_storeA hS 0 rfl ts_35 (tmP rfl rfl) (tmA rfl rfl) rfl rfl rfl ?_
           clear hS; intro w hS
           try replace hS := St.nm (M' := [.blk _ _ [_, _, _, _, _, _, _, _, _, _, _], .blk _ _ [_, _, _, _, _, _, _, _, _, _, _], .vw _ _]) hS rfl
           refine hK _ _ ?_; clear hK K
           refine wl_nil ?_
           refine then_n (hK57 _ _ ?_); clear hK57 K57
           refine wp_seq_k ?_; intro K58 hK58
           refine wlit ?_
           refine wl_v (x_move (tmS rfl rfl)) ?_
           refine wl_v (x_move (tmI rfl rfl)) ?_
           refine wl_v (x_move (tmI rfl rfl)) ?_
           refine wl_v (x_move (tmI rfl rfl)) ?_
           refine wl_v (x_addN (tmI rfl rfl) (tmI rfl rfl) (fit_i64 (by omega))) ?_
           refine wl_v (x_sliceLH Try.underlying22 ts_5 (tmS rfl rfl) (tmI rfl rfl) (tmI rfl rfl) (by omega)) ?_
           replace hS := hS.cutb 2 8 16 rfl hc
           refine wl_e rfl ?_; intro K hK
           refine ow_call Try.func18 rfl rfl (evs_cons (tmS rfl rfl) <| evs_nil) (rad_of16_c _ _ _ _ (viewV hS.ok 0 rfl) (by rw [List.length_take, List.length_drop]; omega) (by omega) ((hb.drop _).take 16)) ?_
           rintro e w ⟨rfl, hk⟩
           refine ⟨_, rfl, ?_⟩
           replace hS := hS.kept hk
           clear hk
           refine hK _ _ ?_; clear hK K
           refine wl_v (x_move (tmT rfl rfl)) ?_
           refine wl_v (x_ext (tmT rfl rfl) rfl) ?_
           refine wl_v (x_ext (tmT rfl rfl) rfl) ?_
           refine wl_v (x_fa 0 Try.underlying35 rfl rfl ts_29 (tmP rfl rfl)) ?_
           refine wl_v (x_fa 0 Try.underlying29 rfl rfl ts_26 (tmP rfl rfl)) ?_
           refine wl_e rfl ?_; intro K hK
           refine ow_storeA hS 1 rfl ts_26 (tmP rfl rfl) (tmA rfl rfl) rfl rfl rfl ?_
           clear hS; intro w hS
           try replace hS := St.nm (M' := [.vw _ _, .blk _ _ [_, _, _, _, _, _, _, _, _, _, _], .blk _ _ [_, _, _, _, _, _, _, _, _, _, _], .vw _ _]) hS rfl
           refine hK _ _ ?_; clear hK K
           refine wl_nil ?_
           refine then_n (hK58 _ _ ?_); clear hK58 K58
           refine wp_seq_k ?_; intro K59 hK59
           refine wlit ?_
           refine wl_v (x_move (tmS rfl rfl)) ?_
           refine wl_v (x_move (tmI rfl rfl)) ?_
           refine wl_v (x_move (tmI rfl rfl)) ?_
           refine wl_v (x_addN (tmI rfl rfl) (tmI rfl rfl) (fit_i64 (by omega))) ?_
           refine wl_v (x_move (tmI rfl rfl)) ?_
           refine wl_v (x_move (tmI rfl rfl)) ?_
           refine wl_v (x_mulN (ev_cN 2) (tmI rfl rfl) (fit_i64 (by omega))) ?_
           refine wl_v (x_addN (tmI rfl rfl) (tmI rfl rfl) (fit_i64 (by omega))) ?_
           refine wl_v (x_sliceLH Try.underlying22 ts_5 (tmS rfl rfl) (tmI rfl rfl) (tmI rfl rfl) (by omega)) ?_
           replace hS := hS.cutb 3 24 16 rfl hc
           refine wl_e rfl ?_; intro K hK
           refine ow_call Try.func18 rfl rfl (evs_cons (tmS rfl rfl) <| evs_nil) (rad_of16_c _ _ _ _ (viewV hS.ok 0 rfl) (by rw [List.length_take, List.length_drop]; omega) (by omega) ((hb.drop _).take 16)) ?_
           rintro e w ⟨rfl, hk⟩
           refine ⟨_, rfl, ?_⟩
           replace hS := hS.kept hk
           clear hk
           refine hK _ _ ?_; clear hK K
           refine wl_v (x_move (tmT rfl rfl)) ?_
           refine wl_v (x_ext (tmT rfl rfl) rfl) ?_
           refine wl_v (x_ext (tmT rfl rfl) rfl) ?_
           refine wl_v (x_fa 0 Try.underlying35 rfl rfl ts_29 (tmP rfl rfl)) ?_
           refine wl_v (x_fa 3 Try.underlying29 rfl rfl ts_26 (tmP rfl rfl)) ?_
           refine wl_e rfl ?_; intro K hK
           refine ow_storeA hS 2 rfl ts_26 (tmP rfl rfl) (tmA rfl rfl) rfl rfl rfl ?_
           clear hS; intro w hS
           try replace hS := St.nm (M' := [.vw _ _, .vw _ _, .blk _ _ [_, _, _, _, _, _, _, _, _, _, _], .blk _ _ [_, _, _, _, _, _, _, _, _, _, _], .vw _ _]) hS rfl
           refine hK _ _ ?_; clear hK K
           refine wl_nil ?_
           refine then_n (hK59 _ _ ?_); clear hK59 K59
           refine wp_seq_k ?_; intro K60 hK60
           refine wlit ?_
           refine wl_v (x_move (tmI rfl rfl)) ?_
           refine wl_v (x_convN Try.underlying3 Try.underlying5 (tmI rfl rfl) (fit_u8 (by omega))) ?_
           refine wl_v (x_fa 0 Try.underlying35 rfl rfl ts_29 (tmP rfl rfl)) ?_
           refine wl_v (x_fa 8 Try.underlying29 rfl rfl ts_5 (tmP rfl rfl)) ?_
           refine wl_e rfl ?_; intro K hK
           refine ow_store hS 2 rfl ts_5 (tmP rfl rfl) (tmI rfl rfl) rfl rfl ?_
           clear hS; intro w hS
           try replace hS := St.nm (M' := [.vw _ _, .vw _ _, .blk _ _ [_, _, _, _, _, _, _, _, _, _, _], .blk _ _ [_, _, _, _, _, _, _, _, _, _, _], .vw _ _]) hS rfl
           refine hK _ _ ?_; clear hK K
           refine wl_nil ?_
           refine then_n (hK60 _ _ ?_); clear hK60 K60
           refine wp_seq_k ?_; intro K61 hK61
           refine wlit ?_
           refine wl_v (x_move (tmS rfl rfl)) ?_
           refine wl_v (x_move (tmI rfl rfl)) ?_
           refine wl_e rfl ?_; intro K hK
           refine ow_call Try.func17 rfl rfl (evs_cons (tmS rfl rfl) <| evs_cons (tmI rfl rfl) <| evs_cons (ev_cN 2) <| evs_nil) (get_c l.length _ c l 40 2 _ (viewV hS.ok 4 rfl) rfl hc (by omega) hb (by omega) (by omega)) ?_
           rintro e w ⟨rfl, hk⟩
           refine ⟨_, rfl, ?_⟩
           replace hS := hS.kept hk
           clear hk
           refine hK _ _ ?_; clear hK K
           refine wl_v (x_convN Try.underlying24 Try.underlying27 (tmI rfl rfl) (fit_u16 (by omega))) ?_
           refine wl_v (x_fa 0 Try.underlying35 rfl rfl ts_29 (tmP rfl rfl)) ?_
           refine wl_v (x_fa 6 Try.underlying29 rfl rfl ts_27 (tmP rfl rfl)) ?_
           refine wl_e rfl ?_; intro K hK
           refine ow_store hS 2 rfl ts_27 (tmP rfl rfl) (tmI rfl rfl) rfl rfl ?_
           clear hS; intro w hS
           try replace hS := St.nm (M' := [.vw _ _, .vw _ _, .blk _ _ [_, _, _, _, _, _, _, _, _, _, _], .blk _ _ [_, _, _, _, _, _, _, _, _, _, _], .vw _ _]) hS rfl
           refine hK _ _ ?_; clear hK K
           refine wl_nil ?_
           refine then_n (hK61 _ _ ?_); clear hK61 K61
           refine wp_seq_k ?_; intro K62 hK62
           refine wlit ?_
           refine wl_v (x_move (tmS rfl rfl)) ?_
           refine wl_v (x_move (tmI rfl rfl)) ?_
           refine wl_v (x_addN (tmI rfl rfl) (ev_cN 2) (fit_i64 (by omega))) ?_
           refine wl_e rfl ?_; intro K hK
           refine ow_call Try.func17 rfl rfl (evs_cons (tmS rfl rfl) <| evs_cons (tmI rfl rfl) <| evs_cons (ev_cN 2) <| evs_nil) (get_c l.length _ c l (40 + 2) 2 _ (viewV hS.ok 4 rfl) rfl hc (by omega) hb (by omega) (by omega)) ?_
           rintro e w ⟨rfl, hk⟩
           refine ⟨_, rfl, ?_⟩
           replace hS := hS.kept hk
           clear hk
           refine hK _ _ ?_; clear hK K
           refine wl_v (x_convN Try.underlying24 Try.underlying27 (tmI rfl rfl) (fit_u16 (by omega))) ?_
           refine wl_v (x_fa 0 Try.underlying35 rfl rfl ts_29 (tmP rfl rfl)) ?_
           refine wl_v (x_fa 7 Try.underlying29 rfl rfl ts_27 (tmP rfl rfl)) ?_
           refine wl_e rfl ?_; intro K hK
           refine ow_store hS 2 rfl ts_27 (tmP rfl rfl) (tmI rfl rfl) rfl rfl ?_
           clear hS; intro w hS
           try replace hS := St.nm (M' := [.vw _ _, .vw _ _, .blk _ _ [_, _, _, _, _, _, _, _, _, _, _], .blk _ _ [_, _, _, _, _, _, _, _, _, _, _], .vw _ _]) hS rfl
           refine hK _ _ ?_; clear hK K
           refine wl_nil ?_
           refine then_n (hK62 _ _ ?_); clear hK62 K62
           refine wp_seq_k ?_; intro K63 hK63
           refine wlit ?_
           refine wl_v (x_move (tmS rfl rfl)) ?_
           refine wl_v (x_move (tmI rfl rfl)) ?_
           refine wl_v (x_sliceL Try.underlying22 ts_5 (tmS rfl rfl) (tmI rfl rfl) (by omega)) ?_
           replace hS := hS.dropb 4 40 rfl hc
           refine wl_e rfl ?_; intro K hK
           refine ow_call Try.func19 rfl rfl (evs_cons (tmS rfl rfl) <| evs_nil) (hP.at_ hlx _ _ _ (viewV hS.ok 0 rfl) (by omega)) ?_
           rintro e w ⟨a1, a2, a3, a4, a5, a6, a7, a8, O, co, X, k, cx, rfl, hco, hn, hk⟩
           refine ⟨_, rfl, ?_⟩
           replace hS := hS.addn hk hn -- +vo
           clear hn hk
           refine hK _ _ ?_; clear hK K
           refine wl_v (x_move (tmT rfl rfl)) ?_
           refine wl_v (x_ext (tmT rfl rfl) rfl) ?_
           refine wl_v (x_ext (tmT rfl rfl) rfl) ?_
           refine wl_e rfl ?_; intro K hK
           refine ow_alloc hS tz_40 rfl ?_
           clear hS; intro g14_7 w hg14_7 hS
           refine hK _ _ ?_; clear hK K
           refine wl_e rfl ?_; intro K hK
           refine ow_storeA hS 0 rfl ts_40 (tmP rfl rfl) (tmA rfl rfl) rfl rfl rfl ?_
           clear hS; intro w hS
           try replace hS := St.nm (M' := [.blk _ _ [_, _, _, _, _, _, _, _, _, _], .vw _ _, .vw _ _, .vw _ _, .vw _ _, .blk _ _ [_, _, _, _, _, _, _, _, _, _, _], .blk _ _ [_, _, _, _, _, _, _, _, _, _, _], .vw _ _]) hS rfl
           refine hK _ _ ?_; clear hK K
           refine wl_v (x_assign (tmI rfl rfl)) ?_
           refine wl_nil ?_
           refine then_n (hK63 _ _ ?_); clear hK63 K63
           refine wp_seq_k ?_; intro K64 hK64
           refine wlit ?_
           refine wl_v (x_fa 8 Try.underlying40 rfl rfl ts_22 (tmP rfl rfl)) ?_
           refine wl_v (x_load Try.underlying22 rfl (tmP rfl rfl) (cellB hS.ok 0 rfl rfl)) ?_
           refine wl_e rfl ?_; intro K hK
           refine ow_call Try.func20 rfl rfl (evs_cons (tmS rfl rfl) <| evs_nil) (rstamps_none_c o.length O co o _ (viewV hS.ok 1 rfl) rfl hob (by omega) hst) ?_
           rintro e w ⟨rfl, hk⟩
           refine ⟨_, rfl, ?_⟩
           replace hS := hS.kept hk
           clear hk
           refine hK _ _ ?_; clear hK K
           refine wl_v (x_assign (tmI rfl rfl)) ?_
           refine wl_nil ?_
           refine then_n (hK64 _ _ ?_); clear hK64 K64
           refine wp_seq_k ?_; intro K65 hK65
           refine wp_seq_k ?_; intro K66 hK66
           refine wlit ?_
           refine wl_v (x_move (tmI rfl rfl)) ?_
           refine wl_v (x_eql (tmI rfl rfl) (ev_cN 6)) ?_
           refine wl_v (x_move (tmB rfl rfl)) ?_
           refine gs_wl (tm (t := 127) rfl) (fun hg16_2 => ?_) (fun hg16_2 => ?_)
           · have hg16_2' := hg16_2; (try simp only [nrm] at hg16_2')
             all_goals
              refine wl_gv (want_y rfl rfl rfl rfl (by rw [hg16_2]; rfl)) (x_move (tmI rfl rfl)) ?_
              refine wl_gv (want_y rfl rfl rfl rfl (by rw [hg16_2]; rfl)) (x_eql (tmI rfl rfl) (ev_cN 0)) ?_
              refine wl_v (x_pickT (tmB rfl rfl) hg16_2 (tmB rfl rfl)) ?_
              refine wl_v (x_move (tmB rfl rfl)) ?_
              refine gs_wl (tm (t := 131) rfl) (fun hg16_6 => ?_) (fun hg16_6 => ?_)
              · have hg16_6' := hg16_6; (try simp only [nrm] at hg16_6')
                all_goals
                 refine wl_gv (want_y rfl rfl rfl rfl (by rw [hg16_6]; rfl)) (x_move (tmI rfl rfl)) ?_
                 refine wl_gv (want_y rfl rfl rfl rfl (by rw [hg16_6]; rfl)) (x_geq (tmI rfl rfl) (ev_cN 0)) ?_
                 refine wl_v (x_pickT (tmB rfl rfl) hg16_6 (tmB rfl rfl)) ?_
                 refine wl_nil ?_
                 refine then_n (hK66 _ _ ?_); clear hK66 K66
                 refine cnd (tm rfl) (fun hc3 => ?_) (fun hc3 => ?_)
                 · exfalso
                   simp at hc3
                 all_goals
                  try simp only [nrm] at hc3
                  refine wp_skip ?_
                  refine then_n (hK65 _ _ ?_); clear hK65 K65
                  refine wp_seq_k ?_; intro K67 hK67
                  refine wlit ?_
                  refine wl_v (x_loadA (cs := [_, _, _, _, _, _, _, _, _, _, _]) Try.underlying35 rfl ts_35 (tmP rfl rfl) (rangeB hS.ok 5 rfl rfl)) ?_
                  refine wl_e rfl ?_; intro K hK
                  refine ow_storeA hS 6 rfl ts_35 (tmP rfl rfl) (tmA rfl rfl) rfl rfl rfl ?_
                  clear hS; intro w hS
                  try replace hS := St.nm (M' := [.blk _ _ [_, _, _, _, _, _, _, _, _, _], .vw _ _, .vw _ _, .vw _ _, .vw _ _, .blk _ _ [_, _, _, _, _, _, _, _, _, _, _], .blk _ _ [_, _, _, _, _, _, _, _, _, _, _], .vw _ _]) hS rfl
                  refine hK _ _ ?_; clear hK K
                  refine wl_v (x_assign ev_c) ?_
                  refine wl_nil ?_
                  refine then_n (hK67 _ _ ?_); clear hK67 K67
                  refine wp_ret ?_
                  refine ret2 rfl (.cell rfl rfl (load_rowB (cs := [_, _, _, _, _, _, _, _, _, _, _]) hS.ok 6 rfl Try.underlying35 rfl ts_35 rfl)) (.tmp rfl (show _ = Value.bool _ from rfl)) ?_
                  obtain ⟨e1, e2⟩ := sv_no (pr := pr) ⟨hvn.2, hvn.1⟩
                  rw [e1, e2]
                  first | exact ⟨rfl, hS.kp⟩ | exact ⟨by rw [six_ad, six_ad]; rfl, hS.kp⟩
              have hg16_6' := hg16_6; (try simp only [nrm] at hg16_6')
              all_goals
               refine wl_s rfl (want_n rfl rfl rfl rfl (by rw [hg16_6]; rfl)) ?_
               refine wl_s rfl (want_n rfl rfl rfl rfl (by rw [hg16_6]; rfl)) ?_
               refine wl_v (x_pickF (tmB rfl rfl) hg16_6 ev_c) ?_
               refine wl_nil ?_
               refine then_n (hK66 _ _ ?_); clear hK66 K66
               refine cnd_f (tmB rfl rfl) rfl ?_
               refine wp_skip ?_
               refine then_n (hK65 _ _ ?_); clear hK65 K65
               refine wp_seq_k ?_; intro K69 hK69
               refine wlit ?_
               refine wl_v (x_loadA (cs := [_, _, _, _, _, _, _, _, _, _, _]) Try.underlying35 rfl ts_35 (tmP rfl rfl) (rangeB hS.ok 5 rfl rfl)) ?_
               refine wl_e rfl ?_; intro K hK
               refine ow_storeA hS 6 rfl ts_35 (tmP rfl rfl) (tmA rfl rfl) rfl rfl rfl ?_
               clear hS; intro w hS
               try replace hS := St.nm (M' := [.blk _ _ [_, _, _, _, _, _, _, _, _, _], .vw _ _, .vw _ _, .vw _ _, .vw _ _, .blk _ _ [_, _, _, _, _, _, _, _, _, _, _], .blk _ _ [_, _, _, _, _, _, _, _, _, _, _], .vw _ _]) hS rfl
               refine hK _ _ ?_; clear hK K
               refine wl_v (x_assign ev_c) ?_
               refine wl_nil ?_
               refine then_n (hK69 _ _ ?_); clear hK69 K69
               refine wp_ret ?_
               refine ret2 rfl (.cell rfl rfl (load_rowB (cs := [_, _, _, _, _, _, _, _, _, _, _]) hS.ok 6 rfl Try.underlying35 rfl ts_35 rfl)) (.tmp rfl (show _ = Value.bool _ from rfl)) ?_
               obtain ⟨e1, e2⟩ := sv_no (pr := pr) ⟨hvn.2, hvn.1⟩
               rw [e1, e2]
               first | exact ⟨rfl, hS.kp⟩ | exact ⟨by rw [six_ad, six_ad]; rfl, hS.kp⟩
           have hg16_2' := hg16_2; (try simp only [nrm] at hg16_2'); try (exfalso; first | with_reducible exact absurd hg16_2 Bool.false_ne_true | with_reducible exact absurd hg16_2.symm Bool.false_ne_true | omega | (simp at hg16_2; done))
           all_goals
            refine wl_s rfl (want_n rfl rfl rfl rfl (by rw [hg16_2]; rfl)) ?_
            refine wl_s rfl (want_n rfl rfl rfl rfl (by rw [hg16_2]; rfl)) ?_
            refine wl_v (x_pickF (tmB rfl rfl) hg16_2 ev_c) ?_
            refine wl_v (x_move (tmB rfl rfl)) ?_
            refine wl_s rfl (want_n rfl rfl rfl rfl rfl) ?_
            refine wl_s rfl (want_n rfl rfl rfl rfl rfl) ?_
            refine wl_v (x_pickF (tmB rfl rfl) rfl ev_c) ?_
            refine wl_nil ?_
            refine then_n (hK66 _ _ ?_); clear hK66 K66
            refine cnd_f (tmB rfl rfl) rfl ?_
            refine wp_skip ?_
            refine then_n (hK65 _ _ ?_); clear hK65 K65
            refine wp_seq_k ?_; intro K71 hK71
            refine wlit ?_
            refine wl_v (x_loadA (cs := [_, _, _, _, _, _, _, _, _, _, _]) Try.underlying35 rfl ts_35 (tmP rfl rfl) (rangeB hS.ok 5 rfl rfl)) ?_
            refine wl_e rfl ?_; intro K hK
            refine ow_storeA hS 6 rfl ts_35 (tmP rfl rfl) (tmA rfl rfl) rfl rfl rfl ?_
            clear hS; intro w hS
            try replace hS := St.nm (M' := [.blk _ _ [_, _, _, _, _, _, _, _, _, _], .vw _ _, .vw _ _, .vw _ _, .vw _ _, .blk _ _ [_, _, _, _, _, _, _, _, _, _, _], .blk _ _ [_, _, _, _, _, _, _, _, _, _, _], .vw _ _]) hS rfl
            refine hK _ _ ?_; clear hK K
            refine wl_v (x_assign ev_c) ?_
            refine wl_nil ?_
            refine then_n (hK71 _ _ ?_); clear hK71 K71
            refine wp_ret ?_
            refine ret2 rfl (.cell rfl rfl (load_rowB (cs := [_, _, _, _, _, _, _, _, _, _, _]) hS.ok 6 rfl Try.underlying35 rfl ts_35 rfl)) (.tmp rfl (show _ = Value.bool _ from rfl)) ?_
            obtain ⟨e1, e2⟩ := sv_no (pr := pr) ⟨hvn.2, hvn.1⟩
            rw [e1, e2]
            first | exact ⟨rfl, hS.kp⟩ | exact ⟨by rw [six_ad, six_ad]; rfl, hS.kp⟩
  · have hq := stampsL_le hst
    have gq : getN o q 4 < 4294967296 := getN_lt hob q 4
    refine ent (n := 143) Try.func7 rfl rfl ?_
    refine wp_seq_k ?_; intro K1 hK1
    refine wlit ?_
    refine wl_e rfl ?_; intro K hK
    refine ow_alloc hS tz_35 rfl ?_
    clear hS; intro g0_0 w hg0_0 hS
    refine hK _ _ ?_; clear hK K
    refine wl_v (x_assign ev_c) ?_
    refine wl_nil ?_
    refine then_n (hK1 _ _ ?_); clear hK1 K1
    refine wp_seq_k ?_; intro K2 hK2
    refine wp_seq_k ?_; intro K3 hK3
    refine wlit ?_
    refine wl_v (x_move (tmS rfl rfl)) ?_
    refine wl_v (x_len Try.underlying22 (tmS rfl rfl)) ?_
    refine wl_v (x_lss (tmI rfl rfl) (ev_cN 20)) ?_
    refine wl_nil ?_
    refine then_n (hK3 _ _ ?_); clear hK3 K3
    refine cnd (tm rfl) (fun hc0 => ?_) (fun hc0 => ?_)
    · exfalso
      simp only [nrm] at hc0
      omega
    all_goals
     try simp only [nrm] at hc0
     refine wp_skip ?_
     refine then_n (hK2 _ _ ?_); clear hK2 K2
     refine wp_seq_k ?_; intro K4 hK4
     refine rg_startk 0 hS mixed_ ?_
     clear hS; intro w hS
     refine rg_take 0 rfl rfl (by kernel_rfl) (by kernel_rfl) (by kernel_rfl) (want_0) (fun w hok => x_move (tmS rfl rfl)) ?_
     refine rg_take 1 rfl rfl (by kernel_rfl) (by kernel_rfl) (by kernel_rfl) (want_0) (fun w hok => x_ixs1 Try.underlying22 ts_5 (tmS rfl rfl) (ev_cN 0) (by omega)) ?_
     refine rg_take 2 rfl rfl (by kernel_rfl) (by kernel_rfl) (by kernel_rfl) (want_0) (fun w hok => x_load Try.underlying5 rfl (tmP rfl rfl) (cellV hok 1 rfl (getm (by omega)))) ?_
     refine rg_take 3 rfl rfl (by kernel_rfl) (by kernel_rfl) (by kernel_rfl) (want_0) (fun w hok => x_remN (tmI rfl rfl) (ev_cN 16) (by omega)) ?_
     refine rg_take 4 rfl rfl (by kernel_rfl) (by kernel_rfl) (by kernel_rfl) (want_0) (fun w hok => x_convN Try.underlying5 Try.underlying3 (tmI rfl rfl) (fit_i64 (by omega))) ?_
     refine rg_take 5 rfl rfl (by kernel_rfl) (by kernel_rfl) (by kernel_rfl) (want_0) (fun w hok => x_mulN (tmI rfl rfl) (ev_cN 4) (fit_i64 (by omega))) ?_
     refine rg_take 6 rfl rfl (by kernel_rfl) (by kernel_rfl) (by kernel_rfl) (want_0) (fun w hok => x_move (tmS rfl rfl)) ?_
     refine rg_take 7 rfl rfl (by kernel_rfl) (by kernel_rfl) (by kernel_rfl) (want_0) (fun w hok => x_ixs1 Try.underlying22 ts_5 (tmS rfl rfl) (ev_cN 9) (by omega)) ?_
     refine rg_take 8 rfl rfl (by kernel_rfl) (by kernel_rfl) (by kernel_rfl) (want_0) (fun w hok => x_load Try.underlying5 rfl (tmP rfl rfl) (cellV hok 1 rfl (getm (by omega)))) ?_
     refine rg_take 9 rfl rfl (by kernel_rfl) (by kernel_rfl) (by kernel_rfl) (want_0) (fun w hok => x_convN Try.underlying5 Try.underlying3 (tmI rfl rfl) (fit_i64 (by omega))) ?_
     refine rg_take 10 rfl rfl (by kernel_rfl) (by kernel_rfl) (by kernel_rfl) (want_0) (fun w hok => x_assign (tmI rfl rfl)) ?_
     refine rg_take 11 rfl rfl (by kernel_rfl) (by kernel_rfl) (by kernel_rfl) (want_0) (fun w hok => x_assign (ev_cN 12)) ?_
     refine rg_take 12 rfl rfl (by kernel_rfl) (by kernel_rfl) (by kernel_rfl) (want_0) (fun w hok => x_assign (ev_cN 4)) ?_
     refine rg_take 13 rfl rfl (by kernel_rfl) (by kernel_rfl) (by kernel_rfl) (want_0) (fun w hok => x_assign (tmI rfl rfl)) ?_
     refine rg_take 14 rfl rfl (by kernel_rfl) (by kernel_rfl) (by kernel_rfl) (want_0) (fun w hok => x_assign (ev_cN 4)) ?_
     refine rg_done (oks_drop hS 0 rfl) (by kernel_rfl) ?_
     refine then_n (hK4 _ _ ?_); clear hK4 K4
     refine wp_seq_k ?_; intro K5 hK5
     refine wp_seq_k ?_; intro K6 hK6
     refine wlit ?_
     refine wl_v (x_move (tmB rfl rfl)) ?_
     refine wl_nil ?_
     refine then_n (hK6 _ _ ?_); clear hK6 K6
     refine cnds (tm rfl) (fun hc1 => ?_) (fun hc1 => ?_)
     · exfalso
       simp at hc1
     all_goals
      try simp only [nrm] at hc1
      refine rg_startk 0 hS mixed_ ?_
      clear hS; intro w hS
      refine rg_take 0 rfl rfl (by kernel_rfl) (by kernel_rfl) (by kernel_rfl) (want_0) (fun w hok => x_move (tmS rfl rfl)) ?_
      refine rg_take 1 rfl rfl (by kernel_rfl) (by kernel_rfl) (by kernel_rfl) (want_0) (fun w hok => x_ixs1 Try.underlying22 ts_5 (tmS rfl rfl) (ev_cN 6) (by omega)) ?_
      refine rg_take 2 rfl rfl (by kernel_rfl) (by kernel_rfl) (by kernel_rfl) (want_0) (fun w hok => x_load Try.underlying5 rfl (tmP rfl rfl) (cellV hok 1 rfl (getm (by omega)))) ?_
      refine rg_take 3 rfl rfl (by kernel_rfl) (by kernel_rfl) (by kernel_rfl) (want_0) (fun w hok => x_convN Try.underlying5 Try.underlying3 (tmI rfl rfl) (fit_i64 (by omega))) ?_
      refine rg_take 4 rfl rfl (by kernel_rfl) (by kernel_rfl) (by kernel_rfl) (want_0) (fun w hok => x_assign (ev_cN 40)) ?_
      refine rg_take 5 rfl rfl (by kernel_rfl) (by kernel_rfl) (by kernel_rfl) (want_0) (fun w hok => x_assign (ev_cN 8)) ?_
      refine rg_take 6 rfl rfl (by kernel_rfl) (by kernel_rfl) (by kernel_rfl) (want_0) (fun w hok => x_assign (ev_cN 16)) ?_
      refine rg_take 7 rfl rfl (by kernel_rfl) (by kernel_rfl) (by kernel_rfl) (want_0) (fun w hok => x_assign (tmI rfl (congrArg (fun q : Nat => Value.int .i64 (q : Int)) hpr'))) ?_
      refine rg_take 8 rfl rfl (by kernel_rfl) (by kernel_rfl) (by kernel_rfl) (want_0) (fun w hok => x_assign (ev_cN 6)) ?_
      refine rg_done (oks_drop hS 0 rfl) (by kernel_rfl) ?_
      refine then_n (hK5 _ _ ?_); clear hK5 K5
      refine wp_seq_k ?_; intro K7 hK7
      refine wp_seq_k ?_; intro K8 hK8
      refine wlit ?_
      refine wl_v (x_move (tmS rfl rfl)) ?_
      refine wl_v (x_ixs1 Try.underlying22 ts_5 (tmS rfl rfl) (ev_cN 0) (by omega)) ?_
      refine wl_v (x_load Try.underlying5 rfl (tmP rfl rfl) (cellV hS.ok 1 rfl (getm (by omega)))) ?_
      refine wl_v (x_quoN (tmI rfl rfl) (ev_cN 16) (by omega) (fit_u8 (by omega))) ?_
      refine wl_v (x_move (tmI rfl rfl)) ?_
      refine wl_v (x_neq (tmI rfl rfl) (tmI rfl rfl)) ?_
      refine wl_v (x_move (tmB rfl rfl)) ?_
      refine gs_wl (tm (t := 40) rfl) (fun hg6_6 => ?_) (fun hg6_6 => ?_)
      · exfalso
        simp only [nrm] at hg6_6
        omega
      have hg6_6' := hg6_6; (try simp only [nrm] at hg6_6')
      all_goals
       refine wl_gv (want_y rfl rfl rfl rfl (by rw [hg6_6]; rfl)) (x_move (tmI rfl rfl)) ?_
       refine wl_gv (want_y rfl rfl rfl rfl (by rw [hg6_6]; rfl)) (x_lss (tmI rfl rfl) (ev_cN 20)) ?_
       refine wl_v (x_pickF (tmB rfl rfl) hg6_6 (tmB rfl rfl)) ?_
       refine wl_v (x_move (tmB rfl rfl)) ?_
       refine gs_wl (tm (t := 44) rfl) (fun hg6_10 => ?_) (fun hg6_10 => ?_)
       · exfalso
         simp only [nrm] at hg6_10
         omega
       have hg6_10' := hg6_10; (try simp only [nrm] at hg6_10')
       all_goals
        refine wl_gv (want_y rfl rfl rfl rfl (by rw [hg6_10]; rfl)) (x_move (tmS rfl rfl)) ?_
        refine wl_gv (want_y rfl rfl rfl rfl (by rw [hg6_10]; rfl)) (x_len Try.underlying22 (tmS rfl rfl)) ?_
        refine wl_gv (want_y rfl rfl rfl rfl (by rw [hg6_10]; rfl)) (x_move (tmI rfl rfl)) ?_
        refine wl_gv (want_y rfl rfl rfl rfl (by rw [hg6_10]; rfl)) (x_addN (tmI rfl rfl) (ev_cN 8) (fit_i64 (by omega))) ?_
        refine wl_gv (want_y rfl rfl rfl rfl (by rw [hg6_10]; rfl)) (x_lss (tmI rfl rfl) (tmI rfl rfl)) ?_
        refine wl_v (x_pickF (tmB rfl rfl) hg6_10 (tmB rfl rfl)) ?_
        refine wl_v (x_move (tmB rfl rfl)) ?_
        refine gs_wl (tm (t := 51) rfl) (fun hg6_17 => ?_) (fun hg6_17 => ?_)
        · exfalso
          simp only [nrm] at hg6_17
          omega
        have hg6_17' := hg6_17; (try simp only [nrm] at hg6_17')
        all_goals
         refine wl_gv (want_y rfl rfl rfl rfl (by rw [hg6_17]; rfl)) (x_move (tmB rfl rfl)) ?_
         refine wl_gv (want_y rfl rfl rfl rfl (by rw [hg6_17]; rfl)) (x_not (tmB rfl rfl)) ?_
         refine wl_gv (want_y rfl rfl rfl rfl (by rw [hg6_17]; rfl)) (x_move (tmB rfl rfl)) ?_
         refine gs_wl (tm (t := 54) rfl) (fun hg6_20 => ?_) (fun hg6_20 => ?_)
         · have hg6_20' := hg6_20; (try simp only [nrm] at hg6_20'); try (exfalso; first | with_reducible exact absurd hg6_20 Bool.false_ne_true | with_reducible exact absurd hg6_20.symm Bool.false_ne_true | omega | (simp at hg6_20; done))
           all_goals
            refine wl_gv (want_y rfl rfl rfl rfl (by rw [hg6_20]; rfl)) (x_move (tmS rfl rfl)) ?_
            refine wl_g (want_y rfl rfl rfl rfl (by rw [hg6_20]; rfl)) ?_; intro K hK
            refine ow_call Try.func17 rfl rfl (evs_cons (tmS rfl rfl) <| evs_cons (ev_cN 6) <| evs_cons (ev_cN 2) <| evs_nil) (get_c l.length _ c l 6 2 _ (viewV hS.ok 1 rfl) rfl hc (by omega) hb (by omega) (by omega)) ?_
            rintro e w ⟨rfl, hk⟩
            refine ⟨_, rfl, ?_⟩
            replace hS := hS.kept hk
            clear hk
            refine hK _ _ ?_; clear hK K
            first
             | refine wl_gv (want_y rfl rfl rfl rfl (by rw [hg6_20]; rfl)) (x_remN (tmI rfl rfl) (ev_cN 16384) (by omega)) ?_
             | refine wl_gv (want_y rfl rfl rfl rfl (by rw [hg6_20]; rfl)) (x_rem (tmI rfl rfl) (ev_cN 16384) (by omega)) ?_
            refine wl_gv (want_y rfl rfl rfl rfl (by rw [hg6_20]; rfl)) (x_neq (tmI rfl rfl) (ev_cN 0)) ?_
            refine wl_gv (want_y rfl rfl rfl rfl (by rw [hg6_17]; rfl)) (x_pickT (tmB rfl rfl) hg6_20 (tmB rfl rfl)) ?_
            refine wl_v (x_pickF (tmB rfl rfl) hg6_17 (tmB rfl rfl)) ?_
            refine wl_v (x_move (tmB rfl rfl)) ?_
            refine gs_wl (tm (t := 61) rfl) (fun hg6_27 => ?_) (fun hg6_27 => ?_)
            · exfalso
              simp only [nrm] at hg6_27
              omega
            have hg6_27' := hg6_27; (try simp only [nrm] at hg6_27')
            all_goals
             refine wl_gv (want_y rfl rfl rfl rfl (by rw [hg6_27]; rfl)) (x_move (tmI rfl rfl)) ?_
             refine wl_gv (want_y rfl rfl rfl rfl (by rw [hg6_27]; rfl)) (x_neq (tmI rfl rfl) (ev_cN 6)) ?_
             refine wl_gv (want_y rfl rfl rfl rfl (by rw [hg6_27]; rfl)) (x_move (tmB rfl rfl)) ?_
             refine gs_wl (tm (t := 64) rfl) (fun hg6_30 => ?_) (fun hg6_30 => ?_)
             · have hg6_30' := hg6_30; (try simp only [nrm] at hg6_30')
               all_goals
                refine wl_gv (want_y rfl rfl rfl rfl (by rw [hg6_30]; rfl)) (x_move (tmI rfl rfl)) ?_
                refine wl_gv (want_y rfl rfl rfl rfl (by rw [hg6_30]; rfl)) (x_neq (tmI rfl rfl) (ev_cN 17)) ?_
                refine wl_gv (want_y rfl rfl rfl rfl (by rw [hg6_27]; rfl)) (x_pickT (tmB rfl rfl) hg6_30 (tmB rfl rfl)) ?_
                refine wl_v (x_pickF (tmB rfl rfl) hg6_27 (tmB rfl rfl)) ?_
                refine wl_nil ?_
                refine then_n (hK8 _ _ ?_); clear hK8 K8
                refine cnd (tm rfl) (fun hc2 => ?_) (fun hc2 => ?_)
                · exfalso
                  first | omega | (simp only [nrm] at hc2; omega)
                all_goals
                 try simp only [nrm] at hc2
                 refine wp_skip ?_
                 refine then_n (hK7 _ _ ?_); clear hK7 K7
                 refine wp_seq_k ?_; intro K9 hK9
                 refine wlit ?_
                 refine wl_v (x_build (bc_skipL [.bool false, .int .u64 0, .int .u64 0, .bool false, .int .u64 0, .int .u64 0, .int .u16 0, .int .u16 0, .int .u8 0] <| bc_skip (.int .u32 0) <| bc_skip (.bool false) <| bc_nil) (by kernel_rfl)) ?_
                 refine wl_e rfl ?_; intro K hK
                 refine ow_alloc hS tz_35 rfl ?_
                 clear hS; intro g8_1 w hg8_1 hS
                 refine hK _ _ ?_; clear hK K
                 refine wl_e rfl ?_; intro K hK
                 refine ow_storeA hS 0 rfl ts_35 (tmP rfl rfl) (tmA rfl rfl) rfl rfl rfl ?_
                 clear hS; intro w hS
                 try replace hS := St.nm (M' := [.blk _ _ [_, _, _, _, _, _, _, _, _, _, _], .blk _ _ [_, _, _, _, _, _, _, _, _, _, _], .vw _ _]) hS rfl
                 refine hK _ _ ?_; clear hK K
                 refine wl_nil ?_
                 refine then_n (hK9 _ _ ?_); clear hK9 K9
                 refine wp_seq_k ?_; intro K10 hK10
                 refine wlit ?_
                 refine wl_v (x_move (tmS rfl rfl)) ?_
                 refine wl_v (x_move (tmI rfl rfl)) ?_
                 refine wl_v (x_move (tmI rfl rfl)) ?_
                 refine wl_v (x_move (tmI rfl rfl)) ?_
                 first
                  | refine wl_v (x_addN (tmI rfl rfl) (tmI rfl rfl) (fit_i64 (by omega))) ?_
                  | refine wl_v (x_addI (tmI rfl rfl) (tmI rfl rfl) (IntWalk.i64_in _ (by omega))) ?_
                  | refine wl_v (x_add (tmI rfl rfl) (tmI rfl rfl)) ?_
                 refine wl_v (x_sliceLH Try.underlying22 ts_5 (tmS rfl rfl) (tmI rfl rfl) (tmI rfl rfl) (by omega)) ?_
                 replace hS := hS.cutb 2 8 16 rfl hc
                 refine wl_e rfl ?_; intro K hK
                 refine ow_call Try.func18 rfl rfl (evs_cons (tmS rfl rfl) <| evs_nil) (rad_of16_c _ _ _ _ (viewV hS.ok 0 rfl) (by rw [List.length_take, List.length_drop]; omega) (by omega) ((hb.drop _).take 16)) ?_
                 rintro e w ⟨rfl, hk⟩
                 refine ⟨_, rfl, ?_⟩
                 replace hS := hS.kept hk
                 clear hk
                 refine hK _ _ ?_; clear hK K
                 refine wl_v (x_move (tmT rfl rfl)) ?_
                 refine wl_v (x_ext (tmT rfl rfl) rfl) ?_
                 refine wl_v (x_ext (tmT rfl rfl) rfl) ?_
                 refine wl_v (x_fa 0 Try.underlying35 rfl rfl ts_29 (tmP rfl rfl)) ?_
                 refine wl_v (x_fa 0 Try.underlying29 rfl rfl ts_26 (tmP rfl rfl)) ?_
                 refine wl_e rfl ?_; intro K hK
                 refine ow_storeA hS 1 rfl ts_26 (tmP rfl rfl) (tmA rfl rfl) rfl rfl rfl ?_
                 clear hS; intro w hS
                 try replace hS := St.nm (M' := [.vw _ _, .blk _ _ [_, _, _, _, _, _, _, _, _, _, _], .blk _ _ [_, _, _, _, _, _, _, _, _, _, _], .vw _ _]) hS rfl
                 refine hK _ _ ?_; clear hK K
                 refine wl_nil ?_
                 refine then_n (hK10 _ _ ?_); clear hK10 K10
                 refine wp_seq_k ?_; intro K11 hK11
                 refine wlit ?_
                 refine wl_v (x_move (tmS rfl rfl)) ?_
                 refine wl_v (x_move (tmI rfl rfl)) ?_
                 refine wl_v (x_move (tmI rfl rfl)) ?_
                 first
                  | refine wl_v (x_addN (tmI rfl rfl) (tmI rfl rfl) (fit_i64 (by omega))) ?_
                  | refine wl_v (x_addI (tmI rfl rfl) (tmI rfl rfl) (IntWalk.i64_in _ (by omega))) ?_
                  | refine wl_v (x_add (tmI rfl rfl) (tmI rfl rfl)) ?_
                 refine wl_v (x_move (tmI rfl rfl)) ?_
                 refine wl_v (x_move (tmI rfl rfl)) ?_
                 first
                  | refine wl_v (x_mulN (ev_cN 2) (tmI rfl rfl) (fit_i64 (by omega))) ?_
                  | refine wl_v (x_mulI (ev_cN 2) (tmI rfl rfl) (IntWalk.i64_in _ (by omega))) ?_
                  | refine wl_v (x_mul (ev_cN 2) (tmI rfl rfl)) ?_
                 first
                  | refine wl_v (x_addN (tmI rfl rfl) (tmI rfl rfl) (fit_i64 (by omega))) ?_
                  | refine wl_v (x_addI (tmI rfl rfl) (tmI rfl rfl) (IntWalk.i64_in _ (by omega))) ?_
                  | refine wl_v (x_add (tmI rfl rfl) (tmI rfl rfl)) ?_
                 refine wl_v (x_sliceLH Try.underlying22 ts_5 (tmS rfl rfl) (tmI rfl rfl) (tmI rfl rfl) (by omega)) ?_
                 replace hS := hS.cutb 3 24 16 rfl hc
                 refine wl_e rfl ?_; intro K hK
                 refine ow_call Try.func18 rfl rfl (evs_cons (tmS rfl rfl) <| evs_nil) (rad_of16_c _ _ _ _ (viewV hS.ok 0 rfl) (by rw [List.length_take, List.length_drop]; omega) (by omega) ((hb.drop _).take 16)) ?_
                 rintro e w ⟨rfl, hk⟩
                 refine ⟨_, rfl, ?_⟩
                 replace hS := hS.kept hk
                 clear hk
                 refine hK _ _ ?_; clear hK K
                 refine wl_v (x_move (tmT rfl rfl)) ?_
                 refine wl_v (x_ext (tmT rfl rfl) rfl) ?_
                 refine wl_v (x_ext (tmT rfl rfl) rfl) ?_
                 refine wl_v (x_fa 0 Try.underlying35 rfl rfl ts_29 (tmP rfl rfl)) ?_
                 refine wl_v (x_fa 3 Try.underlying29 rfl rfl ts_26 (tmP rfl rfl)) ?_
                 refine wl_e rfl ?_; intro K hK
                 refine ow_storeA hS 2 rfl ts_26 (tmP rfl rfl) (tmA rfl rfl) rfl rfl rfl ?_
                 clear hS; intro w hS
                 try replace hS := St.nm (M' := [.vw _ _, .vw _ _, .blk _ _ [_, _, _, _, _, _, _, _, _, _, _], .blk _ _ [_, _, _, _, _, _, _, _, _, _, _], .vw _ _]) hS rfl
                 refine hK _ _ ?_; clear hK K
                 refine wl_nil ?_
                 refine then_n (hK11 _ _ ?_); clear hK11 K11
                 refine wp_seq_k ?_; intro K12 hK12
                 refine wlit ?_
                 refine wl_v (x_move (tmI rfl rfl)) ?_
                 first
                  | refine wl_v (x_convN Try.underlying3 Try.underlying5 (tmI rfl rfl) (fit_u8 (by omega))) ?_
                  | refine wl_v (x_convU Try.underlying3 Try.underlying5 (tmI rfl rfl) rfl) ?_
                  | refine wl_v (x_conv Try.underlying3 Try.underlying5 (tmI rfl rfl)) ?_
                 refine wl_v (x_fa 0 Try.underlying35 rfl rfl ts_29 (tmP rfl rfl)) ?_
                 refine wl_v (x_fa 8 Try.underlying29 rfl rfl ts_5 (tmP rfl rfl)) ?_
                 refine wl_e rfl ?_; intro K hK
                 first
                  | refine ow_store hS 2 rfl ts_5 (tmP rfl rfl) (tmI rfl rfl) rfl rfl ?_
                  | refine ow_storeX hS 2 rfl ts_5 (tmP rfl rfl) (tmI rfl rfl) rfl (by simp; omega) ?_
                 clear hS; intro w hS
                 try replace hS := St.nm (M' := [.vw _ _, .vw _ _, .blk _ _ [_, _, _, _, _, _, _, _, _, _, _], .blk _ _ [_, _, _, _, _, _, _, _, _, _, _], .vw _ _]) hS rfl
                 refine hK _ _ ?_; clear hK K
                 refine wl_nil ?_
                 refine then_n (hK12 _ _ ?_); clear hK12 K12
                 refine wp_seq_k ?_; intro K13 hK13
                 refine wlit ?_
                 refine wl_v (x_move (tmS rfl rfl)) ?_
                 refine wl_v (x_move (tmI rfl rfl)) ?_
                 refine wl_e rfl ?_; intro K hK
                 refine ow_call Try.func17 rfl rfl (evs_cons (tmS rfl rfl) <| evs_cons (tmI rfl rfl) <| evs_cons (ev_cN 2) <| evs_nil) (get_c l.length _ c l 40 2 _ (viewV hS.ok 4 rfl) rfl hc (by omega) hb (by omega) (by omega)) ?_
                 rintro e w ⟨rfl, hk⟩
                 refine ⟨_, rfl, ?_⟩
                 replace hS := hS.kept hk
                 clear hk
                 refine hK _ _ ?_; clear hK K
                 first
                  | refine wl_v (x_convN Try.underlying24 Try.underlying27 (tmI rfl rfl) (fit_u16 (by omega))) ?_
                  | refine wl_v (x_convU Try.underlying24 Try.underlying27 (tmI rfl rfl) rfl) ?_
                  | refine wl_v (x_conv Try.underlying24 Try.underlying27 (tmI rfl rfl)) ?_
                 refine wl_v (x_fa 0 Try.underlying35 rfl rfl ts_29 (tmP rfl rfl)) ?_
                 refine wl_v (x_fa 6 Try.underlying29 rfl rfl ts_27 (tmP rfl rfl)) ?_
                 refine wl_e rfl ?_; intro K hK
                 first
                  | refine ow_store hS 2 rfl ts_27 (tmP rfl rfl) (tmI rfl rfl) rfl rfl ?_
                  | refine ow_storeX hS 2 rfl ts_27 (tmP rfl rfl) (tmI rfl rfl) rfl (by simp; omega) ?_
                 clear hS; intro w hS
                 try replace hS := St.nm (M' := [.vw _ _, .vw _ _, .blk _ _ [_, _, _, _, _, _, _, _, _, _, _], .blk _ _ [_, _, _, _, _, _, _, _, _, _, _], .vw _ _]) hS rfl
                 refine hK _ _ ?_; clear hK K
                 refine wl_nil ?_
                 refine then_n (hK13 _ _ ?_); clear hK13 K13
                 refine wp_seq_k ?_; intro K14 hK14
                 refine wlit ?_
                 refine wl_v (x_move (tmS rfl rfl)) ?_
                 refine wl_v (x_move (tmI rfl rfl)) ?_
                 first
                  | refine wl_v (x_addN (tmI rfl rfl) (ev_cN 2) (fit_i64 (by omega))) ?_
                  | refine wl_v (x_addI (tmI rfl rfl) (ev_cN 2) (IntWalk.i64_in _ (by omega))) ?_
                  | refine wl_v (x_add (tmI rfl rfl) (ev_cN 2)) ?_
                 refine wl_e rfl ?_; intro K hK
                 refine ow_call Try.func17 rfl rfl (evs_cons (tmS rfl rfl) <| evs_cons (tmI rfl rfl) <| evs_cons (ev_cN 2) <| evs_nil) (get_c l.length _ c l (40 + 2) 2 _ (viewV hS.ok 4 rfl) rfl hc (by omega) hb (by omega) (by omega)) ?_
                 rintro e w ⟨rfl, hk⟩
                 refine ⟨_, rfl, ?_⟩
                 replace hS := hS.kept hk
                 clear hk
                 refine hK _ _ ?_; clear hK K
                 first
                  | refine wl_v (x_convN Try.underlying24 Try.underlying27 (tmI rfl rfl) (fit_u16 (by omega))) ?_
                  | refine wl_v (x_convU Try.underlying24 Try.underlying27 (tmI rfl rfl) rfl) ?_
                  | refine wl_v (x_conv Try.underlying24 Try.underlying27 (tmI rfl rfl)) ?_
                 refine wl_v (x_fa 0 Try.underlying35 rfl rfl ts_29 (tmP rfl rfl)) ?_
                 refine wl_v (x_fa 7 Try.underlying29 rfl rfl ts_27 (tmP rfl rfl)) ?_
                 refine wl_e rfl ?_; intro K hK
                 first
                  | refine ow_store hS 2 rfl ts_27 (tmP rfl rfl) (tmI rfl rfl) rfl rfl ?_
                  | refine ow_storeX hS 2 rfl ts_27 (tmP rfl rfl) (tmI rfl rfl) rfl (by simp; omega) ?_
                 clear hS; intro w hS
                 try replace hS := St.nm (M' := [.vw _ _, .vw _ _, .blk _ _ [_, _, _, _, _, _, _, _, _, _, _], .blk _ _ [_, _, _, _, _, _, _, _, _, _, _], .vw _ _]) hS rfl
                 refine hK _ _ ?_; clear hK K
                 refine wl_nil ?_
                 refine then_n (hK14 _ _ ?_); clear hK14 K14
                 refine wp_seq_k ?_; intro K15 hK15
                 refine wlit ?_
                 refine wl_v (x_move (tmS rfl rfl)) ?_
                 refine wl_v (x_move (tmI rfl rfl)) ?_
                 refine wl_v (x_sliceL Try.underlying22 ts_5 (tmS rfl rfl) (tmI rfl rfl) (by omega)) ?_
                 replace hS := hS.dropb 4 40 rfl hc
                 refine wl_e rfl ?_; intro K hK
                 refine ow_call Try.func19 rfl rfl (evs_cons (tmS rfl rfl) <| evs_nil) (hP.at_ hlx _ _ _ (viewV hS.ok 0 rfl) (by omega)) ?_
                 rintro e w ⟨a1, a2, a3, a4, a5, a6, a7, a8, O, co, X, k, cx, rfl, hco, hn, hk⟩
                 refine ⟨_, rfl, ?_⟩
                 replace hS := hS.addn hk hn -- +vo
                 clear hn hk
                 refine hK _ _ ?_; clear hK K
                 refine wl_v (x_move (tmT rfl rfl)) ?_
                 refine wl_v (x_ext (tmT rfl rfl) rfl) ?_
                 refine wl_v (x_ext (tmT rfl rfl) rfl) ?_
                 refine wl_e rfl ?_; intro K hK
                 refine ow_alloc hS tz_40 rfl ?_
                 clear hS; intro g14_7 w hg14_7 hS
                 refine hK _ _ ?_; clear hK K
                 refine wl_e rfl ?_; intro K hK
                 refine ow_storeA hS 0 rfl ts_40 (tmP rfl rfl) (tmA rfl rfl) rfl rfl rfl ?_
                 clear hS; intro w hS
                 try replace hS := St.nm (M' := [.blk _ _ [_, _, _, _, _, _, _, _, _, _], .vw _ _, .vw _ _, .vw _ _, .vw _ _, .blk _ _ [_, _, _, _, _, _, _, _, _, _, _], .blk _ _ [_, _, _, _, _, _, _, _, _, _, _], .vw _ _]) hS rfl
                 refine hK _ _ ?_; clear hK K
                 refine wl_v (x_assign (tmI rfl rfl)) ?_
                 refine wl_nil ?_
                 refine then_n (hK15 _ _ ?_); clear hK15 K15
                 refine wp_seq_k ?_; intro K16 hK16
                 refine wlit ?_
                 refine wl_v (x_fa 8 Try.underlying40 rfl rfl ts_22 (tmP rfl rfl)) ?_
                 first
                  | refine wl_v (x_load Try.underlying22 rfl (tmP rfl rfl) (cellB hS.ok 0 rfl rfl)) ?_
                  | refine wl_v (x_load Try.underlying22 rfl (tmP rfl rfl) (cellB hS.ok 0 rfl (getm (by omega)))) ?_
                 refine wl_e rfl ?_; intro K hK
                 refine ow_call Try.func20 rfl rfl (evs_cons (tmS rfl rfl) <| evs_nil) (rstamps_some_c o.length O co o q _ (viewV hS.ok 1 rfl) rfl hob (by omega) hst) ?_
                 rintro e w ⟨rfl, hk⟩
                 refine ⟨_, rfl, ?_⟩
                 replace hS := hS.kept hk
                 clear hk
                 refine hK _ _ ?_; clear hK K
                 refine wl_v (x_assign (tmI rfl rfl)) ?_
                 refine wl_nil ?_
                 refine then_n (hK16 _ _ ?_); clear hK16 K16
                 refine wp_seq_k ?_; intro K17 hK17
                 refine wp_seq_k ?_; intro K18 hK18
                 refine wlit ?_
                 refine wl_v (x_move (tmI rfl rfl)) ?_
                 refine wl_v (x_eql (tmI rfl rfl) (ev_cN 6)) ?_
                 refine wl_v (x_move (tmB rfl rfl)) ?_
                 refine gs_wl (tm (t := 127) rfl) (fun hg16_2 => ?_) (fun hg16_2 => ?_)
                 · have hg16_2' := hg16_2; (try simp only [nrm] at hg16_2')
                   all_goals
                    refine wl_gv (want_y rfl rfl rfl rfl (by rw [hg16_2]; rfl)) (x_move (tmI rfl rfl)) ?_
                    refine wl_gv (want_y rfl rfl rfl rfl (by rw [hg16_2]; rfl)) (x_eql (tmI rfl rfl) (ev_cN 0)) ?_
                    refine wl_v (x_pickT (tmB rfl rfl) hg16_2 (tmB rfl rfl)) ?_
                    refine wl_v (x_move (tmB rfl rfl)) ?_
                    refine gs_wl (tm (t := 131) rfl) (fun hg16_6 => ?_) (fun hg16_6 => ?_)
                    · have hg16_6' := hg16_6; (try simp only [nrm] at hg16_6')
                      all_goals
                       refine wl_gv (want_y rfl rfl rfl rfl (by rw [hg16_6]; rfl)) (x_move (tmI rfl rfl)) ?_
                       refine wl_gv (want_y rfl rfl rfl rfl (by rw [hg16_6]; rfl)) (x_geq (tmI rfl rfl) (ev_cN 0)) ?_
                       refine wl_v (x_pickT (tmB rfl rfl) hg16_6 (tmB rfl rfl)) ?_
                       refine wl_nil ?_
                       refine then_n (hK18 _ _ ?_); clear hK18 K18
                       refine cnd (tm rfl) (fun hc3 => ?_) (fun hc3 => ?_)
                       · skip
                         all_goals
                          try simp only [nrm] at hc3
                          refine wlit ?_
                          refine wl_v (x_fa 8 Try.underlying40 rfl rfl ts_22 (tmP rfl rfl)) ?_
                          first
                           | refine wl_v (x_load Try.underlying22 rfl (tmP rfl rfl) (cellB hS.ok 0 rfl rfl)) ?_
                           | refine wl_v (x_load Try.underlying22 rfl (tmP rfl rfl) (cellB hS.ok 0 rfl (getm (by omega)))) ?_
                          refine wl_v (x_move (tmI rfl rfl)) ?_
                          refine wl_e rfl ?_; intro K hK
                          refine ow_call Try.func17 rfl rfl (evs_cons (tmS rfl rfl) <| evs_cons (tmI rfl rfl) <| evs_cons (ev_cN 4) <| evs_nil) (get_c o.length O co o q 4 _ (viewV hS.ok 1 rfl) rfl hco (by omega) hob (by omega) (by omega)) ?_
                          rintro e w ⟨rfl, hk⟩
                          refine ⟨_, rfl, ?_⟩
                          replace hS := hS.kept hk
                          clear hk
                          refine hK _ _ ?_; clear hK K
                          first
                           | refine wl_v (x_convN Try.underlying24 Try.underlying30 (tmI rfl rfl) (fit_u32 (by omega))) ?_
                           | refine wl_v (x_convU Try.underlying24 Try.underlying30 (tmI rfl rfl) rfl) ?_
                           | refine wl_v (x_conv Try.underlying24 Try.underlying30 (tmI rfl rfl)) ?_
                          refine wl_v (x_fa 9 Try.underlying35 rfl rfl ts_30 (tmP rfl rfl)) ?_
                          refine wl_e rfl ?_; intro K hK
                          first
                           | refine ow_store hS 5 rfl ts_30 (tmP rfl rfl) (tmI rfl rfl) rfl rfl ?_
                           | refine ow_storeX hS 5 rfl ts_30 (tmP rfl rfl) (tmI rfl rfl) rfl (by simp; omega) ?_
                          clear hS; intro w hS
                          try replace hS := St.nm (M' := [.blk _ _ [_, _, _, _, _, _, _, _, _, _], .vw _ _, .vw _ _, .vw _ _, .vw _ _, .blk _ _ [_, _, _, _, _, _, _, _, _, _, _], .blk _ _ [_, _, _, _, _, _, _, _, _, _, _], .vw _ _]) hS rfl
                          refine hK _ _ ?_; clear hK K
                          refine wl_v (x_fa 10 Try.underlying35 rfl rfl ts_4 (tmP rfl rfl)) ?_
                          refine wl_e rfl ?_; intro K hK
                          first
                           | refine ow_store hS 5 rfl ts_4 (tmP rfl rfl) ev_c rfl rfl ?_
                           | refine ow_storeX hS 5 rfl ts_4 (tmP rfl rfl) ev_c rfl (by simp; omega) ?_
                          clear hS; intro w hS
                          try replace hS := St.nm (M' := [.blk _ _ [_, _, _, _, _, _, _, _, _, _], .vw _ _, .vw _ _, .vw _ _, .vw _ _, .blk _ _ [_, _, _, _, _, _, _, _, _, _, _], .blk _ _ [_, _, _, _, _, _, _, _, _, _, _], .vw _ _]) hS rfl
                          refine hK _ _ ?_; clear hK K
                          refine wl_nil ?_
                          refine then_n (hK17 _ _ ?_); clear hK17 K17
                          refine wp_seq_k ?_; intro K19 hK19
                          refine wlit ?_
                          refine wl_v (x_loadA (cs := [_, _, _, _, _, _, _, _, _, _, _]) Try.underlying35 rfl ts_35 (tmP rfl rfl) (rangeB hS.ok 5 rfl rfl)) ?_
                          refine wl_e rfl ?_; intro K hK
                          refine ow_storeA hS 6 rfl ts_35 (tmP rfl rfl) (tmA rfl rfl) rfl rfl rfl ?_
                          clear hS; intro w hS
                          try replace hS := St.nm (M' := [.blk _ _ [_, _, _, _, _, _, _, _, _, _], .vw _ _, .vw _ _, .vw _ _, .vw _ _, .blk _ _ [_, _, _, _, _, _, _, _, _, _, _], .blk _ _ [_, _, _, _, _, _, _, _, _, _, _], .vw _ _]) hS rfl
                          refine hK _ _ ?_; clear hK K
                          refine wl_v (x_assign ev_c) ?_
                          refine wl_nil ?_
                          refine then_n (hK19 _ _ ?_); clear hK19 K19
                          refine wp_ret ?_
                          refine ret2 rfl (.cell rfl rfl (load_rowB (cs := [_, _, _, _, _, _, _, _, _, _, _]) hS.ok 6 rfl Try.underlying35 rfl ts_35 rfl)) (.tmp rfl (show _ = Value.bool _ from rfl)) ?_
                          first
                            | (have h6 : pr = 6 := by first | omega | (simp at hg16_2; omega)
                               have h0 : er = 0 := by first | omega | (simp at hg16_6; omega)
                               obtain ⟨e1, e2⟩ := sv_yes (pr := pr) h6 ⟨(st_some h0 hst).2, (st_some h0 hst).1⟩
                               rw [e1, e2]
                               first | exact ⟨rfl, hS.kp⟩ | exact ⟨by rw [six_ad, six_ad]; rfl, hS.kp⟩)
                            | (have h6 : pr ≠ 6 := by first | omega | (simp at hg16_2; omega)
                               obtain ⟨e1, e2⟩ := sv_udp (o := o) (er := er) h6
                               rw [e1, e2]
                               first | exact ⟨rfl, hS.kp⟩ | exact ⟨by rw [six_ad, six_ad]; rfl, hS.kp⟩)
                            | (have h0 : er ≠ 0 := by first | omega | (simp at hg16_6; omega)
                               obtain ⟨e1, e2⟩ := sv_no (pr := pr) ⟨(st_bad (o := o) h0).2, (st_bad (o := o) h0).1⟩
                               rw [e1, e2]
                               first | exact ⟨rfl, hS.kp⟩ | exact ⟨by rw [six_ad, six_ad]; rfl, hS.kp⟩)
                       all_goals
                        try simp only [nrm] at hc3
                        refine wp_skip ?_
                        refine then_n (hK17 _ _ ?_); clear hK17 K17
                        refine wp_seq_k ?_; intro K21 hK21
                        refine wlit ?_
                        refine wl_v (x_loadA (cs := [_, _, _, _, _, _, _, _, _, _, _]) Try.underlying35 rfl ts_35 (tmP rfl rfl) (rangeB hS.ok 5 rfl rfl)) ?_
                        refine wl_e rfl ?_; intro K hK
                        refine ow_storeA hS 6 rfl ts_35 (tmP rfl rfl) (tmA rfl rfl) rfl rfl rfl ?_
                        clear hS; intro w hS
                        try replace hS := St.nm (M' := [.blk _ _ [_, _, _, _, _, _, _, _, _, _], .vw _ _, .vw _ _, .vw _ _, .vw _ _, .blk _ _ [_, _, _, _, _, _, _, _, _, _, _], .blk _ _ [_, _, _, _, _, _, _, _, _, _, _], .vw _ _]) hS rfl
                        refine hK _ _ ?_; clear hK K
                        refine wl_v (x_assign ev_c) ?_
                        refine wl_nil ?_
                        refine then_n (hK21 _ _ ?_); clear hK21 K21
                        refine wp_ret ?_
                        refine ret2 rfl (.cell rfl rfl (load_rowB (cs := [_, _, _, _, _, _, _, _, _, _, _]) hS.ok 6 rfl Try.underlying35 rfl ts_35 rfl)) (.tmp rfl (show _ = Value.bool _ from rfl)) ?_
                        first
                          | (have h6 : pr = 6 := by first | omega | (simp at hg16_2; omega)
                             have h0 : er = 0 := by first | omega | (simp at hg16_6; omega)
                             obtain ⟨e1, e2⟩ := sv_yes (pr := pr) h6 ⟨(st_some h0 hst).2, (st_some h0 hst).1⟩
                             rw [e1, e2]
                             first | exact ⟨rfl, hS.kp⟩ | exact ⟨by rw [six_ad, six_ad]; rfl, hS.kp⟩)
                          | (have h6 : pr ≠ 6 := by first | omega | (simp at hg16_2; omega)
                             obtain ⟨e1, e2⟩ := sv_udp (o := o) (er := er) h6
                             rw [e1, e2]
                             first | exact ⟨rfl, hS.kp⟩ | exact ⟨by rw [six_ad, six_ad]; rfl, hS.kp⟩)
                          | (have h0 : er ≠ 0 := by first | omega | (simp at hg16_6; omega)
                             obtain ⟨e1, e2⟩ := sv_no (pr := pr) ⟨(st_bad (o := o) h0).2, (st_bad (o := o) h0).1⟩
                             rw [e1, e2]
                             first | exact ⟨rfl, hS.kp⟩ | exact ⟨by rw [six_ad, six_ad]; rfl, hS.kp⟩)
                    have hg16_6' := hg16_6; (try simp only [nrm] at hg16_6')
                    all_goals
                     refine wl_s rfl (want_n rfl rfl rfl rfl (by rw [hg16_6]; rfl)) ?_
                     refine wl_s rfl (want_n rfl rfl rfl rfl (by rw [hg16_6]; rfl)) ?_
                     refine wl_v (x_pickF (tmB rfl rfl) hg16_6 ev_c) ?_
                     refine wl_nil ?_
                     refine then_n (hK18 _ _ ?_); clear hK18 K18
                     refine cnd_f (tmB rfl rfl) rfl ?_
                     refine wp_skip ?_
                     refine then_n (hK17 _ _ ?_); clear hK17 K17
                     refine wp_seq_k ?_; intro K23 hK23
                     refine wlit ?_
                     refine wl_v (x_loadA (cs := [_, _, _, _, _, _, _, _, _, _, _]) Try.underlying35 rfl ts_35 (tmP rfl rfl) (rangeB hS.ok 5 rfl rfl)) ?_
                     refine wl_e rfl ?_; intro K hK
                     refine ow_storeA hS 6 rfl ts_35 (tmP rfl rfl) (tmA rfl rfl) rfl rfl rfl ?_
                     clear hS; intro w hS
                     try replace hS := St.nm (M' := [.blk _ _ [_, _, _, _, _, _, _, _, _, _], .vw _ _, .vw _ _, .vw _ _, .vw _ _, .blk _ _ [_, _, _, _, _, _, _, _, _, _, _], .blk _ _ [_, _, _, _, _, _, _, _, _, _, _], .vw _ _]) hS rfl
                     refine hK _ _ ?_; clear hK K
                     refine wl_v (x_assign ev_c) ?_
                     refine wl_nil ?_
                     refine then_n (hK23 _ _ ?_); clear hK23 K23
                     refine wp_ret ?_
                     refine ret2 rfl (.cell rfl rfl (load_rowB (cs := [_, _, _, _, _, _, _, _, _, _, _]) hS.ok 6 rfl Try.underlying35 rfl ts_35 rfl)) (.tmp rfl (show _ = Value.bool _ from rfl)) ?_
                     first
                       | (have h6 : pr = 6 := by first | omega | (simp at hg16_2; omega)
                          have h0 : er = 0 := by first | omega | (simp at hg16_6; omega)
                          obtain ⟨e1, e2⟩ := sv_yes (pr := pr) h6 ⟨(st_some h0 hst).2, (st_some h0 hst).1⟩
                          rw [e1, e2]
                          first | exact ⟨rfl, hS.kp⟩ | exact ⟨by rw [six_ad, six_ad]; rfl, hS.kp⟩)
                       | (have h6 : pr ≠ 6 := by first | omega | (simp at hg16_2; omega)
                          obtain ⟨e1, e2⟩ := sv_udp (o := o) (er := er) h6
                          rw [e1, e2]
                          first | exact ⟨rfl, hS.kp⟩ | exact ⟨by rw [six_ad, six_ad]; rfl, hS.kp⟩)
                       | (have h0 : er ≠ 0 := by first | omega | (simp at hg16_6; omega)
                          obtain ⟨e1, e2⟩ := sv_no (pr := pr) ⟨(st_bad (o := o) h0).2, (st_bad (o := o) h0).1⟩
                          rw [e1, e2]
                          first | exact ⟨rfl, hS.kp⟩ | exact ⟨by rw [six_ad, six_ad]; rfl, hS.kp⟩)
                 have hg16_2' := hg16_2; (try simp only [nrm] at hg16_2')
                 all_goals
                  refine wl_s rfl (want_n rfl rfl rfl rfl (by rw [hg16_2]; rfl)) ?_
                  refine wl_s rfl (want_n rfl rfl rfl rfl (by rw [hg16_2]; rfl)) ?_
                  refine wl_v (x_pickF (tmB rfl rfl) hg16_2 ev_c) ?_
                  refine wl_v (x_move (tmB rfl rfl)) ?_
                  refine wl_s rfl (want_n rfl rfl rfl rfl rfl) ?_
                  refine wl_s rfl (want_n rfl rfl rfl rfl rfl) ?_
                  refine wl_v (x_pickF (tmB rfl rfl) rfl ev_c) ?_
                  refine wl_nil ?_
                  refine then_n (hK18 _ _ ?_); clear hK18 K18
                  refine cnd_f (tmB rfl rfl) rfl ?_
                  refine wp_skip ?_
                  refine then_n (hK17 _ _ ?_); clear hK17 K17
                  refine wp_seq_k ?_; intro K25 hK25
                  refine wlit ?_
                  refine wl_v (x_loadA (cs := [_, _, _, _, _, _, _, _, _, _, _]) Try.underlying35 rfl ts_35 (tmP rfl rfl) (rangeB hS.ok 5 rfl rfl)) ?_
                  refine wl_e rfl ?_; intro K hK
                  refine ow_storeA hS 6 rfl ts_35 (tmP rfl rfl) (tmA rfl rfl) rfl rfl rfl ?_
                  clear hS; intro w hS
                  try replace hS := St.nm (M' := [.blk _ _ [_, _, _, _, _, _, _, _, _, _], .vw _ _, .vw _ _, .vw _ _, .vw _ _, .blk _ _ [_, _, _, _, _, _, _, _, _, _, _], .blk _ _ [_, _, _, _, _, _, _, _, _, _, _], .vw _ _]) hS rfl
                  refine hK _ _ ?_; clear hK K
                  refine wl_v (x_assign ev_c) ?_
                  refine wl_nil ?_
                  refine then_n (hK25 _ _ ?_); clear hK25 K25
                  refine wp_ret ?_
                  refine ret2 rfl (.cell rfl rfl (load_rowB (cs := [_, _, _, _, _, _, _, _, _, _, _]) hS.ok 6 rfl Try.underlying35 rfl ts_35 rfl)) (.tmp rfl (show _ = Value.bool _ from rfl)) ?_
                  first
                    | (have h6 : pr = 6 := by first | omega | (simp at hg16_2; omega)
                       have h0 : er = 0 := by first | omega | (simp at hg16_6; omega)
                       obtain ⟨e1, e2⟩ := sv_yes (pr := pr) h6 ⟨(st_some h0 hst).2, (st_some h0 hst).1⟩
                       rw [e1, e2]
                       first | exact ⟨rfl, hS.kp⟩ | exact ⟨by rw [six_ad, six_ad]; rfl, hS.kp⟩)
                    | (have h6 : pr ≠ 6 := by first | omega | (simp at hg16_2; omega)
                       obtain ⟨e1, e2⟩ := sv_udp (o := o) (er := er) h6
                       rw [e1, e2]
                       first | exact ⟨rfl, hS.kp⟩ | exact ⟨by rw [six_ad, six_ad]; rfl, hS.kp⟩)
                    | (have h0 : er ≠ 0 := by first | omega | (simp at hg16_6; omega)
                       obtain ⟨e1, e2⟩ := sv_no (pr := pr) ⟨(st_bad (o := o) h0).2, (st_bad (o := o) h0).1⟩
                       rw [e1, e2]
                       first | exact ⟨rfl, hS.kp⟩ | exact ⟨by rw [six_ad, six_ad]; rfl, hS.kp⟩)
             have hg6_30' := hg6_30; (try simp only [nrm] at hg6_30')
             all_goals
              refine wl_s rfl (want_n rfl rfl rfl rfl (by rw [hg6_30]; rfl)) ?_
              refine wl_s rfl (want_n rfl rfl rfl rfl (by rw [hg6_30]; rfl)) ?_
              refine wl_gv (want_y rfl rfl rfl rfl (by rw [hg6_27]; rfl)) (x_pickF (tmB rfl rfl) hg6_30 ev_c) ?_
              refine wl_v (x_pickF (tmB rfl rfl) hg6_27 (tmB rfl rfl)) ?_
              refine wl_nil ?_
              refine then_n (hK8 _ _ ?_); clear hK8 K8
              refine cnd_f (tmB rfl rfl) rfl ?_
              refine wp_skip ?_
              refine then_n (hK7 _ _ ?_); clear hK7 K7
              refine wp_seq_k ?_; intro K27 hK27
              refine wlit ?_
              refine wl_v (x_build (bc_skipL [.bool false, .int .u64 0, .int .u64 0, .bool false, .int .u64 0, .int .u64 0, .int .u16 0, .int .u16 0, .int .u8 0] <| bc_skip (.int .u32 0) <| bc_skip (.bool false) <| bc_nil) (by kernel_rfl)) ?_
              refine wl_e rfl ?_; intro K hK
              refine ow_alloc hS tz_35 rfl ?_
              clear hS; intro g8_1 w hg8_1 hS
              refine hK _ _ ?_; clear hK K
              refine wl_e rfl ?_; intro K hK
              refine ow_storeA hS 0 rfl ts_35 (tmP rfl rfl) (tmA rfl rfl) rfl rfl rfl ?_
              clear hS; intro w hS
              try replace hS := St.nm (M' := [.blk _ _ [_, _, _, _, _, _, _, _, _, _, _], .blk _ _ [_, _, _, _, _, _, _, _, _, _, _], .vw _ _]) hS rfl
              refine hK _ _ ?_; clear hK K
              refine wl_nil ?_
              refine then_n (hK27 _ _ ?_); clear hK27 K27
              refine wp_seq_k ?_; intro K28 hK28
              refine wlit ?_
              refine wl_v (x_move (tmS rfl rfl)) ?_
              refine wl_v (x_move (tmI rfl rfl)) ?_
              refine wl_v (x_move (tmI rfl rfl)) ?_
              refine wl_v (x_move (tmI rfl rfl)) ?_
              first
               | refine wl_v (x_addN (tmI rfl rfl) (tmI rfl rfl) (fit_i64 (by omega))) ?_
               | refine wl_v (x_addI (tmI rfl rfl) (tmI rfl rfl) (IntWalk.i64_in _ (by omega))) ?_
               | refine wl_v (x_add (tmI rfl rfl) (tmI rfl rfl)) ?_
              refine wl_v (x_sliceLH Try.underlying22 ts_5 (tmS rfl rfl) (tmI rfl rfl) (tmI rfl rfl) (by omega)) ?_
              replace hS := hS.cutb 2 8 16 rfl hc
              refine wl_e rfl ?_; intro K hK
              refine ow_call Try.func18 rfl rfl (evs_cons (tmS rfl rfl) <| evs_nil) (rad_of16_c _ _ _ _ (viewV hS.ok 0 rfl) (by rw [List.length_take, List.length_drop]; omega) (by omega) ((hb.drop _).take 16)) ?_
              rintro e w ⟨rfl, hk⟩
              refine ⟨_, rfl, ?_⟩
              replace hS := hS.kept hk
              clear hk
              refine hK _ _ ?_; clear hK K
              refine wl_v (x_move (tmT rfl rfl)) ?_
              refine wl_v (x_ext (tmT rfl rfl) rfl) ?_
              refine wl_v (x_ext (tmT rfl rfl) rfl) ?_
              refine wl_v (x_fa 0 Try.underlying35 rfl rfl ts_29 (tmP rfl rfl)) ?_
              refine wl_v (x_fa 0 Try.underlying29 rfl rfl ts_26 (tmP rfl rfl)) ?_
              refine wl_e rfl ?_; intro K hK
              refine ow_storeA hS 1 rfl ts_26 (tmP rfl rfl) (tmA rfl rfl) rfl rfl rfl ?_
              clear hS; intro w hS
              try replace hS := St.nm (M' := [.vw _ _, .blk _ _ [_, _, _, _, _, _, _, _, _, _, _], .blk _ _ [_, _, _, _, _, _, _, _, _, _, _], .vw _ _]) hS rfl
              refine hK _ _ ?_; clear hK K
              refine wl_nil ?_
              refine then_n (hK28 _ _ ?_); clear hK28 K28
              refine wp_seq_k ?_; intro K29 hK29
              refine wlit ?_
              refine wl_v (x_move (tmS rfl rfl)) ?_
              refine wl_v (x_move (tmI rfl rfl)) ?_
              refine wl_v (x_move (tmI rfl rfl)) ?_
              first
               | refine wl_v (x_addN (tmI rfl rfl) (tmI rfl rfl) (fit_i64 (by omega))) ?_
               | refine wl_v (x_addI (tmI rfl rfl) (tmI rfl rfl) (IntWalk.i64_in _ (by omega))) ?_
               | refine wl_v (x_add (tmI rfl rfl) (tmI rfl rfl)) ?_
              refine wl_v (x_move (tmI rfl rfl)) ?_
              refine wl_v (x_move (tmI rfl rfl)) ?_
              first
               | refine wl_v (x_mulN (ev_cN 2) (tmI rfl rfl) (fit_i64 (by omega))) ?_
               | refine wl_v (x_mulI (ev_cN 2) (tmI rfl rfl) (IntWalk.i64_in _ (by omega))) ?_
               | refine wl_v (x_mul (ev_cN 2) (tmI rfl rfl)) ?_
              first
               | refine wl_v (x_addN (tmI rfl rfl) (tmI rfl rfl) (fit_i64 (by omega))) ?_
               | refine wl_v (x_addI (tmI rfl rfl) (tmI rfl rfl) (IntWalk.i64_in _ (by omega))) ?_
               | refine wl_v (x_add (tmI rfl rfl) (tmI rfl rfl)) ?_
              refine wl_v (x_sliceLH Try.underlying22 ts_5 (tmS rfl rfl) (tmI rfl rfl) (tmI rfl rfl) (by omega)) ?_
              replace hS := hS.cutb 3 24 16 rfl hc
              refine wl_e rfl ?_; intro K hK
              refine ow_call Try.func18 rfl rfl (evs_cons (tmS rfl rfl) <| evs_nil) (rad_of16_c _ _ _ _ (viewV hS.ok 0 rfl) (by rw [List.length_take, List.length_drop]; omega) (by omega) ((hb.drop _).take 16)) ?_
              rintro e w ⟨rfl, hk⟩
              refine ⟨_, rfl, ?_⟩
              replace hS := hS.kept hk
              clear hk
              refine hK _ _ ?_; clear hK K
              refine wl_v (x_move (tmT rfl rfl)) ?_
              refine wl_v (x_ext (tmT rfl rfl) rfl) ?_
              refine wl_v (x_ext (tmT rfl rfl) rfl) ?_
              refine wl_v (x_fa 0 Try.underlying35 rfl rfl ts_29 (tmP rfl rfl)) ?_
              refine wl_v (x_fa 3 Try.underlying29 rfl rfl ts_26 (tmP rfl rfl)) ?_
              refine wl_e rfl ?_; intro K hK
              refine ow_storeA hS 2 rfl ts_26 (tmP rfl rfl) (tmA rfl rfl) rfl rfl rfl ?_
              clear hS; intro w hS
              try replace hS := St.nm (M' := [.vw _ _, .vw _ _, .blk _ _ [_, _, _, _, _, _, _, _, _, _, _], .blk _ _ [_, _, _, _, _, _, _, _, _, _, _], .vw _ _]) hS rfl
              refine hK _ _ ?_; clear hK K
              refine wl_nil ?_
              refine then_n (hK29 _ _ ?_); clear hK29 K29
              refine wp_seq_k ?_; intro K30 hK30
              refine wlit ?_
              refine wl_v (x_move (tmI rfl rfl)) ?_
              first
               | refine wl_v (x_convN Try.underlying3 Try.underlying5 (tmI rfl rfl) (fit_u8 (by omega))) ?_
               | refine wl_v (x_convU Try.underlying3 Try.underlying5 (tmI rfl rfl) rfl) ?_
               | refine wl_v (x_conv Try.underlying3 Try.underlying5 (tmI rfl rfl)) ?_
              refine wl_v (x_fa 0 Try.underlying35 rfl rfl ts_29 (tmP rfl rfl)) ?_
              refine wl_v (x_fa 8 Try.underlying29 rfl rfl ts_5 (tmP rfl rfl)) ?_
              refine wl_e rfl ?_; intro K hK
              first
               | refine ow_store hS 2 rfl ts_5 (tmP rfl rfl) (tmI rfl rfl) rfl rfl ?_
               | refine ow_storeX hS 2 rfl ts_5 (tmP rfl rfl) (tmI rfl rfl) rfl (by simp; omega) ?_
              clear hS; intro w hS
              try replace hS := St.nm (M' := [.vw _ _, .vw _ _, .blk _ _ [_, _, _, _, _, _, _, _, _, _, _], .blk _ _ [_, _, _, _, _, _, _, _, _, _, _], .vw _ _]) hS rfl
              refine hK _ _ ?_; clear hK K
              refine wl_nil ?_
              refine then_n (hK30 _ _ ?_); clear hK30 K30
              refine wp_seq_k ?_; intro K31 hK31
              refine wlit ?_
              refine wl_v (x_move (tmS rfl rfl)) ?_
              refine wl_v (x_move (tmI rfl rfl)) ?_
              refine wl_e rfl ?_; intro K hK
              refine ow_call Try.func17 rfl rfl (evs_cons (tmS rfl rfl) <| evs_cons (tmI rfl rfl) <| evs_cons (ev_cN 2) <| evs_nil) (get_c l.length _ c l 40 2 _ (viewV hS.ok 4 rfl) rfl hc (by omega) hb (by omega) (by omega)) ?_
              rintro e w ⟨rfl, hk⟩
              refine ⟨_, rfl, ?_⟩
              replace hS := hS.kept hk
              clear hk
              refine hK _ _ ?_; clear hK K
              first
               | refine wl_v (x_convN Try.underlying24 Try.underlying27 (tmI rfl rfl) (fit_u16 (by omega))) ?_
               | refine wl_v (x_convU Try.underlying24 Try.underlying27 (tmI rfl rfl) rfl) ?_
               | refine wl_v (x_conv Try.underlying24 Try.underlying27 (tmI rfl rfl)) ?_
              refine wl_v (x_fa 0 Try.underlying35 rfl rfl ts_29 (tmP rfl rfl)) ?_
              refine wl_v (x_fa 6 Try.underlying29 rfl rfl ts_27 (tmP rfl rfl)) ?_
              refine wl_e rfl ?_; intro K hK
              first
               | refine ow_store hS 2 rfl ts_27 (tmP rfl rfl) (tmI rfl rfl) rfl rfl ?_
               | refine ow_storeX hS 2 rfl ts_27 (tmP rfl rfl) (tmI rfl rfl) rfl (by simp; omega) ?_
              clear hS; intro w hS
              try replace hS := St.nm (M' := [.vw _ _, .vw _ _, .blk _ _ [_, _, _, _, _, _, _, _, _, _, _], .blk _ _ [_, _, _, _, _, _, _, _, _, _, _], .vw _ _]) hS rfl
              refine hK _ _ ?_; clear hK K
              refine wl_nil ?_
              refine then_n (hK31 _ _ ?_); clear hK31 K31
              refine wp_seq_k ?_; intro K32 hK32
              refine wlit ?_
              refine wl_v (x_move (tmS rfl rfl)) ?_
              refine wl_v (x_move (tmI rfl rfl)) ?_
              first
               | refine wl_v (x_addN (tmI rfl rfl) (ev_cN 2) (fit_i64 (by omega))) ?_
               | refine wl_v (x_addI (tmI rfl rfl) (ev_cN 2) (IntWalk.i64_in _ (by omega))) ?_
               | refine wl_v (x_add (tmI rfl rfl) (ev_cN 2)) ?_
              refine wl_e rfl ?_; intro K hK
              refine ow_call Try.func17 rfl rfl (evs_cons (tmS rfl rfl) <| evs_cons (tmI rfl rfl) <| evs_cons (ev_cN 2) <| evs_nil) (get_c l.length _ c l (40 + 2) 2 _ (viewV hS.ok 4 rfl) rfl hc (by omega) hb (by omega) (by omega)) ?_
              rintro e w ⟨rfl, hk⟩
              refine ⟨_, rfl, ?_⟩
              replace hS := hS.kept hk
              clear hk
              refine hK _ _ ?_; clear hK K
              first
               | refine wl_v (x_convN Try.underlying24 Try.underlying27 (tmI rfl rfl) (fit_u16 (by omega))) ?_
               | refine wl_v (x_convU Try.underlying24 Try.underlying27 (tmI rfl rfl) rfl) ?_
               | refine wl_v (x_conv Try.underlying24 Try.underlying27 (tmI rfl rfl)) ?_
              refine wl_v (x_fa 0 Try.underlying35 rfl rfl ts_29 (tmP rfl rfl)) ?_
              refine wl_v (x_fa 7 Try.underlying29 rfl rfl ts_27 (tmP rfl rfl)) ?_
              refine wl_e rfl ?_; intro K hK
              first
               | refine ow_store hS 2 rfl ts_27 (tmP rfl rfl) (tmI rfl rfl) rfl rfl ?_
               | refine ow_storeX hS 2 rfl ts_27 (tmP rfl rfl) (tmI rfl rfl) rfl (by simp; omega) ?_
              clear hS; intro w hS
              try replace hS := St.nm (M' := [.vw _ _, .vw _ _, .blk _ _ [_, _, _, _, _, _, _, _, _, _, _], .blk _ _ [_, _, _, _, _, _, _, _, _, _, _], .vw _ _]) hS rfl
              refine hK _ _ ?_; clear hK K
              refine wl_nil ?_
              refine then_n (hK32 _ _ ?_); clear hK32 K32
              refine wp_seq_k ?_; intro K33 hK33
              refine wlit ?_
              refine wl_v (x_move (tmS rfl rfl)) ?_
              refine wl_v (x_move (tmI rfl rfl)) ?_
              refine wl_v (x_sliceL Try.underlying22 ts_5 (tmS rfl rfl) (tmI rfl rfl) (by omega)) ?_
              replace hS := hS.dropb 4 40 rfl hc
              refine wl_e rfl ?_; intro K hK
              refine ow_call Try.func19 rfl rfl (evs_cons (tmS rfl rfl) <| evs_nil) (hP.at_ hlx _ _ _ (viewV hS.ok 0 rfl) (by omega)) ?_
              rintro e w ⟨a1, a2, a3, a4, a5, a6, a7, a8, O, co, X, k, cx, rfl, hco, hn, hk⟩
              refine ⟨_, rfl, ?_⟩
              replace hS := hS.addn hk hn -- +vo
              clear hn hk
              refine hK _ _ ?_; clear hK K
              refine wl_v (x_move (tmT rfl rfl)) ?_
              refine wl_v (x_ext (tmT rfl rfl) rfl) ?_
              refine wl_v (x_ext (tmT rfl rfl) rfl) ?_
              refine wl_e rfl ?_; intro K hK
              refine ow_alloc hS tz_40 rfl ?_
              clear hS; intro g14_7 w hg14_7 hS
              refine hK _ _ ?_; clear hK K
              refine wl_e rfl ?_; intro K hK
              refine ow_storeA hS 0 rfl ts_40 (tmP rfl rfl) (tmA rfl rfl) rfl rfl rfl ?_
              clear hS; intro w hS
              try replace hS := St.nm (M' := [.blk _ _ [_, _, _, _, _, _, _, _, _, _], .vw _ _, .vw _ _, .vw _ _, .vw _ _, .blk _ _ [_, _, _, _, _, _, _, _, _, _, _], .blk _ _ [_, _, _, _, _, _, _, _, _, _, _], .vw _ _]) hS rfl
              refine hK _ _ ?_; clear hK K
              refine wl_v (x_assign (tmI rfl rfl)) ?_
              refine wl_nil ?_
              refine then_n (hK33 _ _ ?_); clear hK33 K33
              refine wp_seq_k ?_; intro K34 hK34
              refine wlit ?_
              refine wl_v (x_fa 8 Try.underlying40 rfl rfl ts_22 (tmP rfl rfl)) ?_
              first
               | refine wl_v (x_load Try.underlying22 rfl (tmP rfl rfl) (cellB hS.ok 0 rfl rfl)) ?_
               | refine wl_v (x_load Try.underlying22 rfl (tmP rfl rfl) (cellB hS.ok 0 rfl (getm (by omega)))) ?_
              refine wl_e rfl ?_; intro K hK
              refine ow_call Try.func20 rfl rfl (evs_cons (tmS rfl rfl) <| evs_nil) (rstamps_some_c o.length O co o q _ (viewV hS.ok 1 rfl) rfl hob (by omega) hst) ?_
              rintro e w ⟨rfl, hk⟩
              refine ⟨_, rfl, ?_⟩
              replace hS := hS.kept hk
              clear hk
              refine hK _ _ ?_; clear hK K
              refine wl_v (x_assign (tmI rfl rfl)) ?_
              refine wl_nil ?_
              refine then_n (hK34 _ _ ?_); clear hK34 K34
              refine wp_seq_k ?_; intro K35 hK35
              refine wp_seq_k ?_; intro K36 hK36
              refine wlit ?_
              refine wl_v (x_move (tmI rfl rfl)) ?_
              refine wl_v (x_eql (tmI rfl rfl) (ev_cN 6)) ?_
              refine wl_v (x_move (tmB rfl rfl)) ?_
              refine gs_wl (tm (t := 127) rfl) (fun hg16_2 => ?_) (fun hg16_2 => ?_)
              · have hg16_2' := hg16_2; (try simp only [nrm] at hg16_2')
                all_goals
                 refine wl_gv (want_y rfl rfl rfl rfl (by rw [hg16_2]; rfl)) (x_move (tmI rfl rfl)) ?_
                 refine wl_gv (want_y rfl rfl rfl rfl (by rw [hg16_2]; rfl)) (x_eql (tmI rfl rfl) (ev_cN 0)) ?_
                 refine wl_v (x_pickT (tmB rfl rfl) hg16_2 (tmB rfl rfl)) ?_
                 refine wl_v (x_move (tmB rfl rfl)) ?_
                 refine gs_wl (tm (t := 131) rfl) (fun hg16_6 => ?_) (fun hg16_6 => ?_)
                 · have hg16_6' := hg16_6; (try simp only [nrm] at hg16_6')
                   all_goals
                    refine wl_gv (want_y rfl rfl rfl rfl (by rw [hg16_6]; rfl)) (x_move (tmI rfl rfl)) ?_
                    refine wl_gv (want_y rfl rfl rfl rfl (by rw [hg16_6]; rfl)) (x_geq (tmI rfl rfl) (ev_cN 0)) ?_
                    refine wl_v (x_pickT (tmB rfl rfl) hg16_6 (tmB rfl rfl)) ?_
                    refine wl_nil ?_
                    refine then_n (hK36 _ _ ?_); clear hK36 K36
                    refine cnd (tm rfl) (fun hc3 => ?_) (fun hc3 => ?_)
                    · skip
                      all_goals
                       try simp only [nrm] at hc3
                       refine wlit ?_
                       refine wl_v (x_fa 8 Try.underlying40 rfl rfl ts_22 (tmP rfl rfl)) ?_
                       first
                        | refine wl_v (x_load Try.underlying22 rfl (tmP rfl rfl) (cellB hS.ok 0 rfl rfl)) ?_
                        | refine wl_v (x_load Try.underlying22 rfl (tmP rfl rfl) (cellB hS.ok 0 rfl (getm (by omega)))) ?_
                       refine wl_v (x_move (tmI rfl rfl)) ?_
                       refine wl_e rfl ?_; intro K hK
                       refine ow_call Try.func17 rfl rfl (evs_cons (tmS rfl rfl) <| evs_cons (tmI rfl rfl) <| evs_cons (ev_cN 4) <| evs_nil) (get_c o.length O co o q 4 _ (viewV hS.ok 1 rfl) rfl hco (by omega) hob (by omega) (by omega)) ?_
                       rintro e w ⟨rfl, hk⟩
                       refine ⟨_, rfl, ?_⟩
                       replace hS := hS.kept hk
                       clear hk
                       refine hK _ _ ?_; clear hK K
                       first
                        | refine wl_v (x_convN Try.underlying24 Try.underlying30 (tmI rfl rfl) (fit_u32 (by omega))) ?_
                        | refine wl_v (x_convU Try.underlying24 Try.underlying30 (tmI rfl rfl) rfl) ?_
                        | refine wl_v (x_conv Try.underlying24 Try.underlying30 (tmI rfl rfl)) ?_
                       refine wl_v (x_fa 9 Try.underlying35 rfl rfl ts_30 (tmP rfl rfl)) ?_
                       refine wl_e rfl ?_; intro K hK
                       first
                        | refine ow_store hS 5 rfl ts_30 (tmP rfl rfl) (tmI rfl rfl) rfl rfl ?_
                        | refine ow_storeX hS 5 rfl ts_30 (tmP rfl rfl) (tmI rfl rfl) rfl (by simp; omega) ?_
                       clear hS; intro w hS
                       try replace hS := St.nm (M' := [.blk _ _ [_, _, _, _, _, _, _, _, _, _], .vw _ _, .vw _ _, .vw _ _, .vw _ _, .blk _ _ [_, _, _, _, _, _, _, _, _, _, _], .blk _ _ [_, _, _, _, _, _, _, _, _, _, _], .vw _ _]) hS rfl
                       refine hK _ _ ?_; clear hK K
                       refine wl_v (x_fa 10 Try.underlying35 rfl rfl ts_4 (tmP rfl rfl)) ?_
                       refine wl_e rfl ?_; intro K hK
                       first
                        | refine ow_store hS 5 rfl ts_4 (tmP rfl rfl) ev_c rfl rfl ?_
                        | refine ow_storeX hS 5 rfl ts_4 (tmP rfl rfl) ev_c rfl (by simp; omega) ?_
                       clear hS; intro w hS
                       try replace hS := St.nm (M' := [.blk _ _ [_, _, _, _, _, _, _, _, _, _], .vw _ _, .vw _ _, .vw _ _, .vw _ _, .blk _ _ [_, _, _, _, _, _, _, _, _, _, _], .blk _ _ [_, _, _, _, _, _, _, _, _, _, _], .vw _ _]) hS rfl
                       refine hK _ _ ?_; clear hK K
                       refine wl_nil ?_
                       refine then_n (hK35 _ _ ?_); clear hK35 K35
                       refine wp_seq_k ?_; intro K37 hK37
                       refine wlit ?_
                       refine wl_v (x_loadA (cs := [_, _, _, _, _, _, _, _, _, _, _]) Try.underlying35 rfl ts_35 (tmP rfl rfl) (rangeB hS.ok 5 rfl rfl)) ?_
                       refine wl_e rfl ?_; intro K hK
                       refine ow_storeA hS 6 rfl ts_35 (tmP rfl rfl) (tmA rfl rfl) rfl rfl rfl ?_
                       clear hS; intro w hS
                       try replace hS := St.nm (M' := [.blk _ _ [_, _, _, _, _, _, _, _, _, _], .vw _ _, .vw _ _, .vw _ _, .vw _ _, .blk _ _ [_, _, _, _, _, _, _, _, _, _, _], .blk _ _ [_, _, _, _, _, _, _, _, _, _, _], .vw _ _]) hS rfl
                       refine hK _ _ ?_; clear hK K
                       refine wl_v (x_assign ev_c) ?_
                       refine wl_nil ?_
                       refine then_n (hK37 _ _ ?_); clear hK37 K37
                       refine wp_ret ?_
                       refine ret2 rfl (.cell rfl rfl (load_rowB (cs := [_, _, _, _, _, _, _, _, _, _, _]) hS.ok 6 rfl Try.underlying35 rfl ts_35 rfl)) (.tmp rfl (show _ = Value.bool _ from rfl)) ?_
                       first
                         | (have h6 : pr = 6 := by first | omega | (simp at hg16_2; omega)
                            have h0 : er = 0 := by first | omega | (simp at hg16_6; omega)
                            obtain ⟨e1, e2⟩ := sv_yes (pr := pr) h6 ⟨(st_some h0 hst).2, (st_some h0 hst).1⟩
                            rw [e1, e2]
                            first | exact ⟨rfl, hS.kp⟩ | exact ⟨by rw [six_ad, six_ad]; rfl, hS.kp⟩)
                         | (have h6 : pr ≠ 6 := by first | omega | (simp at hg16_2; omega)
                            obtain ⟨e1, e2⟩ := sv_udp (o := o) (er := er) h6
                            rw [e1, e2]
                            first | exact ⟨rfl, hS.kp⟩ | exact ⟨by rw [six_ad, six_ad]; rfl, hS.kp⟩)
                         | (have h0 : er ≠ 0 := by first | omega | (simp at hg16_6; omega)
                            obtain ⟨e1, e2⟩ := sv_no (pr := pr) ⟨(st_bad (o := o) h0).2, (st_bad (o := o) h0).1⟩
                            rw [e1, e2]
                            first | exact ⟨rfl, hS.kp⟩ | exact ⟨by rw [six_ad, six_ad]; rfl, hS.kp⟩)
                    all_goals
                     try simp only [nrm] at hc3
                     refine wp_skip ?_
                     refine then_n (hK35 _ _ ?_); clear hK35 K35
                     refine wp_seq_k ?_; intro K39 hK39
                     refine wlit ?_
                     refine wl_v (x_loadA (cs := [_, _, _, _, _, _, _, _, _, _, _]) Try.underlying35 rfl ts_35 (tmP rfl rfl) (rangeB hS.ok 5 rfl rfl)) ?_
                     refine wl_e rfl ?_; intro K hK
                     refine ow_storeA hS 6 rfl ts_35 (tmP rfl rfl) (tmA rfl rfl) rfl rfl rfl ?_
                     clear hS; intro w hS
                     try replace hS := St.nm (M' := [.blk _ _ [_, _, _, _, _, _, _, _, _, _], .vw _ _, .vw _ _, .vw _ _, .vw _ _, .blk _ _ [_, _, _, _, _, _, _, _, _, _, _], .blk _ _ [_, _, _, _, _, _, _, _, _, _, _], .vw _ _]) hS rfl
                     refine hK _ _ ?_; clear hK K
                     refine wl_v (x_assign ev_c) ?_
                     refine wl_nil ?_
                     refine then_n (hK39 _ _ ?_); clear hK39 K39
                     refine wp_ret ?_
                     refine ret2 rfl (.cell rfl rfl (load_rowB (cs := [_, _, _, _, _, _, _, _, _, _, _]) hS.ok 6 rfl Try.underlying35 rfl ts_35 rfl)) (.tmp rfl (show _ = Value.bool _ from rfl)) ?_
                     first
                       | (have h6 : pr = 6 := by first | omega | (simp at hg16_2; omega)
                          have h0 : er = 0 := by first | omega | (simp at hg16_6; omega)
                          obtain ⟨e1, e2⟩ := sv_yes (pr := pr) h6 ⟨(st_some h0 hst).2, (st_some h0 hst).1⟩
                          rw [e1, e2]
                          first | exact ⟨rfl, hS.kp⟩ | exact ⟨by rw [six_ad, six_ad]; rfl, hS.kp⟩)
                       | (have h6 : pr ≠ 6 := by first | omega | (simp at hg16_2; omega)
                          obtain ⟨e1, e2⟩ := sv_udp (o := o) (er := er) h6
                          rw [e1, e2]
                          first | exact ⟨rfl, hS.kp⟩ | exact ⟨by rw [six_ad, six_ad]; rfl, hS.kp⟩)
                       | (have h0 : er ≠ 0 := by first | omega | (simp at hg16_6; omega)
                          obtain ⟨e1, e2⟩ := sv_no (pr := pr) ⟨(st_bad (o := o) h0).2, (st_bad (o := o) h0).1⟩
                          rw [e1, e2]
                          first | exact ⟨rfl, hS.kp⟩ | exact ⟨by rw [six_ad, six_ad]; rfl, hS.kp⟩)
                 have hg16_6' := hg16_6; (try simp only [nrm] at hg16_6')
                 all_goals
                  refine wl_s rfl (want_n rfl rfl rfl rfl (by rw [hg16_6]; rfl)) ?_
                  refine wl_s rfl (want_n rfl rfl rfl rfl (by rw [hg16_6]; rfl)) ?_
                  refine wl_v (x_pickF (tmB rfl rfl) hg16_6 ev_c) ?_
                  refine wl_nil ?_
                  refine then_n (hK36 _ _ ?_); clear hK36 K36
                  refine cnd_f (tmB rfl rfl) rfl ?_
                  refine wp_skip ?_
                  refine then_n (hK35 _ _ ?_); clear hK35 K35
                  refine wp_seq_k ?_; intro K41 hK41
                  refine wlit ?_
                  refine wl_v (x_loadA (cs := [_, _, _, _, _, _, _, _, _, _, _]) Try.underlying35 rfl ts_35 (tmP rfl rfl) (rangeB hS.ok 5 rfl rfl)) ?_
                  refine wl_e rfl ?_; intro K hK
                  refine ow_storeA hS 6 rfl ts_35 (tmP rfl rfl) (tmA rfl rfl) rfl rfl rfl ?_
                  clear hS; intro w hS
                  try replace hS := St.nm (M' := [.blk _ _ [_, _, _, _, _, _, _, _, _, _], .vw _ _, .vw _ _, .vw _ _, .vw _ _, .blk _ _ [_, _, _, _, _, _, _, _, _, _, _], .blk _ _ [_, _, _, _, _, _, _, _, _, _, _], .vw _ _]) hS rfl
                  refine hK _ _ ?_; clear hK K
                  refine wl_v (x_assign ev_c) ?_
                  refine wl_nil ?_
                  refine then_n (hK41 _ _ ?_); clear hK41 K41
                  refine wp_ret ?_
                  refine ret2 rfl (.cell rfl rfl (load_rowB (cs := [_, _, _, _, _, _, _, _, _, _, _]) hS.ok 6 rfl Try.underlying35 rfl ts_35 rfl)) (.tmp rfl (show _ = Value.bool _ from rfl)) ?_
                  first
                    | (have h6 : pr = 6 := by first | omega | (simp at hg16_2; omega)
                       have h0 : er = 0 := by first | omega | (simp at hg16_6; omega)
                       obtain ⟨e1, e2⟩ := sv_yes (pr := pr) h6 ⟨(st_some h0 hst).2, (st_some h0 hst).1⟩
                       rw [e1, e2]
                       first | exact ⟨rfl, hS.kp⟩ | exact ⟨by rw [six_ad, six_ad]; rfl, hS.kp⟩)
                    | (have h6 : pr ≠ 6 := by first | omega | (simp at hg16_2; omega)
                       obtain ⟨e1, e2⟩ := sv_udp (o := o) (er := er) h6
                       rw [e1, e2]
                       first | exact ⟨rfl, hS.kp⟩ | exact ⟨by rw [six_ad, six_ad]; rfl, hS.kp⟩)
                    | (have h0 : er ≠ 0 := by first | omega | (simp at hg16_6; omega)
                       obtain ⟨e1, e2⟩ := sv_no (pr := pr) ⟨(st_bad (o := o) h0).2, (st_bad (o := o) h0).1⟩
                       rw [e1, e2]
                       first | exact ⟨rfl, hS.kp⟩ | exact ⟨by rw [six_ad, six_ad]; rfl, hS.kp⟩)
              have hg16_2' := hg16_2; (try simp only [nrm] at hg16_2')
              all_goals
               refine wl_s rfl (want_n rfl rfl rfl rfl (by rw [hg16_2]; rfl)) ?_
               refine wl_s rfl (want_n rfl rfl rfl rfl (by rw [hg16_2]; rfl)) ?_
               refine wl_v (x_pickF (tmB rfl rfl) hg16_2 ev_c) ?_
               refine wl_v (x_move (tmB rfl rfl)) ?_
               refine wl_s rfl (want_n rfl rfl rfl rfl rfl) ?_
               refine wl_s rfl (want_n rfl rfl rfl rfl rfl) ?_
               refine wl_v (x_pickF (tmB rfl rfl) rfl ev_c) ?_
               refine wl_nil ?_
               refine then_n (hK36 _ _ ?_); clear hK36 K36
               refine cnd_f (tmB rfl rfl) rfl ?_
               refine wp_skip ?_
               refine then_n (hK35 _ _ ?_); clear hK35 K35
               refine wp_seq_k ?_; intro K43 hK43
               refine wlit ?_
               refine wl_v (x_loadA (cs := [_, _, _, _, _, _, _, _, _, _, _]) Try.underlying35 rfl ts_35 (tmP rfl rfl) (rangeB hS.ok 5 rfl rfl)) ?_
               refine wl_e rfl ?_; intro K hK
               refine ow_storeA hS 6 rfl ts_35 (tmP rfl rfl) (tmA rfl rfl) rfl rfl rfl ?_
               clear hS; intro w hS
               try replace hS := St.nm (M' := [.blk _ _ [_, _, _, _, _, _, _, _, _, _], .vw _ _, .vw _ _, .vw _ _, .vw _ _, .blk _ _ [_, _, _, _, _, _, _, _, _, _, _], .blk _ _ [_, _, _, _, _, _, _, _, _, _, _], .vw _ _]) hS rfl
               refine hK _ _ ?_; clear hK K
               refine wl_v (x_assign ev_c) ?_
               refine wl_nil ?_
               refine then_n (hK43 _ _ ?_); clear hK43 K43
               refine wp_ret ?_
               refine ret2 rfl (.cell rfl rfl (load_rowB (cs := [_, _, _, _, _, _, _, _, _, _, _]) hS.ok 6 rfl Try.underlying35 rfl ts_35 rfl)) (.tmp rfl (show _ = Value.bool _ from rfl)) ?_
               first
                 | (have h6 : pr = 6 := by first | omega | (simp at hg16_2; omega)
                    have h0 : er = 0 := by first | omega | (simp at hg16_6; omega)
                    obtain ⟨e1, e2⟩ := sv_yes (pr := pr) h6 ⟨(st_some h0 hst).2, (st_some h0 hst).1⟩
                    rw [e1, e2]
                    first | exact ⟨rfl, hS.kp⟩ | exact ⟨by rw [six_ad, six_ad]; rfl, hS.kp⟩)
                 | (have h6 : pr ≠ 6 := by first | omega | (simp at hg16_2; omega)
                    obtain ⟨e1, e2⟩ := sv_udp (o := o) (er := er) h6
                    rw [e1, e2]
                    first | exact ⟨rfl, hS.kp⟩ | exact ⟨by rw [six_ad, six_ad]; rfl, hS.kp⟩)
                 | (have h0 : er ≠ 0 := by first | omega | (simp at hg16_6; omega)
                    obtain ⟨e1, e2⟩ := sv_no (pr := pr) ⟨(st_bad (o := o) h0).2, (st_bad (o := o) h0).1⟩
                    rw [e1, e2]
                    first | exact ⟨rfl, hS.kp⟩ | exact ⟨by rw [six_ad, six_ad]; rfl, hS.kp⟩)
         have hg6_20' := hg6_20; (try simp only [nrm] at hg6_20')
         all_goals
          refine wl_s rfl (want_n rfl rfl rfl rfl (by rw [hg6_20]; rfl)) ?_
          refine wl_s rfl (want_n rfl rfl rfl rfl (by rw [hg6_20]; rfl)) ?_
          refine wl_s rfl (want_n rfl rfl rfl rfl (by rw [hg6_20]; rfl)) ?_
          refine wl_s rfl (want_n rfl rfl rfl rfl (by rw [hg6_20]; rfl)) ?_
          refine wl_gv (want_y rfl rfl rfl rfl (by rw [hg6_17]; rfl)) (x_pickF (tmB rfl rfl) hg6_20 ev_c) ?_
          refine wl_v (x_pickF (tmB rfl rfl) hg6_17 (tmB rfl rfl)) ?_
          refine wl_v (x_move (tmB rfl rfl)) ?_
          refine wl_gv (want_y rfl rfl rfl rfl rfl) (x_move (tmI rfl rfl)) ?_
          refine wl_gv (want_y rfl rfl rfl rfl rfl) (x_neq (tmI rfl rfl) (ev_cN 6)) ?_
          refine wl_gv (want_y rfl rfl rfl rfl rfl) (x_move (tmB rfl rfl)) ?_
          refine gs_wl (tm (t := 64) rfl) (fun hg6_30 => ?_) (fun hg6_30 => ?_)
          · have hg6_30' := hg6_30; (try simp only [nrm] at hg6_30')
            all_goals
             refine wl_gv (want_y rfl rfl rfl rfl (by rw [hg6_30]; rfl)) (x_move (tmI rfl rfl)) ?_
             refine wl_gv (want_y rfl rfl rfl rfl (by rw [hg6_30]; rfl)) (x_neq (tmI rfl rfl) (ev_cN 17)) ?_
             refine wl_gv (want_y rfl rfl rfl rfl rfl) (x_pickT (tmB rfl rfl) hg6_30 (tmB rfl rfl)) ?_
             refine wl_v (x_pickF (tmB rfl rfl) rfl (tmB rfl rfl)) ?_
             refine wl_nil ?_
             refine then_n (hK8 _ _ ?_); clear hK8 K8
             refine cnd (tm rfl) (fun hc2 => ?_) (fun hc2 => ?_)
             · exfalso
               first | omega | (simp only [nrm] at hc2; omega)
             all_goals
              try simp only [nrm] at hc2
              refine wp_skip ?_
              refine then_n (hK7 _ _ ?_); clear hK7 K7
              refine wp_seq_k ?_; intro K45 hK45
              refine wlit ?_
              refine wl_v (x_build (bc_skipL [.bool false, .int .u64 0, .int .u64 0, .bool false, .int .u64 0, .int .u64 0, .int .u16 0, .int .u16 0, .int .u8 0] <| bc_skip (.int .u32 0) <| bc_skip (.bool false) <| bc_nil) (by kernel_rfl)) ?_
              refine wl_e rfl ?_; intro K hK
              refine ow_alloc hS tz_35 rfl ?_
              clear hS; intro g8_1 w hg8_1 hS
              refine hK _ _ ?_; clear hK K
              refine wl_e rfl ?_; intro K hK
              refine ow_storeA hS 0 rfl ts_35 (tmP rfl rfl) (tmA rfl rfl) rfl rfl rfl ?_
              clear hS; intro w hS
              try replace hS := St.nm (M' := [.blk _ _ [_, _, _, _, _, _, _, _, _, _, _], .blk _ _ [_, _, _, _, _, _, _, _, _, _, _], .vw _ _]) hS rfl
              refine hK _ _ ?_; clear hK K
              refine wl_nil ?_
              refine then_n (hK45 _ _ ?_); clear hK45 K45
              refine wp_seq_k ?_; intro K46 hK46
              refine wlit ?_
              refine wl_v (x_move (tmS rfl rfl)) ?_
              refine wl_v (x_move (tmI rfl rfl)) ?_
              refine wl_v (x_move (tmI rfl rfl)) ?_
              refine wl_v (x_move (tmI rfl rfl)) ?_
              refine wl_v (x_addN (tmI rfl rfl) (tmI rfl rfl) (fit_i64 (by omega))) ?_
              refine wl_v (x_sliceLH Try.underlying22 ts_5 (tmS rfl rfl) (tmI rfl rfl) (tmI rfl rfl) (by omega)) ?_
              replace hS := hS.cutb 2 8 16 rfl hc
              refine wl_e rfl ?_; intro K hK
              refine ow_call Try.func18 rfl rfl (evs_cons (tmS rfl rfl) <| evs_nil) (rad_of16_c _ _ _ _ (viewV hS.ok 0 rfl) (by rw [List.length_take, List.length_drop]; omega) (by omega) ((hb.drop _).take 16)) ?_
              rintro e w ⟨rfl, hk⟩
              refine ⟨_, rfl, ?_⟩
              replace hS := hS.kept hk
              clear hk
              refine hK _ _ ?_; clear hK K
              refine wl_v (x_move (tmT rfl rfl)) ?_
              refine wl_v (x_ext (tmT rfl rfl) rfl) ?_
              refine wl_v (x_ext (tmT rfl rfl) rfl) ?_
              refine wl_v (x_fa 0 Try.underlying35 rfl rfl ts_29 (tmP rfl rfl)) ?_
              refine wl_v (x_fa 0 Try.underlying29 rfl rfl ts_26 (tmP rfl rfl)) ?_
              refine wl_e rfl ?_; intro K hK
              refine ow_storeA hS 1 rfl ts_26 (tmP rfl rfl) (tmA rfl rfl) rfl rfl rfl ?_
              clear hS; intro w hS
              try replace hS := St.nm (M' := [.vw _ _, .blk _ _ [_, _, _, _, _, _, _, _, _, _, _], .blk _ _ [_, _, _, _, _, _, _, _, _, _, _], .vw _ _]) hS rfl
              refine hK _ _ ?_; clear hK K
              refine wl_nil ?_
              refine then_n (hK46 _ _ ?_); clear hK46 K46
              refine wp_seq_k ?_; intro K47 hK47
              refine wlit ?_
              refine wl_v (x_move (tmS rfl rfl)) ?_
              refine wl_v (x_move (tmI rfl rfl)) ?_
              refine wl_v (x_move (tmI rfl rfl)) ?_
              refine wl_v (x_addN (tmI rfl rfl) (tmI rfl rfl) (fit_i64 (by omega))) ?_
              refine wl_v (x_move (tmI rfl rfl)) ?_
              refine wl_v (x_move (tmI rfl rfl)) ?_
              refine wl_v (x_mulN (ev_cN 2) (tmI rfl rfl) (fit_i64 (by omega))) ?_
              refine wl_v (x_addN (tmI rfl rfl) (tmI rfl rfl) (fit_i64 (by omega))) ?_
              refine wl_v (x_sliceLH Try.underlying22 ts_5 (tmS rfl rfl) (tmI rfl rfl) (tmI rfl rfl) (by omega)) ?_
              replace hS := hS.cutb 3 24 16 rfl hc
              refine wl_e rfl ?_; intro K hK
              refine ow_call Try.func18 rfl rfl (evs_cons (tmS rfl rfl) <| evs_nil) (rad_of16_c _ _ _ _ (viewV hS.ok 0 rfl) (by rw [List.length_take, List.length_drop]; omega) (by omega) ((hb.drop _).take 16)) ?_
              rintro e w ⟨rfl, hk⟩
              refine ⟨_, rfl, ?_⟩
              replace hS := hS.kept hk
              clear hk
              refine hK _ _ ?_; clear hK K
              refine wl_v (x_move (tmT rfl rfl)) ?_
              refine wl_v (x_ext (tmT rfl rfl) rfl) ?_
              refine wl_v (x_ext (tmT rfl rfl) rfl) ?_
              refine wl_v (x_fa 0 Try.underlying35 rfl rfl ts_29 (tmP rfl rfl)) ?_
              refine wl_v (x_fa 3 Try.underlying29 rfl rfl ts_26 (tmP rfl rfl)) ?_
              refine wl_e rfl ?_; intro K hK
              refine ow_storeA hS 2 rfl ts_26 (tmP rfl rfl) (tmA rfl rfl) rfl rfl rfl ?_
              clear hS; intro w hS
              try replace hS := St.nm (M' := [.vw _ _, .vw _ _, .blk _ _ [_, _, _, _, _, _, _, _, _, _, _], .blk _ _ [_, _, _, _, _, _, _, _, _, _, _], .vw _ _]) hS rfl
              refine hK _ _ ?_; clear hK K
              refine wl_nil ?_
              refine then_n (hK47 _ _ ?_); clear hK47 K47
              refine wp_seq_k ?_; intro K48 hK48
              refine wlit ?_
              refine wl_v (x_move (tmI rfl rfl)) ?_
              refine wl_v (x_convN Try.underlying3 Try.underlying5 (tmI rfl rfl) (fit_u8 (by omega))) ?_
              refine wl_v (x_fa 0 Try.underlying35 rfl rfl ts_29 (tmP rfl rfl)) ?_
              refine wl_v (x_fa 8 Try.underlying29 rfl rfl ts_5 (tmP rfl rfl)) ?_
              refine wl_e rfl ?_; intro K hK
              refine ow_store hS 2 rfl ts_5 (tmP rfl rfl) (tmI rfl rfl) rfl rfl ?_
              clear hS; intro w hS
              try replace hS := St.nm (M' := [.vw _ _, .vw _ _, .blk _ _ [_, _, _, _, _, _, _, _, _, _, _], .blk _ _ [_, _, _, _, _, _, _, _, _, _, _], .vw _ _]) hS rfl
              refine hK _ _ ?_; clear hK K
              refine wl_nil ?_
              refine then_n (hK48 _ _ ?_); clear hK48 K48
              refine wp_seq_k ?_; intro K49 hK49
              refine wlit ?_
              refine wl_v (x_move (tmS rfl rfl)) ?_
              refine wl_v (x_move (tmI rfl rfl)) ?_
              refine wl_e rfl ?_; intro K hK
              refine ow_call Try.func17 rfl rfl (evs_cons (tmS rfl rfl) <| evs_cons (tmI rfl rfl) <| evs_cons (ev_cN 2) <| evs_nil) (get_c l.length _ c l 40 2 _ (viewV hS.ok 4 rfl) rfl hc (by omega) hb (by omega) (by omega)) ?_
              rintro e w ⟨rfl, hk⟩
              refine ⟨_, rfl, ?_⟩
              replace hS := hS.kept hk
              clear hk
              refine hK _ _ ?_; clear hK K
              refine wl_v (x_convN Try.underlying24 Try.underlying27 (tmI rfl rfl) (fit_u16 (by omega))) ?_
              refine wl_v (x_fa 0 Try.underlying35 rfl rfl ts_29 (tmP rfl rfl)) ?_
              refine wl_v (x_fa 6 Try.underlying29 rfl rfl ts_27 (tmP rfl rfl)) ?_
              refine wl_e rfl ?_; intro K hK
              refine ow_store hS 2 rfl ts_27 (tmP rfl rfl) (tmI rfl rfl) rfl rfl ?_
              clear hS; intro w hS
              try replace hS := St.nm (M' := [.vw _ _, .vw _ _, .blk _ _ [_, _, _, _, _, _, _, _, _, _, _], .blk _ _ [_, _, _, _, _, _, _, _, _, _, _], .vw _ _]) hS rfl
              refine hK _ _ ?_; clear hK K
              refine wl_nil ?_
              refine then_n (hK49 _ _ ?_); clear hK49 K49
              refine wp_seq_k ?_; intro K50 hK50
              refine wlit ?_
              refine wl_v (x_move (tmS rfl rfl)) ?_
              refine wl_v (x_move (tmI rfl rfl)) ?_
              refine wl_v (x_addN (tmI rfl rfl) (ev_cN 2) (fit_i64 (by omega))) ?_
              refine wl_e rfl ?_; intro K hK
              refine ow_call Try.func17 rfl rfl (evs_cons (tmS rfl rfl) <| evs_cons (tmI rfl rfl) <| evs_cons (ev_cN 2) <| evs_nil) (get_c l.length _ c l (40 + 2) 2 _ (viewV hS.ok 4 rfl) rfl hc (by omega) hb (by omega) (by omega)) ?_
              rintro e w ⟨rfl, hk⟩
              refine ⟨_, rfl, ?_⟩
              replace hS := hS.kept hk
              clear hk
              refine hK _ _ ?_; clear hK K
              refine wl_v (x_convN Try.underlying24 Try.underlying27 (tmI rfl rfl) (fit_u16 (by omega))) ?_
              refine wl_v (x_fa 0 Try.underlying35 rfl rfl ts_29 (tmP rfl rfl)) ?_
              refine wl_v (x_fa 7 Try.underlying29 rfl rfl ts_27 (tmP rfl rfl)) ?_
              refine wl_e rfl ?_; intro K hK
              refine ow_store hS 2 rfl ts_27 (tmP rfl rfl) (tmI rfl rfl) rfl rfl ?_
              clear hS; intro w hS
              try replace hS := St.nm (M' := [.vw _ _, .vw _ _, .blk _ _ [_, _, _, _, _, _, _, _, _, _, _], .blk _ _ [_, _, _, _, _, _, _, _, _, _, _], .vw _ _]) hS rfl
              refine hK _ _ ?_; clear hK K
              refine wl_nil ?_
              refine then_n (hK50 _ _ ?_); clear hK50 K50
              refine wp_seq_k ?_; intro K51 hK51
              refine wlit ?_
              refine wl_v (x_move (tmS rfl rfl)) ?_
              refine wl_v (x_move (tmI rfl rfl)) ?_
              refine wl_v (x_sliceL Try.underlying22 ts_5 (tmS rfl rfl) (tmI rfl rfl) (by omega)) ?_
              replace hS := hS.dropb 4 40 rfl hc
              refine wl_e rfl ?_; intro K hK
              refine ow_call Try.func19 rfl rfl (evs_cons (tmS rfl rfl) <| evs_nil) (hP.at_ hlx _ _ _ (viewV hS.ok 0 rfl) (by omega)) ?_
              rintro e w ⟨a1, a2, a3, a4, a5, a6, a7, a8, O, co, X, k, cx, rfl, hco, hn, hk⟩
              refine ⟨_, rfl, ?_⟩
              replace hS := hS.addn hk hn -- +vo
              clear hn hk
              refine hK _ _ ?_; clear hK K
              refine wl_v (x_move (tmT rfl rfl)) ?_
              refine wl_v (x_ext (tmT rfl rfl) rfl) ?_
              refine wl_v (x_ext (tmT rfl rfl) rfl) ?_
              refine wl_e rfl ?_; intro K hK
              refine ow_alloc hS tz_40 rfl ?_
              clear hS; intro g14_7 w hg14_7 hS
              refine hK _ _ ?_; clear hK K
              refine wl_e rfl ?_; intro K hK
              refine ow_storeA hS 0 rfl ts_40 (tmP rfl rfl) (tmA rfl rfl) rfl rfl rfl ?_
              clear hS; intro w hS
              try replace hS := St.nm (M' := [.blk _ _ [_, _, _, _, _, _, _, _, _, _], .vw _ _, .vw _ _, .vw _ _, .vw _ _, .blk _ _ [_, _, _, _, _, _, _, _, _, _, _], .blk _ _ [_, _, _, _, _, _, _, _, _, _, _], .vw _ _]) hS rfl
              refine hK _ _ ?_; clear hK K
              refine wl_v (x_assign (tmI rfl rfl)) ?_
              refine wl_nil ?_
              refine then_n (hK51 _ _ ?_); clear hK51 K51
              refine wp_seq_k ?_; intro K52 hK52
              refine wlit ?_
              refine wl_v (x_fa 8 Try.underlying40 rfl rfl ts_22 (tmP rfl rfl)) ?_
              refine wl_v (x_load Try.underlying22 rfl (tmP rfl rfl) (cellB hS.ok 0 rfl rfl)) ?_
              refine wl_e rfl ?_; intro K hK
              refine ow_call Try.func20 rfl rfl (evs_cons (tmS rfl rfl) <| evs_nil) (rstamps_some_c o.length O co o q _ (viewV hS.ok 1 rfl) rfl hob (by omega) hst) ?_
              rintro e w ⟨rfl, hk⟩
              refine ⟨_, rfl, ?_⟩
              replace hS := hS.kept hk
              clear hk
              refine hK _ _ ?_; clear hK K
              refine wl_v (x_assign (tmI rfl rfl)) ?_
              refine wl_nil ?_
              refine then_n (hK52 _ _ ?_); clear hK52 K52
              refine wp_seq_k ?_; intro K53 hK53
              refine wp_seq_k ?_; intro K54 hK54
              refine wlit ?_
              refine wl_v (x_move (tmI rfl rfl)) ?_
              refine wl_v (x_eql (tmI rfl rfl) (ev_cN 6)) ?_
              refine wl_v (x_move (tmB rfl rfl)) ?_
              refine gs_wl (tm (t := 127) rfl) (fun hg16_2 => ?_) (fun hg16_2 => ?_)
              · have hg16_2' := hg16_2; (try simp only [nrm] at hg16_2'); try (exfalso; first | with_reducible exact absurd hg16_2 Bool.false_ne_true | with_reducible exact absurd hg16_2.symm Bool.false_ne_true | omega | (simp at hg16_2; done))
                all_goals
                 refine wl_gv (want_y rfl rfl rfl rfl (by rw [hg16_2]; rfl)) (x_move (tmI rfl rfl)) ?_
                 refine wl_gv (want_y rfl rfl rfl rfl (by rw [hg16_2]; rfl)) (x_eql (tmI rfl rfl) (ev_cN 0)) ?_
                 refine wl_v (x_pickT (tmB rfl rfl) hg16_2 (tmB rfl rfl)) ?_
                 refine wl_v (x_move (tmB rfl rfl)) ?_
                 refine gs_wl (tm (t := 131) rfl) (fun hg16_6 => ?_) (fun hg16_6 => ?_)
                 · have hg16_6' := hg16_6; (try simp only [nrm] at hg16_6')
                   all_goals
                    refine wl_gv (want_y rfl rfl rfl rfl (by rw [hg16_6]; rfl)) (x_move (tmI rfl rfl)) ?_
                    refine wl_gv (want_y rfl rfl rfl rfl (by rw [hg16_6]; rfl)) (x_geq (tmI rfl rfl) (ev_cN 0)) ?_
                    refine wl_v (x_pickT (tmB rfl rfl) hg16_6 (tmB rfl rfl)) ?_
                    refine wl_nil ?_
                    refine then_n (hK54 _ _ ?_); clear hK54 K54
                    refine cnd (tm rfl) (fun hc3 => ?_) (fun hc3 => ?_)
                    · skip
                      all_goals
                       try simp only [nrm] at hc3
                       refine wlit ?_
                       refine wl_v (x_fa 8 Try.underlying40 rfl rfl ts_22 (tmP rfl rfl)) ?_
                       first
                        | refine wl_v (x_load Try.underlying22 rfl (tmP rfl rfl) (cellB hS.ok 0 rfl rfl)) ?_
                        | refine wl_v (x_load Try.underlying22 rfl (tmP rfl rfl) (cellB hS.ok 0 rfl (getm (by omega)))) ?_
                       refine wl_v (x_move (tmI rfl rfl)) ?_
                       refine wl_e rfl ?_; intro K hK
                       refine ow_call Try.func17 rfl rfl (evs_cons (tmS rfl rfl) <| evs_cons (tmI rfl rfl) <| evs_cons (ev_cN 4) <| evs_nil) (get_c o.length O co o q 4 _ (viewV hS.ok 1 rfl) rfl hco (by omega) hob (by omega) (by omega)) ?_
                       rintro e w ⟨rfl, hk⟩
                       refine ⟨_, rfl, ?_⟩
                       replace hS := hS.kept hk
                       clear hk
                       refine hK _ _ ?_; clear hK K
                       first
                        | refine wl_v (x_convN Try.underlying24 Try.underlying30 (tmI rfl rfl) (fit_u32 (by omega))) ?_
                        | refine wl_v (x_convU Try.underlying24 Try.underlying30 (tmI rfl rfl) rfl) ?_
                        | refine wl_v (x_conv Try.underlying24 Try.underlying30 (tmI rfl rfl)) ?_
                       refine wl_v (x_fa 9 Try.underlying35 rfl rfl ts_30 (tmP rfl rfl)) ?_
                       refine wl_e rfl ?_; intro K hK
                       first
                        | refine ow_store hS 5 rfl ts_30 (tmP rfl rfl) (tmI rfl rfl) rfl rfl ?_
                        | refine ow_storeX hS 5 rfl ts_30 (tmP rfl rfl) (tmI rfl rfl) rfl (by simp; omega) ?_
                       clear hS; intro w hS
                       try replace hS := St.nm (M' := [.blk _ _ [_, _, _, _, _, _, _, _, _, _], .vw _ _, .vw _ _, .vw _ _, .vw _ _, .blk _ _ [_, _, _, _, _, _, _, _, _, _, _], .blk _ _ [_, _, _, _, _, _, _, _, _, _, _], .vw _ _]) hS rfl
                       refine hK _ _ ?_; clear hK K
                       refine wl_v (x_fa 10 Try.underlying35 rfl rfl ts_4 (tmP rfl rfl)) ?_
                       refine wl_e rfl ?_; intro K hK
                       first
                        | refine ow_store hS 5 rfl ts_4 (tmP rfl rfl) ev_c rfl rfl ?_
                        | refine ow_storeX hS 5 rfl ts_4 (tmP rfl rfl) ev_c rfl (by simp; omega) ?_
                       clear hS; intro w hS
                       try replace hS := St.nm (M' := [.blk _ _ [_, _, _, _, _, _, _, _, _, _], .vw _ _, .vw _ _, .vw _ _, .vw _ _, .blk _ _ [_, _, _, _, _, _, _, _, _, _, _], .blk _ _ [_, _, _, _, _, _, _, _, _, _, _], .vw _ _]) hS rfl
                       refine hK _ _ ?_; clear hK K
                       refine wl_nil ?_
                       refine then_n (hK53 _ _ ?_); clear hK53 K53
                       refine wp_seq_k ?_; intro K55 hK55
                       refine wlit ?_
                       refine wl_v (x_loadA (cs := [_, _, _, _, _, _, _, _, _, _, _]) Try.underlying35 rfl ts_35 (tmP rfl rfl) (rangeB hS.ok 5 rfl rfl)) ?_
                       refine wl_e rfl ?_; intro K hK
                       refine ow_storeA hS 6 rfl ts_35 (tmP rfl rfl) (tmA rfl rfl) rfl rfl rfl ?_
                       clear hS; intro w hS
                       try replace hS := St.nm (M' := [.blk _ _ [_, _, _, _, _, _, _, _, _, _], .vw _ _, .vw _ _, .vw _ _, .vw _ _, .blk _ _ [_, _, _, _, _, _, _, _, _, _, _], .blk _ _ [_, _, _, _, _, _, _, _, _, _, _], .vw _ _]) hS rfl
                       refine hK _ _ ?_; clear hK K
                       refine wl_v (x_assign ev_c) ?_
                       refine wl_nil ?_
                       refine then_n (hK55 _ _ ?_); clear hK55 K55
                       refine wp_ret ?_
                       refine ret2 rfl (.cell rfl rfl (load_rowB (cs := [_, _, _, _, _, _, _, _, _, _, _]) hS.ok 6 rfl Try.underlying35 rfl ts_35 rfl)) (.tmp rfl (show _ = Value.bool _ from rfl)) ?_
                       first
                         | (have h6 : pr = 6 := by first | omega | (simp at hg16_2; omega)
                            have h0 : er = 0 := by first | omega | (simp at hg16_6; omega)
                            obtain ⟨e1, e2⟩ := sv_yes (pr := pr) h6 ⟨(st_some h0 hst).2, (st_some h0 hst).1⟩
                            rw [e1, e2]
                            first | exact ⟨rfl, hS.kp⟩ | exact ⟨by rw [six_ad, six_ad]; rfl, hS.kp⟩)
                         | (have h6 : pr ≠ 6 := by first | omega | (simp at hg16_2; omega)
                            obtain ⟨e1, e2⟩ := sv_udp (o := o) (er := er) h6
                            rw [e1, e2]
                            first | exact ⟨rfl, hS.kp⟩ | exact ⟨by rw [six_ad, six_ad]; rfl, hS.kp⟩)
                         | (have h0 : er ≠ 0 := by first | omega | (simp at hg16_6; omega)
                            obtain ⟨e1, e2⟩ := sv_no (pr := pr) ⟨(st_bad (o := o) h0).2, (st_bad (o := o) h0).1⟩
                            rw [e1, e2]
                            first | exact ⟨rfl, hS.kp⟩ | exact ⟨by rw [six_ad, six_ad]; rfl, hS.kp⟩)
                    all_goals
                     try simp only [nrm] at hc3
                     refine wp_skip ?_
                     refine then_n (hK53 _ _ ?_); clear hK53 K53
                     refine wp_seq_k ?_; intro K57 hK57
                     refine wlit ?_
                     refine wl_v (x_loadA (cs := [_, _, _, _, _, _, _, _, _, _, _]) Try.underlying35 rfl ts_35 (tmP rfl rfl) (rangeB hS.ok 5 rfl rfl)) ?_
                     refine wl_e rfl ?_; intro K hK
                     refine ow_storeA hS 6 rfl ts_35 (tmP rfl rfl) (tmA rfl rfl) rfl rfl rfl ?_
                     clear hS; intro w hS
                     try replace hS := St.nm (M' := [.blk _ _ [_, _, _, _, _, _, _, _, _, _], .vw _ _, .vw _ _, .vw _ _, .vw _ _, .blk _ _ [_, _, _, _, _, _, _, _, _, _, _], .blk _ _ [_, _, _, _, _, _, _, _, _, _, _], .vw _ _]) hS rfl
                     refine hK _ _ ?_; clear hK K
                     refine wl_v (x_assign ev_c) ?_
                     refine wl_nil ?_
                     refine then_n (hK57 _ _ ?_); clear hK57 K57
                     refine wp_ret ?_
                     refine ret2 rfl (.cell rfl rfl (load_rowB (cs := [_, _, _, _, _, _, _, _, _, _, _]) hS.ok 6 rfl Try.underlying35 rfl ts_35 rfl)) (.tmp rfl (show _ = Value.bool _ from rfl)) ?_
                     first
                       | (have h6 : pr = 6 := by first | omega | (simp at hg16_2; omega)
                          have h0 : er = 0 := by first | omega | (simp at hg16_6; omega)
                          obtain ⟨e1, e2⟩ := sv_yes (pr := pr) h6 ⟨(st_some h0 hst).2, (st_some h0 hst).1⟩
                          rw [e1, e2]
                          first | exact ⟨rfl, hS.kp⟩ | exact ⟨by rw [six_ad, six_ad]; rfl, hS.kp⟩)
                       | (have h6 : pr ≠ 6 := by first | omega | (simp at hg16_2; omega)
                          obtain ⟨e1, e2⟩ := sv_udp (o := o) (er := er) h6
                          rw [e1, e2]
                          first | exact ⟨rfl, hS.kp⟩ | exact ⟨by rw [six_ad, six_ad]; rfl, hS.kp⟩)
                       | (have h0 : er ≠ 0 := by first | omega | (simp at hg16_6; omega)
                          obtain ⟨e1, e2⟩ := sv_no (pr := pr) ⟨(st_bad (o := o) h0).2, (st_bad (o := o) h0).1⟩
                          rw [e1, e2]
                          first | exact ⟨rfl, hS.kp⟩ | exact ⟨by rw [six_ad, six_ad]; rfl, hS.kp⟩)
                 have hg16_6' := hg16_6; (try simp only [nrm] at hg16_6')
                 all_goals
                  refine wl_s rfl (want_n rfl rfl rfl rfl (by rw [hg16_6]; rfl)) ?_
                  refine wl_s rfl (want_n rfl rfl rfl rfl (by rw [hg16_6]; rfl)) ?_
                  refine wl_v (x_pickF (tmB rfl rfl) hg16_6 ev_c) ?_
                  refine wl_nil ?_
                  refine then_n (hK54 _ _ ?_); clear hK54 K54
                  refine cnd_f (tmB rfl rfl) rfl ?_
                  refine wp_skip ?_
                  refine then_n (hK53 _ _ ?_); clear hK53 K53
                  refine wp_seq_k ?_; intro K59 hK59
                  refine wlit ?_
                  refine wl_v (x_loadA (cs := [_, _, _, _, _, _, _, _, _, _, _]) Try.underlying35 rfl ts_35 (tmP rfl rfl) (rangeB hS.ok 5 rfl rfl)) ?_
                  refine wl_e rfl ?_; intro K hK
                  refine ow_storeA hS 6 rfl ts_35 (tmP rfl rfl) (tmA rfl rfl) rfl rfl rfl ?_
                  clear hS; intro w hS
                  try replace hS := St.nm (M' := [.blk _ _ [_, _, _, _, _, _, _, _, _, _], .vw _ _, .vw _ _, .vw _ _, .vw _ _, .blk _ _ [_, _, _, _, _, _, _, _, _, _, _], .blk _ _ [_, _, _, _, _, _, _, _, _, _, _], .vw _ _]) hS rfl
                  refine hK _ _ ?_; clear hK K
                  refine wl_v (x_assign ev_c) ?_
                  refine wl_nil ?_
                  refine then_n (hK59 _ _ ?_); clear hK59 K59
                  refine wp_ret ?_
                  refine ret2 rfl (.cell rfl rfl (load_rowB (cs := [_, _, _, _, _, _, _, _, _, _, _]) hS.ok 6 rfl Try.underlying35 rfl ts_35 rfl)) (.tmp rfl (show _ = Value.bool _ from rfl)) ?_
                  first
                    | (have h6 : pr = 6 := by first | omega | (simp at hg16_2; omega)
                       have h0 : er = 0 := by first | omega | (simp at hg16_6; omega)
                       obtain ⟨e1, e2⟩ := sv_yes (pr := pr) h6 ⟨(st_some h0 hst).2, (st_some h0 hst).1⟩
                       rw [e1, e2]
                       first | exact ⟨rfl, hS.kp⟩ | exact ⟨by rw [six_ad, six_ad]; rfl, hS.kp⟩)
                    | (have h6 : pr ≠ 6 := by first | omega | (simp at hg16_2; omega)
                       obtain ⟨e1, e2⟩ := sv_udp (o := o) (er := er) h6
                       rw [e1, e2]
                       first | exact ⟨rfl, hS.kp⟩ | exact ⟨by rw [six_ad, six_ad]; rfl, hS.kp⟩)
                    | (have h0 : er ≠ 0 := by first | omega | (simp at hg16_6; omega)
                       obtain ⟨e1, e2⟩ := sv_no (pr := pr) ⟨(st_bad (o := o) h0).2, (st_bad (o := o) h0).1⟩
                       rw [e1, e2]
                       first | exact ⟨rfl, hS.kp⟩ | exact ⟨by rw [six_ad, six_ad]; rfl, hS.kp⟩)
              have hg16_2' := hg16_2; (try simp only [nrm] at hg16_2')
              all_goals
               refine wl_s rfl (want_n rfl rfl rfl rfl (by rw [hg16_2]; rfl)) ?_
               refine wl_s rfl (want_n rfl rfl rfl rfl (by rw [hg16_2]; rfl)) ?_
               refine wl_v (x_pickF (tmB rfl rfl) hg16_2 ev_c) ?_
               refine wl_v (x_move (tmB rfl rfl)) ?_
               refine wl_s rfl (want_n rfl rfl rfl rfl rfl) ?_
               refine wl_s rfl (want_n rfl rfl rfl rfl rfl) ?_
               refine wl_v (x_pickF (tmB rfl rfl) rfl ev_c) ?_
               refine wl_nil ?_
               refine then_n (hK54 _ _ ?_); clear hK54 K54
               refine cnd_f (tmB rfl rfl) rfl ?_
               refine wp_skip ?_
               refine then_n (hK53 _ _ ?_); clear hK53 K53
               refine wp_seq_k ?_; intro K61 hK61
               refine wlit ?_
               refine wl_v (x_loadA (cs := [_, _, _, _, _, _, _, _, _, _, _]) Try.underlying35 rfl ts_35 (tmP rfl rfl) (rangeB hS.ok 5 rfl rfl)) ?_
               refine wl_e rfl ?_; intro K hK
               refine ow_storeA hS 6 rfl ts_35 (tmP rfl rfl) (tmA rfl rfl) rfl rfl rfl ?_
               clear hS; intro w hS
               try replace hS := St.nm (M' := [.blk _ _ [_, _, _, _, _, _, _, _, _, _], .vw _ _, .vw _ _, .vw _ _, .vw _ _, .blk _ _ [_, _, _, _, _, _, _, _, _, _, _], .blk _ _ [_, _, _, _, _, _, _, _, _, _, _], .vw _ _]) hS rfl
               refine hK _ _ ?_; clear hK K
               refine wl_v (x_assign ev_c) ?_
               refine wl_nil ?_
               refine then_n (hK61 _ _ ?_); clear hK61 K61
               refine wp_ret ?_
               refine ret2 rfl (.cell rfl rfl (load_rowB (cs := [_, _, _, _, _, _, _, _, _, _, _]) hS.ok 6 rfl Try.underlying35 rfl ts_35 rfl)) (.tmp rfl (show _ = Value.bool _ from rfl)) ?_
               first
                 | (have h6 : pr = 6 := by first | omega | (simp at hg16_2; omega)
                    have h0 : er = 0 := by first | omega | (simp at hg16_6; omega)
                    obtain ⟨e1, e2⟩ := sv_yes (pr := pr) h6 ⟨(st_some h0 hst).2, (st_some h0 hst).1⟩
                    rw [e1, e2]
                    first | exact ⟨rfl, hS.kp⟩ | exact ⟨by rw [six_ad, six_ad]; rfl, hS.kp⟩)
                 | (have h6 : pr ≠ 6 := by first | omega | (simp at hg16_2; omega)
                    obtain ⟨e1, e2⟩ := sv_udp (o := o) (er := er) h6
                    rw [e1, e2]
                    first | exact ⟨rfl, hS.kp⟩ | exact ⟨by rw [six_ad, six_ad]; rfl, hS.kp⟩)
                 | (have h0 : er ≠ 0 := by first | omega | (simp at hg16_6; omega)
                    obtain ⟨e1, e2⟩ := sv_no (pr := pr) ⟨(st_bad (o := o) h0).2, (st_bad (o := o) h0).1⟩
                    rw [e1, e2]
                    first | exact ⟨rfl, hS.kp⟩ | exact ⟨by rw [six_ad, six_ad]; rfl, hS.kp⟩)
          have hg6_30' := hg6_30; (try simp only [nrm] at hg6_30')
          all_goals
           refine wl_s rfl (want_n rfl rfl rfl rfl (by rw [hg6_30]; rfl)) ?_
           refine wl_s rfl (want_n rfl rfl rfl rfl (by rw [hg6_30]; rfl)) ?_
           refine wl_gv (want_y rfl rfl rfl rfl rfl) (x_pickF (tmB rfl rfl) hg6_30 ev_c) ?_
           refine wl_v (x_pickF (tmB rfl rfl) rfl (tmB rfl rfl)) ?_
           refine wl_nil ?_
           refine then_n (hK8 _ _ ?_); clear hK8 K8
           refine cnd_f (tmB rfl rfl) rfl ?_
           refine wp_skip ?_
           refine then_n (hK7 _ _ ?_); clear hK7 K7
           refine wp_seq_k ?_; intro K63 hK63
           refine wlit ?_
           refine wl_v (x_build (bc_skipL [.bool false, .int .u64 0, .int .u64 0, .bool false, .int .u64 0, .int .u64 0, .int .u16 0, .int .u16 0, .int .u8 0] <| bc_skip (.int .u32 0) <| bc_skip (.bool false) <| bc_nil) (by kernel_rfl)) ?_
           refine wl_e rfl ?_; intro K hK
           refine ow_alloc hS tz_35 rfl ?_
           clear hS; intro g8_1 w hg8_1 hS
           refine hK _ _ ?_; clear hK K
           refine wl_e rfl ?_; intro K hK
           refine ow_storeA hS 0 rfl ts_35 (tmP rfl rfl) (tmA rfl rfl) rfl rfl rfl ?_
           clear hS; intro w hS
           try replace hS := St.nm (M' := [.blk _ _ [_, _, _, _, _, _, _, _, _, _, _], .blk _ _ [_, _, _, _, _, _, _, _, _, _, _], .vw _ _]) hS rfl
           refine hK _ _ ?_; clear hK K
           refine wl_nil ?_
           refine then_n (hK63 _ _ ?_); clear hK63 K63
           refine wp_seq_k ?_; intro K64 hK64
           refine wlit ?_
           refine wl_v (x_move (tmS rfl rfl)) ?_
           refine wl_v (x_move (tmI rfl rfl)) ?_
           refine wl_v (x_move (tmI rfl rfl)) ?_
           refine wl_v (x_move (tmI rfl rfl)) ?_
           refine wl_v (x_addN (tmI rfl rfl) (tmI rfl rfl) (fit_i64 (by omega))) ?_
           refine wl_v (x_sliceLH Try.underlying22 ts_5 (tmS rfl rfl) (tmI rfl rfl) (tmI rfl rfl) (by omega)) ?_
           replace hS := hS.cutb 2 8 16 rfl hc
           refine wl_e rfl ?_; intro K hK
           refine ow_call Try.func18 rfl rfl (evs_cons (tmS rfl rfl) <| evs_nil) (rad_of16_c _ _ _ _ (viewV hS.ok 0 rfl) (by rw [List.length_take, List.length_drop]; omega) (by omega) ((hb.drop _).take 16)) ?_
           rintro e w ⟨rfl, hk⟩
           refine ⟨_, rfl, ?_⟩
           replace hS := hS.kept hk
           clear hk
           refine hK _ _ ?_; clear hK K
           refine wl_v (x_move (tmT rfl rfl)) ?_
           refine wl_v (x_ext (tmT rfl rfl) rfl) ?_
           refine wl_v (x_ext (tmT rfl rfl) rfl) ?_
           refine wl_v (x_fa 0 Try.underlying35 rfl rfl ts_29 (tmP rfl rfl)) ?_
           refine wl_v (x_fa 0 Try.underlying29 rfl rfl ts_26 (tmP rfl rfl)) ?_
           refine wl_e rfl ?_; intro K hK
           refine ow_storeA hS 1 rfl ts_26 (tmP rfl rfl) (tmA rfl rfl) rfl rfl rfl ?_
           clear hS; intro w hS
           try replace hS := St.nm (M' := [.vw _ _, .blk _ _ [_, _, _, _, _, _, _, _, _, _, _], .blk _ _ [_, _, _, _, _, _, _, _, _, _, _], .vw _ _]) hS rfl
           refine hK _ _ ?_; clear hK K
           refine wl_nil ?_
           refine then_n (hK64 _ _ ?_); clear hK64 K64
           refine wp_seq_k ?_; intro K65 hK65
           refine wlit ?_
           refine wl_v (x_move (tmS rfl rfl)) ?_
           refine wl_v (x_move (tmI rfl rfl)) ?_
           refine wl_v (x_move (tmI rfl rfl)) ?_
           refine wl_v (x_addN (tmI rfl rfl) (tmI rfl rfl) (fit_i64 (by omega))) ?_
           refine wl_v (x_move (tmI rfl rfl)) ?_
           refine wl_v (x_move (tmI rfl rfl)) ?_
           refine wl_v (x_mulN (ev_cN 2) (tmI rfl rfl) (fit_i64 (by omega))) ?_
           refine wl_v (x_addN (tmI rfl rfl) (tmI rfl rfl) (fit_i64 (by omega))) ?_
           refine wl_v (x_sliceLH Try.underlying22 ts_5 (tmS rfl rfl) (tmI rfl rfl) (tmI rfl rfl) (by omega)) ?_
           replace hS := hS.cutb 3 24 16 rfl hc
           refine wl_e rfl ?_; intro K hK
           refine ow_call Try.func18 rfl rfl (evs_cons (tmS rfl rfl) <| evs_nil) (rad_of16_c _ _ _ _ (viewV hS.ok 0 rfl) (by rw [List.length_take, List.length_drop]; omega) (by omega) ((hb.drop _).take 16)) ?_
           rintro e w ⟨rfl, hk⟩
           refine ⟨_, rfl, ?_⟩
           replace hS := hS.kept hk
           clear hk
           refine hK _ _ ?_; clear hK K
           refine wl_v (x_move (tmT rfl rfl)) ?_
           refine wl_v (x_ext (tmT rfl rfl) rfl) ?_
           refine wl_v (x_ext (tmT rfl rfl) rfl) ?_
           refine wl_v (x_fa 0 Try.underlying35 rfl rfl ts_29 (tmP rfl rfl)) ?_
           refine wl_v (x_fa 3 Try.underlying29 rfl rfl ts_26 (tmP rfl rfl)) ?_
           refine wl_e rfl ?_; intro K hK
           refine ow_storeA hS 2 rfl ts_26 (tmP rfl rfl) (tmA rfl rfl) rfl rfl rfl ?_
           clear hS; intro w hS
           try replace hS := St.nm (M' := [.vw _ _, .vw _ _, .blk _ _ [_, _, _, _, _, _, _, _, _, _, _], .blk _ _ [_, _, _, _, _, _, _, _, _, _, _], .vw _ _]) hS rfl
           refine hK _ _ ?_; clear hK K
           refine wl_nil ?_
           refine then_n (hK65 _ _ ?_); clear hK65 K65
           refine wp_seq_k ?_; intro K66 hK66
           refine wlit ?_
           refine wl_v (x_move (tmI rfl rfl)) ?_
           refine wl_v (x_convN Try.underlying3 Try.underlying5 (tmI rfl rfl) (fit_u8 (by omega))) ?_
           refine wl_v (x_fa 0 Try.underlying35 rfl rfl ts_29 (tmP rfl rfl)) ?_
           refine wl_v (x_fa 8 Try.underlying29 rfl rfl ts_5 (tmP rfl rfl)) ?_
           refine wl_e rfl ?_; intro K hK
           refine ow_store hS 2 rfl ts_5 (tmP rfl rfl) (tmI rfl rfl) rfl rfl ?_
           clear hS; intro w hS
           try replace hS := St.nm (M' := [.vw _ _, .vw _ _, .blk _ _ [_, _, _, _, _, _, _, _, _, _, _], .blk _ _ [_, _, _, _, _, _, _, _, _, _, _], .vw _ _]) hS rfl
           refine hK _ _ ?_; clear hK K
           refine wl_nil ?_
           refine then_n (hK66 _ _ ?_); clear hK66 K66
           refine wp_seq_k ?_; intro K67 hK67
           refine wlit ?_
           refine wl_v (x_move (tmS rfl rfl)) ?_
           refine wl_v (x_move (tmI rfl rfl)) ?_
           refine wl_e rfl ?_; intro K hK
           refine ow_call Try.func17 rfl rfl (evs_cons (tmS rfl rfl) <| evs_cons (tmI rfl rfl) <| evs_cons (ev_cN 2) <| evs_nil) (get_c l.length _ c l 40 2 _ (viewV hS.ok 4 rfl) rfl hc (by omega) hb (by omega) (by omega)) ?_
           rintro e w ⟨rfl, hk⟩
           refine ⟨_, rfl, ?_⟩
           replace hS := hS.kept hk
           clear hk
           refine hK _ _ ?_; clear hK K
           refine wl_v (x_convN Try.underlying24 Try.underlying27 (tmI rfl rfl) (fit_u16 (by omega))) ?_
           refine wl_v (x_fa 0 Try.underlying35 rfl rfl ts_29 (tmP rfl rfl)) ?_
           refine wl_v (x_fa 6 Try.underlying29 rfl rfl ts_27 (tmP rfl rfl)) ?_
           refine wl_e rfl ?_; intro K hK
           refine ow_store hS 2 rfl ts_27 (tmP rfl rfl) (tmI rfl rfl) rfl rfl ?_
           clear hS; intro w hS
           try replace hS := St.nm (M' := [.vw _ _, .vw _ _, .blk _ _ [_, _, _, _, _, _, _, _, _, _, _], .blk _ _ [_, _, _, _, _, _, _, _, _, _, _], .vw _ _]) hS rfl
           refine hK _ _ ?_; clear hK K
           refine wl_nil ?_
           refine then_n (hK67 _ _ ?_); clear hK67 K67
           refine wp_seq_k ?_; intro K68 hK68
           refine wlit ?_
           refine wl_v (x_move (tmS rfl rfl)) ?_
           refine wl_v (x_move (tmI rfl rfl)) ?_
           refine wl_v (x_addN (tmI rfl rfl) (ev_cN 2) (fit_i64 (by omega))) ?_
           refine wl_e rfl ?_; intro K hK
           refine ow_call Try.func17 rfl rfl (evs_cons (tmS rfl rfl) <| evs_cons (tmI rfl rfl) <| evs_cons (ev_cN 2) <| evs_nil) (get_c l.length _ c l (40 + 2) 2 _ (viewV hS.ok 4 rfl) rfl hc (by omega) hb (by omega) (by omega)) ?_
           rintro e w ⟨rfl, hk⟩
           refine ⟨_, rfl, ?_⟩
           replace hS := hS.kept hk
           clear hk
           refine hK _ _ ?_; clear hK K
           refine wl_v (x_convN Try.underlying24 Try.underlying27 (tmI rfl rfl) (fit_u16 (by omega))) ?_
           refine wl_v (x_fa 0 Try.underlying35 rfl rfl ts_29 (tmP rfl rfl)) ?_
           refine wl_v (x_fa 7 Try.underlying29 rfl rfl ts_27 (tmP rfl rfl)) ?_
           refine wl_e rfl ?_; intro K hK
           refine ow_store hS 2 rfl ts_27 (tmP rfl rfl) (tmI rfl rfl) rfl rfl ?_
           clear hS; intro w hS
           try replace hS := St.nm (M' := [.vw _ _, .vw _ _, .blk _ _ [_, _, _, _, _, _, _, _, _, _, _], .blk _ _ [_, _, _, _, _, _, _, _, _, _, _], .vw _ _]) hS rfl
           refine hK _ _ ?_; clear hK K
           refine wl_nil ?_
           refine then_n (hK68 _ _ ?_); clear hK68 K68
           refine wp_seq_k ?_; intro K69 hK69
           refine wlit ?_
           refine wl_v (x_move (tmS rfl rfl)) ?_
           refine wl_v (x_move (tmI rfl rfl)) ?_
           refine wl_v (x_sliceL Try.underlying22 ts_5 (tmS rfl rfl) (tmI rfl rfl) (by omega)) ?_
           replace hS := hS.dropb 4 40 rfl hc
           refine wl_e rfl ?_; intro K hK
           refine ow_call Try.func19 rfl rfl (evs_cons (tmS rfl rfl) <| evs_nil) (hP.at_ hlx _ _ _ (viewV hS.ok 0 rfl) (by omega)) ?_
           rintro e w ⟨a1, a2, a3, a4, a5, a6, a7, a8, O, co, X, k, cx, rfl, hco, hn, hk⟩
           refine ⟨_, rfl, ?_⟩
           replace hS := hS.addn hk hn -- +vo
           clear hn hk
           refine hK _ _ ?_; clear hK K
           refine wl_v (x_move (tmT rfl rfl)) ?_
           refine wl_v (x_ext (tmT rfl rfl) rfl) ?_
           refine wl_v (x_ext (tmT rfl rfl) rfl) ?_
           refine wl_e rfl ?_; intro K hK
           refine ow_alloc hS tz_40 rfl ?_
           clear hS; intro g14_7 w hg14_7 hS
           refine hK _ _ ?_; clear hK K
           refine wl_e rfl ?_; intro K hK
           refine ow_storeA hS 0 rfl ts_40 (tmP rfl rfl) (tmA rfl rfl) rfl rfl rfl ?_
           clear hS; intro w hS
           try replace hS := St.nm (M' := [.blk _ _ [_, _, _, _, _, _, _, _, _, _], .vw _ _, .vw _ _, .vw _ _, .vw _ _, .blk _ _ [_, _, _, _, _, _, _, _, _, _, _], .blk _ _ [_, _, _, _, _, _, _, _, _, _, _], .vw _ _]) hS rfl
           refine hK _ _ ?_; clear hK K
           refine wl_v (x_assign (tmI rfl rfl)) ?_
           refine wl_nil ?_
           refine then_n (hK69 _ _ ?_); clear hK69 K69
           refine wp_seq_k ?_; intro K70 hK70
           refine wlit ?_
           refine wl_v (x_fa 8 Try.underlying40 rfl rfl ts_22 (tmP rfl rfl)) ?_
           refine wl_v (x_load Try.underlying22 rfl (tmP rfl rfl) (cellB hS.ok 0 rfl rfl)) ?_
           refine wl_e rfl ?_; intro K hK
           refine ow_call Try.func20 rfl rfl (evs_cons (tmS rfl rfl) <| evs_nil) (rstamps_some_c o.length O co o q _ (viewV hS.ok 1 rfl) rfl hob (by omega) hst) ?_
           rintro e w ⟨rfl, hk⟩
           refine ⟨_, rfl, ?_⟩
           replace hS := hS.kept hk
           clear hk
           refine hK _ _ ?_; clear hK K
           refine wl_v (x_assign (tmI rfl rfl)) ?_
           refine wl_nil ?_
           refine then_n (hK70 _ _ ?_); clear hK70 K70
           refine wp_seq_k ?_; intro K71 hK71
           refine wp_seq_k ?_; intro K72 hK72
           refine wlit ?_
           refine wl_v (x_move (tmI rfl rfl)) ?_
           refine wl_v (x_eql (tmI rfl rfl) (ev_cN 6)) ?_
           refine wl_v (x_move (tmB rfl rfl)) ?_
           refine gs_wl (tm (t := 127) rfl) (fun hg16_2 => ?_) (fun hg16_2 => ?_)
           · have hg16_2' := hg16_2; (try simp only [nrm] at hg16_2')
             all_goals
              refine wl_gv (want_y rfl rfl rfl rfl (by rw [hg16_2]; rfl)) (x_move (tmI rfl rfl)) ?_
              refine wl_gv (want_y rfl rfl rfl rfl (by rw [hg16_2]; rfl)) (x_eql (tmI rfl rfl) (ev_cN 0)) ?_
              refine wl_v (x_pickT (tmB rfl rfl) hg16_2 (tmB rfl rfl)) ?_
              refine wl_v (x_move (tmB rfl rfl)) ?_
              refine gs_wl (tm (t := 131) rfl) (fun hg16_6 => ?_) (fun hg16_6 => ?_)
              · have hg16_6' := hg16_6; (try simp only [nrm] at hg16_6')
                all_goals
                 refine wl_gv (want_y rfl rfl rfl rfl (by rw [hg16_6]; rfl)) (x_move (tmI rfl rfl)) ?_
                 refine wl_gv (want_y rfl rfl rfl rfl (by rw [hg16_6]; rfl)) (x_geq (tmI rfl rfl) (ev_cN 0)) ?_
                 refine wl_v (x_pickT (tmB rfl rfl) hg16_6 (tmB rfl rfl)) ?_
                 refine wl_nil ?_
                 refine then_n (hK72 _ _ ?_); clear hK72 K72
                 refine cnd (tm rfl) (fun hc3 => ?_) (fun hc3 => ?_)
                 · skip
                   all_goals
                    try simp only [nrm] at hc3
                    refine wlit ?_
                    refine wl_v (x_fa 8 Try.underlying40 rfl rfl ts_22 (tmP rfl rfl)) ?_
                    refine wl_v (x_load Try.underlying22 rfl (tmP rfl rfl) (cellB hS.ok 0 rfl rfl)) ?_
                    refine wl_v (x_move (tmI rfl rfl)) ?_
                    refine wl_e rfl ?_; intro K hK
                    refine ow_call Try.func17 rfl rfl (evs_cons (tmS rfl rfl) <| evs_cons (tmI rfl rfl) <| evs_cons (ev_cN 4) <| evs_nil) (get_c o.length O co o q 4 _ (viewV hS.ok 1 rfl) rfl hco (by omega) hob (by omega) (by omega)) ?_
                    rintro e w ⟨rfl, hk⟩
                    refine ⟨_, rfl, ?_⟩
                    replace hS := hS.kept hk
                    clear hk
                    refine hK _ _ ?_; clear hK K
                    refine wl_v (x_convN Try.underlying24 Try.underlying30 (tmI rfl rfl) (fit_u32 (by omega))) ?_
                    refine wl_v (x_fa 9 Try.underlying35 rfl rfl ts_30 (tmP rfl rfl)) ?_
                    refine wl_e rfl ?_; intro K hK
                    refine ow_store hS 5 rfl ts_30 (tmP rfl rfl) (tmI rfl rfl) rfl rfl ?_
                    clear hS; intro w hS
                    try replace hS := St.nm (M' := [.blk _ _ [_, _, _, _, _, _, _, _, _, _], .vw _ _, .vw _ _, .vw _ _, .vw _ _, .blk _ _ [_, _, _, _, _, _, _, _, _, _, _], .blk _ _ [_, _, _, _, _, _, _, _, _, _, _], .vw _ _]) hS rfl
                    refine hK _ _ ?_; clear hK K
                    refine wl_v (x_fa 10 Try.underlying35 rfl rfl ts_4 (tmP rfl rfl)) ?_
                    refine wl_e rfl ?_; intro K hK
                    refine ow_store hS 5 rfl ts_4 (tmP rfl rfl) ev_c rfl rfl ?_
                    clear hS; intro w hS
                    try replace hS := St.nm (M' := [.blk _ _ [_, _, _, _, _, _, _, _, _, _], .vw _ _, .vw _ _, .vw _ _, .vw _ _, .blk _ _ [_, _, _, _, _, _, _, _, _, _, _], .blk _ _ [_, _, _, _, _, _, _, _, _, _, _], .vw _ _]) hS rfl
                    refine hK _ _ ?_; clear hK K
                    refine wl_nil ?_
                    refine then_n (hK71 _ _ ?_); clear hK71 K71
                    refine wp_seq_k ?_; intro K73 hK73
                    refine wlit ?_
                    refine wl_v (x_loadA (cs := [_, _, _, _, _, _, _, _, _, _, _]) Try.underlying35 rfl ts_35 (tmP rfl rfl) (rangeB hS.ok 5 rfl rfl)) ?_
                    refine wl_e rfl ?_; intro K hK
                    refine ow_storeA hS 6 rfl ts_35 (tmP rfl rfl) (tmA rfl rfl) rfl rfl rfl ?_
                    clear hS; intro w hS
                    try replace hS := St.nm (M' := [.blk _ _ [_, _, _, _, _, _, _, _, _, _], .vw _ _, .vw _ _, .vw _ _, .vw _ _, .blk _ _ [_, _, _, _, _, _, _, _, _, _, _], .blk _ _ [_, _, _, _, _, _, _, _, _, _, _], .vw _ _]) hS rfl
                    refine hK _ _ ?_; clear hK K
                    refine wl_v (x_assign ev_c) ?_
                    refine wl_nil ?_
                    refine then_n (hK73 _ _ ?_); clear hK73 K73
                    refine wp_ret ?_
                    refine ret2 rfl (.cell rfl rfl (load_rowB (cs := [_, _, _, _, _, _, _, _, _, _, _]) hS.ok 6 rfl Try.underlying35 rfl ts_35 rfl)) (.tmp rfl (show _ = Value.bool _ from rfl)) ?_
                    first
                      | (have h6 : pr = 6 := by first | omega | (simp at hg16_2; omega)
                         have h0 : er = 0 := by first | omega | (simp at hg16_6; omega)
                         obtain ⟨e1, e2⟩ := sv_yes (pr := pr) h6 ⟨(st_some h0 hst).2, (st_some h0 hst).1⟩
                         rw [e1, e2]
                         first | exact ⟨rfl, hS.kp⟩ | exact ⟨by rw [six_ad, six_ad]; rfl, hS.kp⟩)
                      | (have h6 : pr ≠ 6 := by first | omega | (simp at hg16_2; omega)
                         obtain ⟨e1, e2⟩ := sv_udp (o := o) (er := er) h6
                         rw [e1, e2]
                         first | exact ⟨rfl, hS.kp⟩ | exact ⟨by rw [six_ad, six_ad]; rfl, hS.kp⟩)
                      | (have h0 : er ≠ 0 := by first | omega | (simp at hg16_6; omega)
                         obtain ⟨e1, e2⟩ := sv_no (pr := pr) ⟨(st_bad (o := o) h0).2, (st_bad (o := o) h0).1⟩
                         rw [e1, e2]
                         first | exact ⟨rfl, hS.kp⟩ | exact ⟨by rw [six_ad, six_ad]; rfl, hS.kp⟩)
                 try (exfalso; first | with_reducible exact absurd hc3 Bool.false_ne_true | with_reducible exact absurd hc3.symm Bool.false_ne_true | (simp only [nrm] at hc3; omega) | (simp at hc3; done))
                 all_goals
                  try simp only [nrm] at hc3
                  refine wp_skip ?_
                  refine then_n (hK71 _ _ ?_); clear hK71 K71
                  refine wp_seq_k ?_; intro K75 hK75
                  refine wlit ?_
                  refine wl_v (x_loadA (cs := [_, _, _, _, _, _, _, _, _, _, _]) Try.underlying35 rfl ts_35 (tmP rfl rfl) (rangeB hS.ok 5 rfl rfl)) ?_
                  refine wl_e rfl ?_; intro K hK
                  refine ow_storeA hS 6 rfl ts_35 (tmP rfl rfl) (tmA rfl rfl) rfl rfl rfl ?_
                  clear hS; intro w hS
                  try replace hS := St.nm (M' := [.blk _ _ [_, _, _, _, _, _, _, _, _, _], .vw _ _, .vw _ _, .vw _ _, .vw _ _, .blk _ _ [_, _, _, _, _, _, _, _, _, _, _], .blk _ _ [_, _, _, _, _, _, _, _, _, _, _], .vw _ _]) hS rfl
                  refine hK _ _ ?_; clear hK K
                  refine wl_v (x_assign ev_c) ?_
                  refine wl_nil ?_
                  refine then_n (hK75 _ _ ?_); clear hK75 K75
                  refine wp_ret ?_
                  refine ret2 rfl (.cell rfl rfl (load_rowB (cs := [_, _, _, _, _, _, _, _, _, _, _]) hS.ok 6 rfl Try.underlying35 rfl ts_35 rfl)) (.tmp rfl (show _ = Value.bool _ from rfl)) ?_
                  first
                    | (have h6 : pr = 6 := by first | omega | (simp at hg16_2; omega)
                       have h0 : er = 0 := by first | omega | (simp at hg16_6; omega)
                       obtain ⟨e1, e2⟩ := sv_yes (pr := pr) h6 ⟨(st_some h0 hst).2, (st_some h0 hst).1⟩
                       rw [e1, e2]
                       first | exact ⟨rfl, hS.kp⟩ | exact ⟨by rw [six_ad, six_ad]; rfl, hS.kp⟩)
                    | (have h6 : pr ≠ 6 := by first | omega | (simp at hg16_2; omega)
                       obtain ⟨e1, e2⟩ := sv_udp (o := o) (er := er) h6
                       rw [e1, e2]
                       first | exact ⟨rfl, hS.kp⟩ | exact ⟨by rw [six_ad, six_ad]; rfl, hS.kp⟩)
                    | (have h0 : er ≠ 0 := by first | omega | (simp at hg16_6; omega)
                       obtain ⟨e1, e2⟩ := sv_no (pr := pr) ⟨(st_bad (o := o) h0).2, (st_bad (o := o) h0).1⟩
                       rw [e1, e2]
                       first | exact ⟨rfl, hS.kp⟩ | exact ⟨by rw [six_ad, six_ad]; rfl, hS.kp⟩)
              have hg16_6' := hg16_6; (try simp only [nrm] at hg16_6')
              all_goals
               refine wl_s rfl (want_n rfl rfl rfl rfl (by rw [hg16_6]; rfl)) ?_
               refine wl_s rfl (want_n rfl rfl rfl rfl (by rw [hg16_6]; rfl)) ?_
               refine wl_v (x_pickF (tmB rfl rfl) hg16_6 ev_c) ?_
               refine wl_nil ?_
               refine then_n (hK72 _ _ ?_); clear hK72 K72
               refine cnd_f (tmB rfl rfl) rfl ?_
               refine wp_skip ?_
               refine then_n (hK71 _ _ ?_); clear hK71 K71
               refine wp_seq_k ?_; intro K77 hK77
               refine wlit ?_
               refine wl_v (x_loadA (cs := [_, _, _, _, _, _, _, _, _, _, _]) Try.underlying35 rfl ts_35 (tmP rfl rfl) (rangeB hS.ok 5 rfl rfl)) ?_
               refine wl_e rfl ?_; intro K hK
               refine ow_storeA hS 6 rfl ts_35 (tmP rfl rfl) (tmA rfl rfl) rfl rfl rfl ?_
               clear hS; intro w hS
               try replace hS := St.nm (M' := [.blk _ _ [_, _, _, _, _, _, _, _, _, _], .vw _ _, .vw _ _, .vw _ _, .vw _ _, .blk _ _ [_, _, _, _, _, _, _, _, _, _, _], .blk _ _ [_, _, _, _, _, _, _, _, _, _, _], .vw _ _]) hS rfl
               refine hK _ _ ?_; clear hK K
               refine wl_v (x_assign ev_c) ?_
               refine wl_nil ?_
               refine then_n (hK77 _ _ ?_); clear hK77 K77
               refine wp_ret ?_
               refine ret2 rfl (.cell rfl rfl (load_rowB (cs := [_, _, _, _, _, _, _, _, _, _, _]) hS.ok 6 rfl Try.underlying35 rfl ts_35 rfl)) (.tmp rfl (show _ = Value.bool _ from rfl)) ?_
               first
                 | (have h6 : pr = 6 := by first | omega | (simp at hg16_2; omega)
                    have h0 : er = 0 := by first | omega | (simp at hg16_6; omega)
                    obtain ⟨e1, e2⟩ := sv_yes (pr := pr) h6 ⟨(st_some h0 hst).2, (st_some h0 hst).1⟩
                    rw [e1, e2]
                    first | exact ⟨rfl, hS.kp⟩ | exact ⟨by rw [six_ad, six_ad]; rfl, hS.kp⟩)
                 | (have h6 : pr ≠ 6 := by first | omega | (simp at hg16_2; omega)
                    obtain ⟨e1, e2⟩ := sv_udp (o := o) (er := er) h6
                    rw [e1, e2]
                    first | exact ⟨rfl, hS.kp⟩ | exact ⟨by rw [six_ad, six_ad]; rfl, hS.kp⟩)
                 | (have h0 : er ≠ 0 := by first | omega | (simp at hg16_6; omega)
                    obtain ⟨e1, e2⟩ := sv_no (pr := pr) ⟨(st_bad (o := o) h0).2, (st_bad (o := o) h0).1⟩
                    rw [e1, e2]
                    first | exact ⟨rfl, hS.kp⟩ | exact ⟨by rw [six_ad, six_ad]; rfl, hS.kp⟩)
           have hg16_2' := hg16_2; (try simp only [nrm] at hg16_2'); try (exfalso; first | with_reducible exact absurd hg16_2 Bool.false_ne_true | with_reducible exact absurd hg16_2.symm Bool.false_ne_true | omega | (simp at hg16_2; done))
           all_goals
            refine wl_s rfl (want_n rfl rfl rfl rfl (by rw [hg16_2]; rfl)) ?_
            refine wl_s rfl (want_n rfl rfl rfl rfl (by rw [hg16_2]; rfl)) ?_
            refine wl_v (x_pickF (tmB rfl rfl) hg16_2 ev_c) ?_
            refine wl_v (x_move (tmB rfl rfl)) ?_
            refine wl_s rfl (want_n rfl rfl rfl rfl rfl) ?_
            refine wl_s rfl (want_n rfl rfl rfl rfl rfl) ?_
            refine wl_v (x_pickF (tmB rfl rfl) rfl ev_c) ?_
            refine wl_nil ?_
            refine then_n (hK72 _ _ ?_); clear hK72 K72
            refine cnd_f (tmB rfl rfl) rfl ?_
            refine wp_skip ?_
            refine then_n (hK71 _ _ ?_); clear hK71 K71
            refine wp_seq_k ?_; intro K79 hK79
            refine wlit ?_
            refine wl_v (x_loadA (cs := [_, _, _, _, _, _, _, _, _, _, _]) Try.underlying35 rfl ts_35 (tmP rfl rfl) (rangeB hS.ok 5 rfl rfl)) ?_
            refine wl_e rfl ?_; intro K hK
            refine ow_storeA hS 6 rfl ts_35 (tmP rfl rfl) (tmA rfl rfl) rfl rfl rfl ?_
            clear hS; intro w hS
            try replace hS := St.nm (M' := [.blk _ _ [_, _, _, _, _, _, _, _, _, _], .vw _ _, .vw _ _, .vw _ _, .vw _ _, .blk _ _ [_, _, _, _, _, _, _, _, _, _, _], .blk _ _ [_, _, _, _, _, _, _, _, _, _, _], .vw _ _]) hS rfl
            refine hK _ _ ?_; clear hK K
            refine wl_v (x_assign ev_c) ?_
            refine wl_nil ?_
            refine then_n (hK79 _ _ ?_); clear hK79 K79
            refine wp_ret ?_
            refine ret2 rfl (.cell rfl rfl (load_rowB (cs := [_, _, _, _, _, _, _, _, _, _, _]) hS.ok 6 rfl Try.underlying35 rfl ts_35 rfl)) (.tmp rfl (show _ = Value.bool _ from rfl)) ?_
            first
              | (have h6 : pr = 6 := by first | omega | (simp at hg16_2; omega)
                 have h0 : er = 0 := by first | omega | (simp at hg16_6; omega)
                 obtain ⟨e1, e2⟩ := sv_yes (pr := pr) h6 ⟨(st_some h0 hst).2, (st_some h0 hst).1⟩
                 rw [e1, e2]
                 first | exact ⟨rfl, hS.kp⟩ | exact ⟨by rw [six_ad, six_ad]; rfl, hS.kp⟩)
              | (have h6 : pr ≠ 6 := by first | omega | (simp at hg16_2; omega)
                 obtain ⟨e1, e2⟩ := sv_udp (o := o) (er := er) h6
                 rw [e1, e2]
                 first | exact ⟨rfl, hS.kp⟩ | exact ⟨by rw [six_ad, six_ad]; rfl, hS.kp⟩)
              | (have h0 : er ≠ 0 := by first | omega | (simp at hg16_6; omega)
                 obtain ⟨e1, e2⟩ := sv_no (pr := pr) ⟨(st_bad (o := o) h0).2, (st_bad (o := o) h0).1⟩
                 rw [e1, e2]
                 first | exact ⟨rfl, hS.kp⟩ | exact ⟨by rw [six_ad, six_ad]; rfl, hS.kp⟩)
set_option maxRecDepth 100000 in
set_option maxHeartbeats 8000000 in
theorem rs6_no (l : List Nat) (hb : Bytes l) (hn : l.length ≤ 3000) (h : ¬ (Hd6 l ∧ (nth l 6 = 6 ∨ nth l 6 = 17))) :
    ReadS 7 true l (quV adZ adZ 0 0 0 0 false) false := fun w0 A c hv hc => by
  have hS := (St.sv w0).vcons rfl hv
  have hqb : l.getD 0 0 < 256 := nth_lt hb 0
  have hq9b : l.getD 9 0 < 256 := nth_lt hb 9
  obtain ⟨pr, hpr⟩ : ∃ pr, pr = l.getD 6 0 := ⟨_, rfl⟩
  have hq9 : pr < 256 := by rw [hpr]; exact nth_lt hb 6
  have h0 : ¬ (48 ≤ l.length ∧ l.getD 0 0 / 16 = 6 ∧ (pr = 6 ∨ pr = 17)) := fun ⟨x1, x2, x6⟩ => h ⟨⟨x1, x2⟩, by rw [hpr] at x6; exact x6⟩
  by_cases h20 : l.length < 20
  · skip
    refine ent (n := 143) Try.func7 rfl rfl ?_
    refine wp_seq_k ?_; intro K1 hK1
    refine wlit ?_
    refine wl_e rfl ?_; intro K hK
    refine ow_alloc hS tz_35 rfl ?_
    clear hS; intro g0_0 w hg0_0 hS
    refine hK _ _ ?_; clear hK K
    refine wl_v (x_assign ev_c) ?_
    refine wl_nil ?_
    refine then_n (hK1 _ _ ?_); clear hK1 K1
    refine wp_seq_k ?_; intro K2 hK2
    refine wp_seq_k ?_; intro K3 hK3
    refine wlit ?_
    refine wl_v (x_move (tmS rfl rfl)) ?_
    refine wl_v (x_len Try.underlying22 (tmS rfl rfl)) ?_
    refine wl_v (x_lss (tmI rfl rfl) (ev_cN 20)) ?_
    refine wl_nil ?_
    refine then_n (hK3 _ _ ?_); clear hK3 K3
    refine cnds (tm rfl) (fun hc0 => ?_) (fun hc0 => ?_)
    · exfalso
      first | omega | (simp at hc0; omega)
    all_goals
     try simp only [nrm] at hc0
     refine wp_seq_k ?_; intro K4 hK4
     refine wlit ?_
     refine wl_v (x_build (bc_skipL [.bool false, .int .u64 0, .int .u64 0, .bool false, .int .u64 0, .int .u64 0, .int .u16 0, .int .u16 0, .int .u8 0] <| bc_skip (.int .u32 0) <| bc_skip (.bool false) <| bc_nil) (by kernel_rfl)) ?_
     refine wl_e rfl ?_; intro K hK
     refine ow_storeA hS 0 rfl ts_35 (tmP rfl rfl) (tmA rfl rfl) rfl rfl rfl ?_
     clear hS; intro w hS
     try replace hS := St.nm (M' := [.blk _ _ [_, _, _, _, _, _, _, _, _, _, _], .vw _ _]) hS rfl
     refine hK _ _ ?_; clear hK K
     refine wl_v (x_assign ev_c) ?_
     refine wl_nil ?_
     refine then_n (hK4 _ _ ?_); clear hK4 K4
     refine wp_ret ?_
     refine then_r ?_
     refine ret2 rfl (.cell rfl rfl (load_rowB (cs := [_, _, _, _, _, _, _, _, _, _, _]) hS.ok 0 rfl Try.underlying35 rfl ts_35 rfl)) (.tmp rfl (show _ = Value.bool _ from rfl)) ?_
     exact ⟨rfl, hS.kp⟩
  · obtain ⟨b4, o4, rfl⟩ := view_some hv (by rw [List.length_map]; omega)
    refine ent (n := 143) Try.func7 rfl rfl ?_
    refine wp_seq_k ?_; intro K1 hK1
    refine wlit ?_
    refine wl_e rfl ?_; intro K hK
    refine ow_alloc hS tz_35 rfl ?_
    clear hS; intro g0_0 w hg0_0 hS
    refine hK _ _ ?_; clear hK K
    refine wl_v (x_assign ev_c) ?_
    refine wl_nil ?_
    refine then_n (hK1 _ _ ?_); clear hK1 K1
    refine wp_seq_k ?_; intro K2 hK2
    refine wp_seq_k ?_; intro K3 hK3
    refine wlit ?_
    refine wl_v (x_move (tmS rfl rfl)) ?_
    refine wl_v (x_len Try.underlying22 (tmS rfl rfl)) ?_
    refine wl_v (x_lss (tmI rfl rfl) (ev_cN 20)) ?_
    refine wl_nil ?_
    refine then_n (hK3 _ _ ?_); clear hK3 K3
    refine cnd (tm rfl) (fun hc0 => ?_) (fun hc0 => ?_)
    · exfalso
      simp only [nrm] at hc0
      omega
    all_goals
     try simp only [nrm] at hc0
     refine wp_skip ?_
     refine then_n (hK2 _ _ ?_); clear hK2 K2
     refine wp_seq_k ?_; intro K4 hK4
     refine rg_startk 0 hS mixed_ ?_
     clear hS; intro w hS
     refine rg_take 0 rfl rfl (by kernel_rfl) (by kernel_rfl) (by kernel_rfl) (want_0) (fun w hok => x_move (tmS rfl rfl)) ?_
     refine rg_take 1 rfl rfl (by kernel_rfl) (by kernel_rfl) (by kernel_rfl) (want_0) (fun w hok => x_ixs1 Try.underlying22 ts_5 (tmS rfl rfl) (ev_cN 0) (by omega)) ?_
     refine rg_take 2 rfl rfl (by kernel_rfl) (by kernel_rfl) (by kernel_rfl) (want_0) (fun w hok => x_load Try.underlying5 rfl (tmP rfl rfl) (cellV hok 1 rfl (getm (by omega)))) ?_
     refine rg_take 3 rfl rfl (by kernel_rfl) (by kernel_rfl) (by kernel_rfl) (want_0) (fun w hok => x_remN (tmI rfl rfl) (ev_cN 16) (by omega)) ?_
     refine rg_take 4 rfl rfl (by kernel_rfl) (by kernel_rfl) (by kernel_rfl) (want_0) (fun w hok => x_convN Try.underlying5 Try.underlying3 (tmI rfl rfl) (fit_i64 (by omega))) ?_
     refine rg_take 5 rfl rfl (by kernel_rfl) (by kernel_rfl) (by kernel_rfl) (want_0) (fun w hok => x_mulN (tmI rfl rfl) (ev_cN 4) (fit_i64 (by omega))) ?_
     refine rg_take 6 rfl rfl (by kernel_rfl) (by kernel_rfl) (by kernel_rfl) (want_0) (fun w hok => x_move (tmS rfl rfl)) ?_
     refine rg_take 7 rfl rfl (by kernel_rfl) (by kernel_rfl) (by kernel_rfl) (want_0) (fun w hok => x_ixs1 Try.underlying22 ts_5 (tmS rfl rfl) (ev_cN 9) (by omega)) ?_
     refine rg_take 8 rfl rfl (by kernel_rfl) (by kernel_rfl) (by kernel_rfl) (want_0) (fun w hok => x_load Try.underlying5 rfl (tmP rfl rfl) (cellV hok 1 rfl (getm (by omega)))) ?_
     refine rg_take 9 rfl rfl (by kernel_rfl) (by kernel_rfl) (by kernel_rfl) (want_0) (fun w hok => x_convN Try.underlying5 Try.underlying3 (tmI rfl rfl) (fit_i64 (by omega))) ?_
     refine rg_take 10 rfl rfl (by kernel_rfl) (by kernel_rfl) (by kernel_rfl) (want_0) (fun w hok => x_assign (tmI rfl rfl)) ?_
     refine rg_take 11 rfl rfl (by kernel_rfl) (by kernel_rfl) (by kernel_rfl) (want_0) (fun w hok => x_assign (ev_cN 12)) ?_
     refine rg_take 12 rfl rfl (by kernel_rfl) (by kernel_rfl) (by kernel_rfl) (want_0) (fun w hok => x_assign (ev_cN 4)) ?_
     refine rg_take 13 rfl rfl (by kernel_rfl) (by kernel_rfl) (by kernel_rfl) (want_0) (fun w hok => x_assign (tmI rfl rfl)) ?_
     refine rg_take 14 rfl rfl (by kernel_rfl) (by kernel_rfl) (by kernel_rfl) (want_0) (fun w hok => x_assign (ev_cN 4)) ?_
     refine rg_done (oks_drop hS 0 rfl) (by kernel_rfl) ?_
     refine then_n (hK4 _ _ ?_); clear hK4 K4
     refine wp_seq_k ?_; intro K5 hK5
     refine wp_seq_k ?_; intro K6 hK6
     refine wlit ?_
     refine wl_v (x_move (tmB rfl rfl)) ?_
     refine wl_nil ?_
     refine then_n (hK6 _ _ ?_); clear hK6 K6
     refine cnds (tm rfl) (fun hc1 => ?_) (fun hc1 => ?_)
     · exfalso
       simp at hc1
     all_goals
      try simp only [nrm] at hc1
      refine rg_startk 0 hS mixed_ ?_
      clear hS; intro w hS
      refine rg_take 0 rfl rfl (by kernel_rfl) (by kernel_rfl) (by kernel_rfl) (want_0) (fun w hok => x_move (tmS rfl rfl)) ?_
      refine rg_take 1 rfl rfl (by kernel_rfl) (by kernel_rfl) (by kernel_rfl) (want_0) (fun w hok => x_ixs1 Try.underlying22 ts_5 (tmS rfl rfl) (ev_cN 6) (by omega)) ?_
      refine rg_take 2 rfl rfl (by kernel_rfl) (by kernel_rfl) (by kernel_rfl) (want_0) (fun w hok => x_load Try.underlying5 rfl (tmP rfl rfl) (cellV hok 1 rfl (getm (by omega)))) ?_
      refine rg_take 3 rfl rfl (by kernel_rfl) (by kernel_rfl) (by kernel_rfl) (want_0) (fun w hok => x_convN Try.underlying5 Try.underlying3 (tmI rfl rfl) (fit_i64 (by omega))) ?_
      refine rg_take 4 rfl rfl (by kernel_rfl) (by kernel_rfl) (by kernel_rfl) (want_0) (fun w hok => x_assign (ev_cN 40)) ?_
      refine rg_take 5 rfl rfl (by kernel_rfl) (by kernel_rfl) (by kernel_rfl) (want_0) (fun w hok => x_assign (ev_cN 8)) ?_
      refine rg_take 6 rfl rfl (by kernel_rfl) (by kernel_rfl) (by kernel_rfl) (want_0) (fun w hok => x_assign (ev_cN 16)) ?_
      refine rg_take 7 rfl rfl (by kernel_rfl) (by kernel_rfl) (by kernel_rfl) (want_0) (fun w hok => x_assign (tmI rfl (congrArg (fun q : Nat => Value.int .i64 (q : Int)) hpr.symm))) ?_
      refine rg_take 8 rfl rfl (by kernel_rfl) (by kernel_rfl) (by kernel_rfl) (want_0) (fun w hok => x_assign (ev_cN 6)) ?_
      refine rg_done (oks_drop hS 0 rfl) (by kernel_rfl) ?_
      refine then_n (hK5 _ _ ?_); clear hK5 K5
      refine wp_seq_k ?_; intro K7 hK7
      refine wp_seq_k ?_; intro K8 hK8
      refine wlit ?_
      refine wl_v (x_move (tmS rfl rfl)) ?_
      refine wl_v (x_ixs1 Try.underlying22 ts_5 (tmS rfl rfl) (ev_cN 0) (by omega)) ?_
      refine wl_v (x_load Try.underlying5 rfl (tmP rfl rfl) (cellV hS.ok 1 rfl (getm (by omega)))) ?_
      refine wl_v (x_quoN (tmI rfl rfl) (ev_cN 16) (by omega) (fit_u8 (by omega))) ?_
      refine wl_v (x_move (tmI rfl rfl)) ?_
      refine wl_v (x_neq (tmI rfl rfl) (tmI rfl rfl)) ?_
      refine wl_v (x_move (tmB rfl rfl)) ?_
      refine gs_wl (tm (t := 40) rfl) (fun hg6_6 => ?_) (fun hg6_6 => ?_)
      · have hg6_6' := hg6_6; (try simp only [nrm] at hg6_6')
        all_goals
         refine wl_s rfl (want_n rfl rfl rfl rfl (by rw [hg6_6]; rfl)) ?_
         refine wl_s rfl (want_n rfl rfl rfl rfl (by rw [hg6_6]; rfl)) ?_
         refine wl_v (x_pickT (tmB rfl rfl) hg6_6 ev_c) ?_
         refine wl_v (x_move (tmB rfl rfl)) ?_
         refine wl_s rfl (want_n rfl rfl rfl rfl rfl) ?_
         refine wl_s rfl (want_n rfl rfl rfl rfl rfl) ?_
         refine wl_s rfl (want_n rfl rfl rfl rfl rfl) ?_
         refine wl_s rfl (want_n rfl rfl rfl rfl rfl) ?_
         refine wl_s rfl (want_n rfl rfl rfl rfl rfl) ?_
         refine wl_v (x_pickT (tmB rfl rfl) rfl ev_c) ?_
         refine wl_v (x_move (tmB rfl rfl)) ?_
         refine wl_s rfl (want_n rfl rfl rfl rfl rfl) ?_
         refine wl_s rfl (want_n rfl rfl rfl rfl rfl) ?_
         refine wl_s rfl (want_n rfl rfl rfl rfl rfl) ?_
         refine wl_s rfl (want_u rfl rfl rfl rfl) ?_
         refine wl_s rfl (want_u rfl rfl rfl rfl) ?_
         refine wl_s rfl (want_u rfl rfl rfl rfl) ?_
         refine wl_s rfl (want_u rfl rfl rfl rfl) ?_
         refine wl_s rfl (want_n rfl rfl rfl rfl rfl) ?_
         refine wl_v (x_pickT (tmB rfl rfl) rfl ev_c) ?_
         refine wl_v (x_move (tmB rfl rfl)) ?_
         refine wl_s rfl (want_n rfl rfl rfl rfl rfl) ?_
         refine wl_s rfl (want_n rfl rfl rfl rfl rfl) ?_
         refine wl_s rfl (want_n rfl rfl rfl rfl rfl) ?_
         refine wl_s rfl (want_u rfl rfl rfl rfl) ?_
         refine wl_s rfl (want_u rfl rfl rfl rfl) ?_
         refine wl_s rfl (want_n rfl rfl rfl rfl rfl) ?_
         refine wl_v (x_pickT (tmB rfl rfl) rfl ev_c) ?_
         refine wl_nil ?_
         refine then_n (hK8 _ _ ?_); clear hK8 K8
         refine cnd_t (tmB rfl rfl) rfl ?_
         refine wp_seq_k ?_; intro K9 hK9
         refine wlit ?_
         refine wl_v (x_build (bc_skipL [.bool false, .int .u64 0, .int .u64 0, .bool false, .int .u64 0, .int .u64 0, .int .u16 0, .int .u16 0, .int .u8 0] <| bc_skip (.int .u32 0) <| bc_skip (.bool false) <| bc_nil) (by kernel_rfl)) ?_
         refine wl_e rfl ?_; intro K hK
         refine ow_storeA hS 0 rfl ts_35 (tmP rfl rfl) (tmA rfl rfl) rfl rfl rfl ?_
         clear hS; intro w hS
         try replace hS := St.nm (M' := [.blk _ _ [_, _, _, _, _, _, _, _, _, _, _], .vw _ _]) hS rfl
         refine hK _ _ ?_; clear hK K
         refine wl_v (x_assign ev_c) ?_
         refine wl_nil ?_
         refine then_n (hK9 _ _ ?_); clear hK9 K9
         refine wp_ret ?_
         refine then_r ?_
         refine ret2 rfl (.cell rfl rfl (load_rowB (cs := [_, _, _, _, _, _, _, _, _, _, _]) hS.ok 0 rfl Try.underlying35 rfl ts_35 rfl)) (.tmp rfl (show _ = Value.bool _ from rfl)) ?_
         exact ⟨rfl, hS.kp⟩
      have hg6_6' := hg6_6; (try simp only [nrm] at hg6_6')
      all_goals
       refine wl_gv (want_y rfl rfl rfl rfl (by rw [hg6_6]; rfl)) (x_move (tmI rfl rfl)) ?_
       refine wl_gv (want_y rfl rfl rfl rfl (by rw [hg6_6]; rfl)) (x_lss (tmI rfl rfl) (ev_cN 20)) ?_
       refine wl_v (x_pickF (tmB rfl rfl) hg6_6 (tmB rfl rfl)) ?_
       refine wl_v (x_move (tmB rfl rfl)) ?_
       refine gs_wl (tm (t := 44) rfl) (fun hg6_10 => ?_) (fun hg6_10 => ?_)
       · have hg6_10' := hg6_10; (try simp only [nrm] at hg6_10'); try (exfalso; first | with_reducible exact absurd hg6_10 Bool.false_ne_true | with_reducible exact absurd hg6_10.symm Bool.false_ne_true | omega | (simp at hg6_10; done))
         all_goals
          refine wl_s rfl (want_n rfl rfl rfl rfl (by rw [hg6_10]; rfl)) ?_
          refine wl_s rfl (want_n rfl rfl rfl rfl (by rw [hg6_10]; rfl)) ?_
          refine wl_s rfl (want_n rfl rfl rfl rfl (by rw [hg6_10]; rfl)) ?_
          refine wl_s rfl (want_n rfl rfl rfl rfl (by rw [hg6_10]; rfl)) ?_
          refine wl_s rfl (want_n rfl rfl rfl rfl (by rw [hg6_10]; rfl)) ?_
          refine wl_v (x_pickT (tmB rfl rfl) hg6_10 ev_c) ?_
          refine wl_v (x_move (tmB rfl rfl)) ?_
          refine wl_s rfl (want_n rfl rfl rfl rfl rfl) ?_
          refine wl_s rfl (want_n rfl rfl rfl rfl rfl) ?_
          refine wl_s rfl (want_n rfl rfl rfl rfl rfl) ?_
          refine wl_s rfl (want_u rfl rfl rfl rfl) ?_
          refine wl_s rfl (want_u rfl rfl rfl rfl) ?_
          refine wl_s rfl (want_u rfl rfl rfl rfl) ?_
          refine wl_s rfl (want_u rfl rfl rfl rfl) ?_
          refine wl_s rfl (want_n rfl rfl rfl rfl rfl) ?_
          refine wl_v (x_pickT (tmB rfl rfl) rfl ev_c) ?_
          refine wl_v (x_move (tmB rfl rfl)) ?_
          refine wl_s rfl (want_n rfl rfl rfl rfl rfl) ?_
          refine wl_s rfl (want_n rfl rfl rfl rfl rfl) ?_
          refine wl_s rfl (want_n rfl rfl rfl rfl rfl) ?_
          refine wl_s rfl (want_u rfl rfl rfl rfl) ?_
          refine wl_s rfl (want_u rfl rfl rfl rfl) ?_
          refine wl_s rfl (want_n rfl rfl rfl rfl rfl) ?_
          refine wl_v (x_pickT (tmB rfl rfl) rfl ev_c) ?_
          refine wl_nil ?_
          refine then_n (hK8 _ _ ?_); clear hK8 K8
          refine cnd_t (tmB rfl rfl) rfl ?_
          refine wp_seq_k ?_; intro K11 hK11
          refine wlit ?_
          refine wl_v (x_build (bc_skipL [.bool false, .int .u64 0, .int .u64 0, .bool false, .int .u64 0, .int .u64 0, .int .u16 0, .int .u16 0, .int .u8 0] <| bc_skip (.int .u32 0) <| bc_skip (.bool false) <| bc_nil) (by kernel_rfl)) ?_
          refine wl_e rfl ?_; intro K hK
          refine ow_storeA hS 0 rfl ts_35 (tmP rfl rfl) (tmA rfl rfl) rfl rfl rfl ?_
          clear hS; intro w hS
          try replace hS := St.nm (M' := [.blk _ _ [_, _, _, _, _, _, _, _, _, _, _], .vw _ _]) hS rfl
          refine hK _ _ ?_; clear hK K
          refine wl_v (x_assign ev_c) ?_
          refine wl_nil ?_
          refine then_n (hK11 _ _ ?_); clear hK11 K11
          refine wp_ret ?_
          refine then_r ?_
          refine ret2 rfl (.cell rfl rfl (load_rowB (cs := [_, _, _, _, _, _, _, _, _, _, _]) hS.ok 0 rfl Try.underlying35 rfl ts_35 rfl)) (.tmp rfl (show _ = Value.bool _ from rfl)) ?_
          exact ⟨rfl, hS.kp⟩
       have hg6_10' := hg6_10; (try simp only [nrm] at hg6_10')
       all_goals
        refine wl_gv (want_y rfl rfl rfl rfl (by rw [hg6_10]; rfl)) (x_move (tmS rfl rfl)) ?_
        refine wl_gv (want_y rfl rfl rfl rfl (by rw [hg6_10]; rfl)) (x_len Try.underlying22 (tmS rfl rfl)) ?_
        refine wl_gv (want_y rfl rfl rfl rfl (by rw [hg6_10]; rfl)) (x_move (tmI rfl rfl)) ?_
        refine wl_gv (want_y rfl rfl rfl rfl (by rw [hg6_10]; rfl)) (x_addN (tmI rfl rfl) (ev_cN 8) (fit_i64 (by omega))) ?_
        refine wl_gv (want_y rfl rfl rfl rfl (by rw [hg6_10]; rfl)) (x_lss (tmI rfl rfl) (tmI rfl rfl)) ?_
        refine wl_v (x_pickF (tmB rfl rfl) hg6_10 (tmB rfl rfl)) ?_
        refine wl_v (x_move (tmB rfl rfl)) ?_
        refine gs_wl (tm (t := 51) rfl) (fun hg6_17 => ?_) (fun hg6_17 => ?_)
        · have hg6_17' := hg6_17; (try simp only [nrm] at hg6_17')
          all_goals
           refine wl_s rfl (want_n rfl rfl rfl rfl (by rw [hg6_17]; rfl)) ?_
           refine wl_s rfl (want_n rfl rfl rfl rfl (by rw [hg6_17]; rfl)) ?_
           refine wl_s rfl (want_n rfl rfl rfl rfl (by rw [hg6_17]; rfl)) ?_
           refine wl_s rfl (want_u rfl rfl rfl rfl) ?_
           refine wl_s rfl (want_u rfl rfl rfl rfl) ?_
           refine wl_s rfl (want_u rfl rfl rfl rfl) ?_
           refine wl_s rfl (want_u rfl rfl rfl rfl) ?_
           refine wl_s rfl (want_n rfl rfl rfl rfl (by rw [hg6_17]; rfl)) ?_
           refine wl_v (x_pickT (tmB rfl rfl) hg6_17 ev_c) ?_
           refine wl_v (x_move (tmB rfl rfl)) ?_
           refine wl_s rfl (want_n rfl rfl rfl rfl rfl) ?_
           refine wl_s rfl (want_n rfl rfl rfl rfl rfl) ?_
           refine wl_s rfl (want_n rfl rfl rfl rfl rfl) ?_
           refine wl_s rfl (want_u rfl rfl rfl rfl) ?_
           refine wl_s rfl (want_u rfl rfl rfl rfl) ?_
           refine wl_s rfl (want_n rfl rfl rfl rfl rfl) ?_
           refine wl_v (x_pickT (tmB rfl rfl) rfl ev_c) ?_
           refine wl_nil ?_
           refine then_n (hK8 _ _ ?_); clear hK8 K8
           refine cnd_t (tmB rfl rfl) rfl ?_
           refine wp_seq_k ?_; intro K13 hK13
           refine wlit ?_
           refine wl_v (x_build (bc_skipL [.bool false, .int .u64 0, .int .u64 0, .bool false, .int .u64 0, .int .u64 0, .int .u16 0, .int .u16 0, .int .u8 0] <| bc_skip (.int .u32 0) <| bc_skip (.bool false) <| bc_nil) (by kernel_rfl)) ?_
           refine wl_e rfl ?_; intro K hK
           refine ow_storeA hS 0 rfl ts_35 (tmP rfl rfl) (tmA rfl rfl) rfl rfl rfl ?_
           clear hS; intro w hS
           try replace hS := St.nm (M' := [.blk _ _ [_, _, _, _, _, _, _, _, _, _, _], .vw _ _]) hS rfl
           refine hK _ _ ?_; clear hK K
           refine wl_v (x_assign ev_c) ?_
           refine wl_nil ?_
           refine then_n (hK13 _ _ ?_); clear hK13 K13
           refine wp_ret ?_
           refine then_r ?_
           refine ret2 rfl (.cell rfl rfl (load_rowB (cs := [_, _, _, _, _, _, _, _, _, _, _]) hS.ok 0 rfl Try.underlying35 rfl ts_35 rfl)) (.tmp rfl (show _ = Value.bool _ from rfl)) ?_
           exact ⟨rfl, hS.kp⟩
        have hg6_17' := hg6_17; (try simp only [nrm] at hg6_17')
        all_goals
         refine wl_gv (want_y rfl rfl rfl rfl (by rw [hg6_17]; rfl)) (x_move (tmB rfl rfl)) ?_
         refine wl_gv (want_y rfl rfl rfl rfl (by rw [hg6_17]; rfl)) (x_not (tmB rfl rfl)) ?_
         refine wl_gv (want_y rfl rfl rfl rfl (by rw [hg6_17]; rfl)) (x_move (tmB rfl rfl)) ?_
         refine gs_wl (tm (t := 54) rfl) (fun hg6_20 => ?_) (fun hg6_20 => ?_)
         · have hg6_20' := hg6_20; (try simp only [nrm] at hg6_20'); try (exfalso; first | with_reducible exact absurd hg6_20 Bool.false_ne_true | with_reducible exact absurd hg6_20.symm Bool.false_ne_true | omega | (simp at hg6_20; done))
           all_goals
            refine wl_gv (want_y rfl rfl rfl rfl (by rw [hg6_20]; rfl)) (x_move (tmS rfl rfl)) ?_
            refine wl_g (want_y rfl rfl rfl rfl (by rw [hg6_20]; rfl)) ?_; intro K hK
            fail "no contract for counterfoil/counterfoilref01.Get (r6.22)"
         have hg6_20' := hg6_20; (try simp only [nrm] at hg6_20')
         all_goals
          refine wl_s rfl (want_n rfl rfl rfl rfl (by rw [hg6_20]; rfl)) ?_
          refine wl_s rfl (want_n rfl rfl rfl rfl (by rw [hg6_20]; rfl)) ?_
          refine wl_s rfl (want_n rfl rfl rfl rfl (by rw [hg6_20]; rfl)) ?_
          refine wl_s rfl (want_n rfl rfl rfl rfl (by rw [hg6_20]; rfl)) ?_
          refine wl_gv (want_y rfl rfl rfl rfl (by rw [hg6_17]; rfl)) (x_pickF (tmB rfl rfl) hg6_20 ev_c) ?_
          refine wl_v (x_pickF (tmB rfl rfl) hg6_17 (tmB rfl rfl)) ?_
          refine wl_v (x_move (tmB rfl rfl)) ?_
          refine wl_gv (want_y rfl rfl rfl rfl rfl) (x_move (tmI rfl rfl)) ?_
          refine wl_gv (want_y rfl rfl rfl rfl rfl) (x_neq (tmI rfl rfl) (ev_cN 6)) ?_
          refine wl_gv (want_y rfl rfl rfl rfl rfl) (x_move (tmB rfl rfl)) ?_
          refine gs_wl (tm (t := 64) rfl) (fun hg6_30 => ?_) (fun hg6_30 => ?_)
          · have hg6_30' := hg6_30; (try simp only [nrm] at hg6_30')
            all_goals
             refine wl_gv (want_y rfl rfl rfl rfl (by rw [hg6_30]; rfl)) (x_move (tmI rfl rfl)) ?_
             refine wl_gv (want_y rfl rfl rfl rfl (by rw [hg6_30]; rfl)) (x_neq (tmI rfl rfl) (ev_cN 17)) ?_
             refine wl_gv (want_y rfl rfl rfl rfl rfl) (x_pickT (tmB rfl rfl) hg6_30 (tmB rfl rfl)) ?_
             refine wl_v (x_pickF (tmB rfl rfl) rfl (tmB rfl rfl)) ?_
             refine wl_nil ?_
             refine then_n (hK8 _ _ ?_); clear hK8 K8
             refine cnds (tm rfl) (fun hc2 => ?_) (fun hc2 => ?_)
             · exfalso
               first | omega | (simp only [nrm] at hc2; omega)
             all_goals
              try simp only [nrm] at hc2
              refine wp_seq_k ?_; intro K15 hK15
              refine wlit ?_
              refine wl_v (x_build (bc_skipL [.bool false, .int .u64 0, .int .u64 0, .bool false, .int .u64 0, .int .u64 0, .int .u16 0, .int .u16 0, .int .u8 0] <| bc_skip (.int .u32 0) <| bc_skip (.bool false) <| bc_nil) (by kernel_rfl)) ?_
              refine wl_e rfl ?_; intro K hK
              refine ow_storeA hS 0 rfl ts_35 (tmP rfl rfl) (tmA rfl rfl) rfl rfl rfl ?_
              clear hS; intro w hS
              try replace hS := St.nm (M' := [.blk _ _ [_, _, _, _, _, _, _, _, _, _, _], .vw _ _]) hS rfl
              refine hK _ _ ?_; clear hK K
              refine wl_v (x_assign ev_c) ?_
              refine wl_nil ?_
              refine then_n (hK15 _ _ ?_); clear hK15 K15
              refine wp_ret ?_
              refine then_r ?_
              refine ret2 rfl (.cell rfl rfl (load_rowB (cs := [_, _, _, _, _, _, _, _, _, _, _]) hS.ok 0 rfl Try.underlying35 rfl ts_35 rfl)) (.tmp rfl (show _ = Value.bool _ from rfl)) ?_
              exact ⟨rfl, hS.kp⟩
          have hg6_30' := hg6_30; (try simp only [nrm] at hg6_30'); try (exfalso; first | with_reducible exact absurd hg6_30 Bool.false_ne_true | with_reducible exact absurd hg6_30.symm Bool.false_ne_true | omega | (simp at hg6_30; done))
          all_goals
           refine wl_s rfl (want_n rfl rfl rfl rfl (by rw [hg6_30]; rfl)) ?_
           refine wl_s rfl (want_n rfl rfl rfl rfl (by rw [hg6_30]; rfl)) ?_
           refine wl_gv (want_y rfl rfl rfl rfl rfl) (x_pickF (tmB rfl rfl) hg6_30 ev_c) ?_
           refine wl_v (x_pickF (tmB rfl rfl) rfl (tmB rfl rfl)) ?_
           refine wl_nil ?_
           refine then_n (hK8 _ _ ?_); clear hK8 K8
           refine cnd_f (tmB rfl rfl) rfl ?_
           refine wp_skip ?_
           refine then_n (hK7 _ _ ?_); clear hK7 K7
           refine wp_seq_k ?_; intro K17 hK17
           refine wlit ?_
           refine wl_v (x_build (bc_skipL [.bool false, .int .u64 0, .int .u64 0, .bool false, .int .u64 0, .int .u64 0, .int .u16 0, .int .u16 0, .int .u8 0] <| bc_skip (.int .u32 0) <| bc_skip (.bool false) <| bc_nil) (by kernel_rfl)) ?_
           refine wl_e rfl ?_; intro K hK
           refine ow_alloc hS tz_35 rfl ?_
           clear hS; intro g8_1 w hg8_1 hS
           refine hK _ _ ?_; clear hK K
           refine wl_e rfl ?_; intro K hK
           refine ow_storeA hS 0 rfl ts_35 (tmP rfl rfl) (tmA rfl rfl) rfl rfl rfl ?_
           clear hS; intro w hS
           try replace hS := St.nm (M' := [.blk _ _ [_, _, _, _, _, _, _, _, _, _, _], .blk _ _ [_, _, _, _, _, _, _, _, _, _, _], .vw _ _]) hS rfl
           refine hK _ _ ?_; clear hK K
           refine wl_nil ?_
           refine then_n (hK17 _ _ ?_); clear hK17 K17
           refine wp_seq_k ?_; intro K18 hK18
           refine wlit ?_
           refine wl_v (x_move (tmS rfl rfl)) ?_
           refine wl_v (x_move (tmI rfl rfl)) ?_
           refine wl_v (x_move (tmI rfl rfl)) ?_
           refine wl_v (x_move (tmI rfl rfl)) ?_
           first
            | refine wl_v (x_addN (tmI rfl rfl) (tmI rfl rfl) (fit_i64 (by omega))) ?_
            | refine wl_v (x_addI (tmI rfl rfl) (tmI rfl rfl) (IntWalk.i64_in _ (by omega))) ?_
            | refine wl_v (x_add (tmI rfl rfl) (tmI rfl rfl)) ?_
           refine wl_v (x_sliceLH Try.underlying22 ts_5 (tmS rfl rfl) (tmI rfl rfl) (tmI rfl rfl) (by omega)) ?_
           refine wl_e rfl ?_; intro K hK
           fail "no contract for counterfoil/counterfoilref03.Of (r9.6)"
/-- Both sides' Read of the same bytes answers the same. -/
theorem steer_ex (six : Bool) (l : List Nat) (hb : Bytes l) (hn : l.length ≤ 3000) : ∃ (s d : Ad) (sp dp pr st : Nat) (has ok : Bool), ReadS 6 six l (quV s d sp dp pr st has) ok ∧ ReadS 7 six l (quV s d sp dp pr st has) ok := by
  cases six with
  | false =>
    by_cases h : ∃ sz, Hd4 l sz ∧ (nth l 9 = 6 ∨ nth l 9 = 17)
    · obtain ⟨sz, h4, hp⟩ := h
      have h8 : sz + 8 ≤ l.length := h4.2.2.2.2.1
      obtain ⟨o, er, hob, ho, _, hP1, hP2⟩ := pto_ex (l.drop sz) (hb.drop sz) (by rw [List.length_drop]; omega)
      have hH := header4_c l hb hn sz h4
      have hR := rs4_ok l hb hn sz h4 _ rfl hp o er hob ho hP2
      rcases hp with hp | hp
      · rw [hp] at hH hR
        exact ⟨_, _, _, _, _, _, _, _, sread4_tcp l hb hn _ _ sz hH h8 o er hob ho hP1, hR⟩
      · rw [hp] at hH hR
        exact ⟨_, _, _, _, _, _, _, _, sread4_udp l hb hn _ _ sz hH h8, hR⟩
    · refine ⟨adZ, adZ, 0, 0, 0, 0, false, false, ?_, rs4_no l hb hn h⟩
      by_cases h4 : ∃ sz, Hd4 l sz
      · obtain ⟨sz, h4⟩ := h4
        exact sread4_other l _ _ sz _ (header4_c l hb hn sz h4) (fun hp => h ⟨sz, h4, .inl hp⟩) (fun hp => h ⟨sz, h4, .inr hp⟩)
      · exact sread4_no l (header4_bad l hb hn h4)
  | true =>
    by_cases h : Hd6 l ∧ (nth l 6 = 6 ∨ nth l 6 = 17)
    · obtain ⟨h6, hp⟩ := h
      have h8 : 40 + 8 ≤ l.length := h6.1
      obtain ⟨o, er, hob, ho, _, hP1, hP2⟩ := pto_ex (l.drop 40) (hb.drop 40) (by rw [List.length_drop]; omega)
      have hH := header6_c l hb hn h6
      have hR := rs6_ok l hb hn h6 _ rfl hp o er hob ho hP2
      rcases hp with hp | hp
      · rw [hp] at hH hR
        exact ⟨_, _, _, _, _, _, _, _, sread6_tcp l hb hn _ _ 40 hH h8 o er hob ho hP1, hR⟩
      · rw [hp] at hH hR
        exact ⟨_, _, _, _, _, _, _, _, sread6_udp l hb hn _ _ 40 hH h8, hR⟩
    · refine ⟨adZ, adZ, 0, 0, 0, 0, false, false, ?_, rs6_no l hb hn h⟩
      by_cases h6 : Hd6 l
      · exact sread6_other l _ _ 40 _ (header6_c l hb hn h6) (fun hp => h ⟨h6, .inl hp⟩) (fun hp => h ⟨h6, .inr hp⟩)
      · exact sread6_no l (header6_bad l hb hn h6)
end Go.Proofs.Ytcobjneobdihkaa
