
/- Proved: SmoothPicks returns true for every input, and changes no memory that was there. Conditions: none. -/
import Derived.Test.YteocdobepgbnkaaSmoothJ
import Derived.Test.YteocdobepgbnkaaSmoothArgs2
namespace Go.Proofs.Yteocdobepgbnkaa
open Go.RowKit
namespace SmoothPicks
theorem view_on {w0 w : World} {A : Option Addr} {xs : List Value} (h : View w0 w0.heap.size A xs) (hk : Kp [] w0 w) : View w w.heap.size A xs := (h.below hk.below).more hk.size
set_option maxRecDepth 100000 in
set_option maxHeartbeats 4000000 in
theorem walk_all (A0 : Option Addr) (c0 n0 : Nat) (rs : List (Option Addr × List Cn × Nat)) (b : Int) (w0 : World) (hv0 : View w0 w0.heap.size A0 (rs.map candRow)) (hrs : ∀ p ∈ rs, CandRow w0 p) (hl0 : rs.length = n0) (hn0 : n0 ≤ 9223372036854775807) :
    Calls Try.prog 3 #[.slice A0 n0 c0, .int .i64 b] w0 fun e w' => e = .returned (.bool true) ∧ Below w0.heap.size w0 w' := by
  have hS := (St.sv w0).vcons rfl hv0
  refine ent (n := 141) Try.func3 rfl rfl ?_
  refine wp_seq_k ?_; intro K1 hK1
  refine wlit ?_
  refine wl_v (x_assign ev_c) ?_
  refine wl_nil ?_
  refine then_n (hK1 _ _ ?_); clear hK1 K1
  refine wp_seq_k ?_; intro K2 hK2
  refine wp_seq_k ?_; intro K3 hK3
  refine wlit ?_
  refine wl_e rfl ?_; intro K hK
  refine ow_call Try.func6 rfl rfl (evs_nil) (awake_c _) ?_
  rintro e w ⟨rfl, hk1⟩
  refine ⟨_, rfl, ?_⟩
  replace hS := hS.kept hk1
  clear hk1
  refine hK _ _ ?_; clear hK K
  refine wl_v (x_not (tmB rfl rfl)) ?_
  refine wl_nil ?_
  refine then_n (hK3 _ _ ?_); clear hK3 K3
  refine cnd (tm rfl) (fun hc0 => ?_) (fun hc0 => ?_)
  · exfalso
    exact absurd hc0 (by decide)
  try (exfalso; first | with_reducible exact absurd hc0 Bool.false_ne_true | with_reducible exact absurd hc0.symm Bool.false_ne_true | (simp only [nrm] at hc0; omega) | (simp at hc0; done))
  all_goals
   try simp only [nrm] at hc0
   refine wp_skip ?_
   refine then_n (hK2 _ _ ?_); clear hK2 K2
   refine wp_seq_k ?_; intro K4 hK4
   refine wlit ?_
   refine wl_v (x_build (bc_skip (.slice none 0 0) <| bc_nil) (by kernel_rfl)) ?_
   refine wl_e rfl ?_; intro K hK
   refine ow_box hS (tmA rfl rfl) rfl ?_
   clear hS; intro g3_1 w hg3_1 hS
   refine hK _ _ ?_; clear hK K
   refine wl_v (x_assign (tmP rfl rfl)) ?_
   refine wl_nil ?_
   refine then_n (hK4 _ _ ?_); clear hK4 K4
   refine wp_seq_k ?_; intro K5 hK5
   refine wlit ?_
   refine wl_v (x_assign ev_c) ?_
   refine wl_nil ?_
   refine then_n (hK5 _ _ ?_); clear hK5 K5
   refine wp_seq_k ?_; intro K6 hK6
   refine wp_seq_k ?_; intro K7 hK7
   refine wlit ?_
   refine wl_v (x_assign (ev_cN 0)) ?_
   refine wl_nil ?_
   refine then_n (hK7 _ _ ?_); clear hK7 K7
   refine wp_block ?_
   have hS := (hS.nilrow 66 3).addn (Kp.refl _ _) (NewV.nil_ _ _ none)
   refine lp [4, 6, 7, 8, 9, 10, 11, 12, 13, 21, 22, 23, 24, 25, 26, 27, 28, 29, 30, 31, 32, 33, 34, 35, 36, 37, 38, 39, 40, 41, 42, 43, 44, 45, 46, 47, 48, 49, 50, 51, 52, 53, 54, 55, 56, 57, 58, 59, 60, 61, 62, 63, 64, 65, 66, 67, 68, 69, 70, 71, 72, 73, 74, 75, 76, 77, 78, 79, 80, 81, 82, 83, 84, 85, 86, 87, 88, 89, 90, 91, 92, 93, 94, 95, 96, 97, 98, 99, 100, 101, 102, 103, 104, 105, 106, 107, 108, 109, 110, 111, 112, 113, 114, 115, 116, 117, 118, 119, 120, 121, 122, 123] (fun mz g w => ∃ (k : Nat), ∃ (Ka R : Option Addr), ∃ (q ck cr : Nat), ∃ (sh : List Sh), mz = n0 - k ∧ g 7 = .int .i64 (k : Int) ∧ g 6 = .slice R q cr ∧ St [] w0 [.vw R (flat shV sh), .row (.slice Ka q ck) 66 3 q (flat crV (sh.map Sh.cr)), .blk g3_1 27 [.slice Ka q ck], .vw A0 (rs.map candRow)] w ∧ (k ≤ n0) ∧ (sh.length = q) ∧ (FairK (sh.map Sh.cr) (4000 * k)) ∧ (ApartK (sh.map Sh.cr)) ∧ (q ≤ 30)) ?_ ?_
   · exact ⟨_, 0, none, none, 0, 0, 0, [], rfl, (by first | rfl | go_num | exact congrArg (Value.int _) (by first | omega | (simp; done) | (simp; omega))), (by first | rfl | go_num | exact congrArg (Value.int _) (by first | omega | (simp; done) | (simp; omega))), hS, (by omega), (by first | rfl | exact hq | exact hq2), (by first | (intro i hi; exact absurd hi (Nat.not_lt_zero _)) | exact hfair2), (by first | (intro i j hi; exact absurd hi (Nat.not_lt_zero _)) | exact hapt | exact hapt2), (by omega)⟩
   · clear hS; intro mz g w hI
     obtain ⟨k, Ka, R, q, ck, cr, sh, rfl, hs7, hs6, hS, hk, hq, hfair, hapt, hq30⟩ := hI
     refine fr_know (d := 7) hs7 ?_; clear hs7
     refine fr_know (d := 6) hs6 ?_; clear hs6
     refine wp_seq_k ?_; intro K8 hK8
     refine wp_seq_k ?_; intro K9 hK9
     refine wlit ?_
     refine wl_v (x_move (tmI rfl rfl)) ?_
     refine wl_v (x_move (tmS rfl rfl)) ?_
     refine wl_v (x_len Try.underlying22 (tmS rfl rfl)) ?_
     refine wl_v (x_lss (tmI rfl rfl) (tmI rfl rfl)) ?_
     refine wl_v (x_move (tmB rfl rfl)) ?_
     refine gs_wl (tm (t := 25) rfl) (fun hg6_4 => ?_) (fun hg6_4 => ?_)
     · have hg6_4' := hg6_4; (try simp only [nrm] at hg6_4'); try (exfalso; first | with_reducible exact absurd hg6_4 Bool.false_ne_true | with_reducible exact absurd hg6_4.symm Bool.false_ne_true | omega | (simp at hg6_4; done))
       all_goals
        refine wl_gv (want_y rfl rfl rfl rfl (by rw [hg6_4]; rfl)) (x_move (tmI rfl rfl)) ?_
        refine wl_gv (want_y rfl rfl rfl rfl (by rw [hg6_4]; rfl)) (x_lss (tmI rfl rfl) (ev_cN 60)) ?_
        refine wl_v (x_pickT (tmB rfl rfl) hg6_4 (tmB rfl rfl)) ?_
        refine wl_nil ?_
        refine then_n (hK9 _ _ ?_); clear hK9 K9
        refine cnd (tm rfl) (fun hc1 => ?_) (fun hc1 => ?_)
        · try (exfalso; first | with_reducible exact absurd hc1 Bool.false_ne_true | with_reducible exact absurd hc1.symm Bool.false_ne_true | (simp only [nrm] at hc1; omega) | (simp at hc1; done))
          all_goals
           try simp only [nrm] at hc1
           have hkn : k < n0 := by omega
           have hk60 : k < 60 := by omega
           obtain ⟨⟨Ai, li, ci⟩, hrk⟩ : ∃ p, rs[k]? = some p := ⟨_, List.getElem?_eq_getElem (by omega)⟩
           have hcell : (rs.map candRow)[k]? = some (.slice Ai li.length ci) := by rw [List.getElem?_map, hrk]; rfl
           obtain ⟨hci, hcm, hvi⟩ := hrs _ (List.mem_of_getElem? hrk)
           have hmx : maxLen = 9223372036854775807 := by simp [maxLen]
           rw [hmx] at hcm
           have hli : li.length ≤ 9223372036854775807 := Nat.le_trans hci hcm
           obtain ⟨b0, o0, rfl⟩ := view_some hv0 (by rw [List.length_map]; omega)
           refine wp_skip ?_
           refine then_n (hK8 _ _ ?_); clear hK8 K8
           refine wp_seq_k ?_; intro K10 hK10
           refine wp_block ?_
           refine wp_seq_k ?_; intro K11 hK11
           refine wp_seq_k ?_; intro K12 hK12
           refine wlit ?_
           refine wl_v (x_move (tmS rfl rfl)) ?_
           refine wl_v (x_move (tmI rfl rfl)) ?_
           refine wl_v (x_ixs1 Try.underlying22 ts_30 (tmS rfl rfl) (tmI rfl rfl) (by omega)) ?_
           refine wl_v (x_load Try.underlying30 rfl (tmP rfl rfl) (cellV hS.ok 3 rfl hcell)) ?_
           refine wl_e rfl ?_; intro K hK
           refine ow_call Try.func7 rfl rfl (evs_cons (tmS rfl rfl) <| evs_nil) (right_c li.length Ai ci li _ (view_on hvi hS.kp) rfl hli) ?_
           rintro e w ⟨b1, rfl, hb1, hk1⟩
           refine ⟨_, rfl, ?_⟩
           replace hS := hS.kept hk1
           clear hk1
           refine hK _ _ ?_; clear hK K
           refine wl_v (x_not (tmB rfl rfl)) ?_
           refine wl_nil ?_
           refine then_n (hK12 _ _ ?_); clear hK12 K12
           refine cnd (tm rfl) (fun hc2 => ?_) (fun hc2 => ?_)
           · try (exfalso; first | with_reducible exact absurd hc2 Bool.false_ne_true | with_reducible exact absurd hc2.symm Bool.false_ne_true | (simp only [nrm] at hc2; omega) | (simp at hc2; done))
             all_goals
              try simp only [nrm] at hc2
              have hfair2 : FairK (sh.map Sh.cr) (4000 * ((k + 1 : Nat) : Int)) := by
                intro i hi
                have := hfair i hi
                omega
              refine wp_exit ?_
              refine then_x ?_; clear hK11 K11
              refine inb_x ?_
              refine then_n (hK10 _ _ ?_); clear hK10 K10
              refine wlit ?_
              refine wl_v (x_move (tmI rfl rfl)) ?_
              first
               | refine wl_v (x_addN (tmI rfl rfl) (ev_cN 1) (fit_i64 (by omega))) ?_
               | refine wl_v (x_addI (tmI rfl rfl) (ev_cN 1) (IntWalk.i64_in _ (by omega))) ?_
               | refine wl_v (x_add (tmI rfl rfl) (ev_cN 1)) ?_
              refine wl_v (x_assign (tmI rfl rfl)) ?_
              refine wl_nil ?_
              first
               | exact then_n ⟨_, _, rfl, (by show _ < _; omega), (by repeat (first | exact agree_self | exact agree_refl | refine agree_upd rfl ?_ | refine agree_mix rfl ?_)), k + 1, _, _, _, _, _, _, rfl, (by first | rfl | go_num | exact congrArg (Value.int _) (by first | omega | (simp; done) | (simp; omega))), (by first | rfl | go_num | exact congrArg (Value.int _) (by first | omega | (simp; done) | (simp; omega))), hS, (by omega), (by first | rfl | exact hq | exact hq2), (by first | (intro i hi; exact absurd hi (Nat.not_lt_zero _)) | exact hfair2), (by first | (intro i j hi; exact absurd hi (Nat.not_lt_zero _)) | exact hapt | exact hapt2), (by omega)⟩
               | exact then_n ⟨_, _, rfl, (by show _ < _; omega), (by repeat (first | exact agree_self | exact agree_refl | refine agree_upd rfl ?_ | refine agree_mix rfl ?_)), k + 1, _, _, _, _, _, _, rfl, (by first | rfl | go_num | exact congrArg (Value.int _) (by first | omega | (simp; done) | (simp; omega))), (by first | rfl | go_num | exact congrArg (Value.int _) (by first | omega | (simp; done) | (simp; omega))), hS, (by omega), (by first | rfl | exact hq | exact hq2), (by first | (intro i hi; exact absurd hi (Nat.not_lt_zero _)) | exact hfair2), (by first | (intro i j hi; exact absurd hi (Nat.not_lt_zero _)) | exact hapt | exact hapt2), (by omega)⟩
           try (exfalso; first | with_reducible exact absurd hc2 Bool.false_ne_true | with_reducible exact absurd hc2.symm Bool.false_ne_true | (simp only [nrm] at hc2; omega) | (simp at hc2; done))
           all_goals
            try simp only [nrm] at hc2
            obtain ⟨hn30, hR, hA⟩ := hb1 (by simpa using hc2)
            have hall := right_all hR
            obtain ⟨wt, hwt⟩ : ∃ wt, wt = wfT li li.length := ⟨_, rfl⟩
            have hwn : wt.length ≤ 30 := by rw [hwt]; exact Nat.le_trans (wfT_le _ _) hn30
            have hww : ∀ i, i < wt.length → 0 ≤ (wt.getD i default).weight ∧ (wt.getD i default).weight ≤ 100 := by rw [hwt]; exact wf_weight hR
            have hwa : ApartW wt := by rw [hwt]; exact wf_apartB hR hA
            have hmild : Mild (startP (wfT li li.length) (sh.map Sh.cr)) := by
              rw [← hwt]; exact mild_fair (fair_start (by omega) hww hfair) (by omega)
            have hfair2 : FairK (nextK wt (sh.map Sh.cr)) (4000 * ((k + 1 : Nat) : Int)) := by
              rw [show (4000 * ((k + 1 : Nat) : Int)) = 4000 * (k : Int) + 4000 by omega]
              exact fair_next (by omega) hww hwn hfair
            have hapt2 : ApartK (nextK wt (sh.map Sh.cr)) := apart_next hwa hapt
            have hql : (nextK wt (sh.map Sh.cr)).length ≤ 30 := next_len hwn (by rw [List.length_map]; omega)
            refine wp_skip ?_
            refine then_n (hK11 _ _ ?_); clear hK11 K11
            refine wp_seq_k ?_; intro K13 hK13
            refine wlit ?_
            refine wl_v (x_move (tmP rfl rfl)) ?_
            refine wl_v (x_move (tmS rfl rfl)) ?_
            refine wl_v (x_move (tmI rfl rfl)) ?_
            refine wl_v (x_ixs1 Try.underlying22 ts_30 (tmS rfl rfl) (tmI rfl rfl) (by omega)) ?_
            refine wl_v (x_load Try.underlying30 rfl (tmP rfl rfl) (cellV hS.ok 3 rfl hcell)) ?_
            refine wl_e rfl ?_; intro K hK
            refine ow_call Try.func9 rfl rfl (evs_cons (tmS rfl rfl) <| evs_nil) (to_c li.length Ai ci li _ (view_on hvi hS.kp) rfl (by omega)) ?_
            rintro e w ⟨A2, c2, rfl, hn2, hk2⟩
            refine ⟨_, rfl, ?_⟩
            replace hS := hS.add hk2 hn2 -- +1
            clear hn2 hk2
            refine hK _ _ ?_; clear hK K
            refine wl_e rfl ?_; intro K hK
            refine ow_call Try.func8 rfl rfl (evs_cons (tmP rfl rfl) <| evs_cons (tmS rfl rfl) <| evs_nil) (pick_j g3_1 Ka q ck (sh.map Sh.cr) li.length A2 c2 li _ _ (hS.enter [2, 3] [0] rfl rfl) rfl (by rw [List.length_map]; exact hq) (by omega) hmild) ?_
            rintro e w ⟨K2, m2, k2, rfl, hm2, hS2⟩
            refine ⟨_, rfl, ?_⟩
            replace hS := hS.leave [2, 3] [1, 4] rfl rfl rfl (hS2.pick [0, 1] rfl rfl) rfl -- --ents row,g3_1,vr,vw
            clear hS2
            rw [← hwt] at hS hm2 ⊢
            try replace hS := St.nm (M' := [.row _ _ _ _ _, .blk _ _ [_], .vw _ _, .vw _ _]) hS rfl
            refine hK _ _ ?_; clear hK K
            refine wl_v (x_move (tmT rfl rfl)) ?_
            refine wl_v (x_ext (tmT rfl rfl) rfl) ?_
            refine wl_v (x_ext (tmT rfl rfl) rfl) ?_
            refine wl_e rfl ?_; intro K hK
            refine ow_alloc hS tz_33 rfl ?_
            clear hS; intro g9_10 w hg9_10 hS
            refine hK _ _ ?_; clear hK K
            refine wl_e rfl ?_; intro K hK
            refine ow_storeA hS 0 rfl ts_33 (tmP rfl rfl) (tmA rfl rfl) rfl rfl rfl ?_
            clear hS; intro w hS
            try replace hS := St.nm (M' := [.blk _ _ [_, _, _, _], .row _ _ _ _ _, .blk _ _ [_], .vw _ _, .vw _ _]) hS rfl
            refine hK _ _ ?_; clear hK K
            refine wl_v (x_assign (tmB rfl rfl)) ?_
            refine wl_nil ?_
            refine then_n (hK13 _ _ ?_); clear hK13 K13
            refine wp_seq_k ?_; intro K14 hK14
            refine wlit ?_
            refine wl_v (x_move (tmS rfl rfl)) ?_
            refine wl_v (x_move (tmS rfl rfl)) ?_
            refine wl_v (x_move (tmI rfl rfl)) ?_
            refine wl_v (x_ixs1 Try.underlying22 ts_30 (tmS rfl rfl) (tmI rfl rfl) (by omega)) ?_
            refine wl_v (x_load Try.underlying30 rfl (tmP rfl rfl) (cellV hS.ok 4 rfl hcell)) ?_
            refine wl_e rfl ?_; intro K hK
            refine ow_call Try.func10 rfl rfl (evs_cons (tmS rfl rfl) <| evs_cons (tmS rfl rfl) <| evs_nil) (rpick_j q R cr sh li.length Ai ci li _ (viewV hS.ok 3 rfl) (view_on hvi hS.kp) hq rfl (by omega) (by omega) hmild (fun i hi => by have := hall i hi; omega) (wf_sum hR)) ?_
            rintro e w ⟨R2, q2, cr2, sh2, z, rfl, hq2, hrel2, hz1, hz2, hor, hk2⟩
            refine ⟨_, rfl, ?_⟩
            replace hS := hS.orv 3 rfl hk2 hor -- +vx
            clear hk2 hor
            rw [← hwt] at hrel2 hz1 hz2
            obtain rfl : m2 = q2 := by rw [← hm2, ← hrel2, List.length_map]; exact hq2
            rw [← hrel2] at hS hfair2 hapt2 hql
            rw [List.length_map, hq2] at hql
            refine hK _ _ ?_; clear hK K
            refine wl_v (x_move (tmT rfl rfl)) ?_
            refine wl_v (x_ext (tmT rfl rfl) rfl) ?_
            refine wl_v (x_ext (tmT rfl rfl) rfl) ?_
            refine wl_v (x_assign (tmS rfl rfl)) ?_
            refine wl_v (x_assign (tmI rfl rfl)) ?_
            refine wl_nil ?_
            refine then_n (hK14 _ _ ?_); clear hK14 K14
            refine wp_seq_k ?_; intro K15 hK15
            refine wlit ?_
            refine wl_v (x_move (tmS rfl rfl)) ?_
            refine wl_v (x_assign (tmS rfl rfl)) ?_
            refine wl_nil ?_
            refine then_n (hK15 _ _ ?_); clear hK15 K15
            refine wp_seq_k ?_; intro K16 hK16
            refine wp_seq_k ?_; intro K17 hK17
            refine cutc [57, 58, 59, 60, 61, 62, 63, 64, 65, 66, 67, 68, 69, 70, 71, 72, 73, 74, 75, 76, 77, 78, 79, 80, 81, 82, 83, 84, 85] (fun g w => g 85 = .bool false ∧ St [] w0 [.vw R2 (flat shV sh2), .row (.slice K2 m2 k2) 66 3 m2 (flat crV (sh2.map Sh.cr)), .blk g3_1 27 [.slice K2 m2 k2], .vw (some ⟨b0, o0, none⟩) (rs.map candRow)] w) ?_ ?_
            · skip
              refine rg_startk 0 hS mixed_ ?_
              clear hS; intro w hS
              refine rg_take 0 rfl rfl (by kernel_rfl) (by kernel_rfl) (by kernel_rfl) (want_0) (fun w hok => x_move (tmB rfl rfl)) ?_
              refine rg_take 1 rfl rfl (by kernel_rfl) (by kernel_rfl) (by kernel_rfl) (want_0) (fun w hok => x_move (tmI rfl rfl)) ?_
              refine rg_take 2 rfl rfl (by kernel_rfl) (by kernel_rfl) (by kernel_rfl) (want_0) (fun w hok => x_geq (tmI rfl rfl) (ev_cN 0)) ?_
              refine rg_take 3 rfl rfl (by kernel_rfl) (by kernel_rfl) (by kernel_rfl) (want_0) (fun w hok => x_bneq Try.underlying4 (tmB rfl rfl) (tmB rfl rfl)) ?_
              refine rg_take 4 rfl rfl (by kernel_rfl) (by kernel_rfl) (by kernel_rfl) (want_0) (fun w hok => x_move (tmB rfl rfl)) ?_
              refine gs_rg (tm (t := 61) rfl) (fun hg12_4 => ?_) (fun hg12_4 => ?_)
              · exfalso
                by_cases hw0 : 0 < wt.length
                · obtain ⟨b5, rfl, _, _⟩ := hz1 hw0
                  simp [hw0] at hg12_4
                · rw [hz2 hw0] at hg12_4
                  simp [hw0] at hg12_4
              have hg12_4' := hg12_4; (try simp only [nrm] at hg12_4'); try (exfalso; first | with_reducible exact absurd hg12_4 Bool.false_ne_true | with_reducible exact absurd hg12_4.symm Bool.false_ne_true | omega | (simp at hg12_4; done))
              all_goals
               refine rg_take 5 rfl rfl (by kernel_rfl) (by kernel_rfl) (by kernel_rfl) (want_y rfl rfl rfl rfl (by rw [hg12_4]; rfl)) (fun w hok => x_move (tmB rfl rfl)) ?_
               refine rg_take 6 rfl rfl (by kernel_rfl) (by kernel_rfl) (by kernel_rfl) (want_y rfl rfl rfl rfl (by rw [hg12_4]; rfl)) (fun w hok => x_not (tmB rfl rfl)) ?_
               refine rg_take 7 rfl rfl (by kernel_rfl) (by kernel_rfl) (by kernel_rfl) (want_y rfl rfl rfl rfl (by rw [hg12_4]; rfl)) (fun w hok => x_move (tmB rfl rfl)) ?_
               refine gs_rg (tm (t := 64) rfl) (fun hg12_7 => ?_) (fun hg12_7 => ?_)
               · have hg12_7' := hg12_7; (try simp only [nrm] at hg12_7'); try (exfalso; first | with_reducible exact absurd hg12_7 Bool.false_ne_true | with_reducible exact absurd hg12_7.symm Bool.false_ne_true | omega | (simp at hg12_7; done))
                 all_goals
                  refine rg_take 8 rfl rfl (by kernel_rfl) (by kernel_rfl) (by kernel_rfl) (want_y rfl rfl rfl rfl (by rw [hg12_7]; rfl)) (fun w hok => x_loadA (cs := [_, _, _, _]) Try.underlying33 rfl ts_33 (tmP rfl rfl) (rangeB hok 1 rfl rfl)) ?_
                  refine rg_take 9 rfl rfl (by kernel_rfl) (by kernel_rfl) (by kernel_rfl) (want_y rfl rfl rfl rfl (by rw [hg12_7]; rfl)) (fun w hok => x_build (bc_skip (.int .i64 0) <| bc_skip (.int .i64 0) <| bc_skip (.int .i64 0) <| bc_skip (.int .u32 0) <| bc_nil) (by kernel_rfl)) ?_
                  refine rg_take 10 rfl rfl (by kernel_rfl) (by kernel_rfl) (by kernel_rfl) (want_y rfl rfl rfl rfl (by rw [hg12_7]; rfl)) (fun w hok => x_Aneq (by kernel_rfl) (tmA rfl rfl) (tmA rfl rfl) (eqv_A Try.underlying33 (by kernel_rfl) (fe_cons rfl (pt_1 Try.underlying3 rfl rfl) (pt_1 Try.underlying3 rfl rfl) (eqv_i Try.underlying3) <| fe_cons rfl (pt_1 Try.underlying3 rfl rfl) (pt_1 Try.underlying3 rfl rfl) (eqv_i Try.underlying3) <| fe_cons rfl (pt_1 Try.underlying3 rfl rfl) (pt_1 Try.underlying3 rfl rfl) (eqv_i Try.underlying3) <| fe_cons rfl (pt_1 Try.underlying31 rfl rfl) (pt_1 Try.underlying31 rfl rfl) (eqv_i Try.underlying31) <| fe_nil))) ?_
                  refine rg_take 11 rfl rfl (by kernel_rfl) (by kernel_rfl) (by kernel_rfl) (want_y rfl rfl rfl rfl (by rw [hg12_4]; rfl)) (fun w hok => x_pickT (tmB rfl rfl) hg12_7 (tmB rfl rfl)) ?_
                  refine rg_take 12 rfl rfl (by kernel_rfl) (by kernel_rfl) (by kernel_rfl) (want_0) (fun w hok => x_pickF (tmB rfl rfl) hg12_4 (tmB rfl rfl)) ?_
                  refine rg_take 13 rfl rfl (by kernel_rfl) (by kernel_rfl) (by kernel_rfl) (want_0) (fun w hok => x_move (tmB rfl rfl)) ?_
                  refine gs_rg (tm (t := 70) rfl) (fun hg12_13 => ?_) (fun hg12_13 => ?_)
                  · exfalso
                    first
                     | (have hw0 : ¬ 0 < wt.length := by simpa using hg12_7
                        have e : toldC wt (sh.map Sh.cr) = default := by unfold toldC; rw [if_neg hw0]
                        rw [e] at hg12_13
                        exact absurd hg12_13 (by decide))
                     | (rw [hg12_7] at hg12_13
                        cases hg12_13)
                     | cases hg12_13
                  have hg12_13' := hg12_13; (try simp only [nrm] at hg12_13'); try (exfalso; first | with_reducible exact absurd hg12_13 Bool.false_ne_true | with_reducible exact absurd hg12_13.symm Bool.false_ne_true | omega | (simp at hg12_13; done))
                  all_goals
                   refine rg_take 14 rfl rfl (by kernel_rfl) (by kernel_rfl) (by kernel_rfl) (want_y rfl rfl rfl rfl (by rw [hg12_13]; rfl)) (fun w hok => x_move (tmB rfl rfl)) ?_
                   refine rg_take 15 rfl rfl (by kernel_rfl) (by kernel_rfl) (by kernel_rfl) (want_y rfl rfl rfl rfl (by rw [hg12_13]; rfl)) (fun w hok => x_move (tmB rfl rfl)) ?_
                   refine gs_rg (tm (t := 72) rfl) (fun hg12_15 => ?_) (fun hg12_15 => ?_)
                   · have hg12_15' := hg12_15; (try simp only [nrm] at hg12_15'); try (exfalso; first | with_reducible exact absurd hg12_15 Bool.false_ne_true | with_reducible exact absurd hg12_15.symm Bool.false_ne_true | omega | (simp at hg12_15; done))
                     all_goals
                      have hw0 : 0 < wt.length := by simpa using hg12_15
                      obtain ⟨b5, rfl, hb5, hcn⟩ := hz1 hw0
                      obtain ⟨bR, oR, rfl⟩ := view_some (viewV hS.ok 0 rfl) (by rw [flat_length shV_len]; omega)
                      refine rg_take 16 rfl rfl (by kernel_rfl) (by kernel_rfl) (by kernel_rfl) (want_y rfl rfl rfl rfl (by rw [hg12_15]; rfl)) (fun w hok => x_loadA (cs := [_, _, _, _]) Try.underlying33 rfl ts_33 (tmP rfl rfl) (rangeB hok 1 rfl rfl)) ?_
                      refine rg_take 17 rfl rfl (by kernel_rfl) (by kernel_rfl) (by kernel_rfl) (want_y rfl rfl rfl rfl (by rw [hg12_15]; rfl)) (fun w hok => x_move (tmS rfl rfl)) ?_
                      refine rg_take 18 rfl rfl (by kernel_rfl) (by kernel_rfl) (by kernel_rfl) (want_y rfl rfl rfl rfl (by rw [hg12_15]; rfl)) (fun w hok => x_move (tmI rfl rfl)) ?_
                      refine rg_take 19 rfl rfl (by kernel_rfl) (by kernel_rfl) (by kernel_rfl) (want_y rfl rfl rfl rfl (by rw [hg12_15]; rfl)) (fun w hok => x_ixs Try.underlying28 ts_42 (tmS rfl rfl) (tmI rfl rfl) (by omega)) ?_
                      refine rg_take 20 rfl rfl (by kernel_rfl) (by kernel_rfl) (by kernel_rfl) (want_y rfl rfl rfl rfl (by rw [hg12_15]; rfl)) (fun w hok => x_fa 0 Try.underlying42 rfl rfl ts_40 (tmP rfl rfl)) ?_
                      refine rg_take 21 rfl rfl (by kernel_rfl) (by kernel_rfl) (by kernel_rfl) (want_y rfl rfl rfl rfl (by rw [hg12_15]; rfl)) (fun w hok => x_loadA Try.underlying40 rfl (by exact ts_40) (tmP rfl rfl) (range_cn (rangeVs hok 0 rfl shV_len (by omega)))) ?_
                      refine rg_step 22 rfl (by kernel_rfl) (want_y rfl rfl rfl rfl (by rw [hg12_15]; rfl)) (oks_drop hS 0 rfl) ?_; intro K hK
                      refine ow_build hS Try.underlying30 tz_40 (bc_takeL (tmA rfl rfl) <| bc_nil) rfl rfl (by kernel_rfl) ?_
                      clear hS; intro g12_22 w hg12_22 hS
                      refine hK _ _ ?_; clear hK K
                      refine rg_step 23 rfl (by kernel_rfl) (want_y rfl rfl rfl rfl (by rw [hg12_15]; rfl)) (oks_drop hS 1 rfl) ?_; intro K hK
                      refine ow_call Try.func9 rfl rfl (evs_cons (tmS rfl rfl) <| evs_nil) (to_c 1 _ _ [(sh2.getD b5 default).cn] _ (viewB hS.ok 0 rfl) rfl (by omega)) ?_
                      rintro e w ⟨A3, c3, rfl, hn3, hk3⟩
                      refine ⟨_, rfl, ?_⟩
                      replace hS := hS.add hk3 hn3 -- +1
                      clear hn3 hk3
                      obtain ⟨gA, rfl⟩ := row_some (hS.rowOk 0 rfl) (by omega)
                      refine hK _ _ ?_; clear hK K
                      refine rg_take 24 rfl rfl (by kernel_rfl) (by kernel_rfl) (by kernel_rfl) (want_y rfl rfl rfl rfl (by rw [hg12_15]; rfl)) (fun w hok => x_ixs Try.underlying36 ts_33 (tmS rfl rfl) (ev_cN 0) (by omega)) ?_
                      refine rg_step 25 rfl (by kernel_rfl) (want_y rfl rfl rfl rfl (by rw [hg12_15]; rfl)) (oks_drop hS 2 rfl) ?_; intro K hK
                      refine ow_v (x_loadA Try.underlying33 rfl (by exact ts_33) (tmP rfl rfl) (rangeRs (enc := cnV) (j := 0) hS.ok 0 rfl cnV_len (by simp))) ?_
                      refine hK _ _ ?_; clear hK K
                      refine rg_take 26 rfl rfl (by kernel_rfl) (by kernel_rfl) (by kernel_rfl) (want_y rfl rfl rfl rfl (by rw [hg12_15]; rfl)) (fun w hok => x_Aneq (by kernel_rfl) (tmA rfl rfl) (tmA rfl rfl) (eqv_A Try.underlying33 (by kernel_rfl) (fe_cons rfl (pt_1 Try.underlying3 rfl rfl) (pt_1 Try.underlying3 rfl rfl) (eqv_i Try.underlying3) <| fe_cons rfl (pt_1 Try.underlying3 rfl rfl) (pt_1 Try.underlying3 rfl rfl) (eqv_i Try.underlying3) <| fe_cons rfl (pt_1 Try.underlying3 rfl rfl) (pt_1 Try.underlying3 rfl rfl) (eqv_i Try.underlying3) <| fe_cons rfl (pt_1 Try.underlying31 rfl rfl) (pt_1 Try.underlying31 rfl rfl) (eqv_i Try.underlying31) <| fe_nil))) ?_
                      refine rg_take 27 rfl rfl (by kernel_rfl) (by kernel_rfl) (by kernel_rfl) (want_y rfl rfl rfl rfl (by rw [hg12_13]; rfl)) (fun w hok => x_pickT (tmB rfl rfl) hg12_15 (tmB rfl rfl)) ?_
                      refine rg_take 28 rfl rfl (by kernel_rfl) (by kernel_rfl) (by kernel_rfl) (want_0) (fun w hok => x_pickF (tmB rfl rfl) hg12_13 (tmB rfl rfl)) ?_
                      refine rg_done (oks_drop hS 2 rfl) (by kernel_rfl) ?_
                      exact then_n ⟨_, rfl, (by repeat (first | exact agree_self | exact agree_refl | refine agree_upd rfl ?_ | refine agree_mix rfl ?_)), (by first | rfl | (first | exact congrArg Value.bool hg12_15 | (exact congrArg Value.bool (by rw [hcn]; simp)) | exact congrArg Value.bool (by rw [← hcn]; simp); done) | (first | exact congrArg Value.bool hg12_15 | (exact congrArg Value.bool (by rw [hcn]; simp)) | exact congrArg Value.bool (by rw [← hcn]; simp); rfl) | (first | exact congrArg Value.bool hg12_15 | (exact congrArg Value.bool (by rw [hcn]; simp)) | exact congrArg Value.bool (by rw [← hcn]; simp); go_num)), (hS.pick [2, 4, 5, 7] rfl rfl)⟩
                   have hg12_15' := hg12_15; (try simp only [nrm] at hg12_15'); try (exfalso; first | with_reducible exact absurd hg12_15 Bool.false_ne_true | with_reducible exact absurd hg12_15.symm Bool.false_ne_true | omega | (simp at hg12_15; done))
                   all_goals
                    refine rg_skip 16 rfl rfl (by kernel_rfl) (by kernel_rfl) (by kernel_rfl) (want_n rfl rfl rfl rfl (by rw [hg12_15]; rfl)) ?_
                    refine rg_skip 17 rfl rfl (by kernel_rfl) (by kernel_rfl) (by kernel_rfl) (want_n rfl rfl rfl rfl (by rw [hg12_15]; rfl)) ?_
                    refine rg_skip 18 rfl rfl (by kernel_rfl) (by kernel_rfl) (by kernel_rfl) (want_n rfl rfl rfl rfl (by rw [hg12_15]; rfl)) ?_
                    refine rg_skip 19 rfl rfl (by kernel_rfl) (by kernel_rfl) (by kernel_rfl) (want_n rfl rfl rfl rfl (by rw [hg12_15]; rfl)) ?_
                    refine rg_skip 20 rfl rfl (by kernel_rfl) (by kernel_rfl) (by kernel_rfl) (want_n rfl rfl rfl rfl (by rw [hg12_15]; rfl)) ?_
                    refine rg_skip 21 rfl rfl (by kernel_rfl) (by kernel_rfl) (by kernel_rfl) (want_n rfl rfl rfl rfl (by rw [hg12_15]; rfl)) ?_
                    refine rg_skip 22 rfl rfl (by kernel_rfl) (by kernel_rfl) (by kernel_rfl) (want_n rfl rfl rfl rfl (by rw [hg12_15]; rfl)) ?_
                    refine rg_skip 23 rfl rfl (by kernel_rfl) (by kernel_rfl) (by kernel_rfl) (want_n rfl rfl rfl rfl (by rw [hg12_15]; rfl)) ?_
                    refine rg_skip 24 rfl rfl (by kernel_rfl) (by kernel_rfl) (by kernel_rfl) (want_n rfl rfl rfl rfl (by rw [hg12_15]; rfl)) ?_
                    refine rg_skip 25 rfl rfl (by kernel_rfl) (by kernel_rfl) (by kernel_rfl) (want_n rfl rfl rfl rfl (by rw [hg12_15]; rfl)) ?_
                    refine rg_skip 26 rfl rfl (by kernel_rfl) (by kernel_rfl) (by kernel_rfl) (want_n rfl rfl rfl rfl (by rw [hg12_15]; rfl)) ?_
                    refine rg_take 27 rfl rfl (by kernel_rfl) (by kernel_rfl) (by kernel_rfl) (want_y rfl rfl rfl rfl (by rw [hg12_13]; rfl)) (fun w hok => x_pickF (tmB rfl rfl) hg12_15 ev_c) ?_
                    refine rg_take 28 rfl rfl (by kernel_rfl) (by kernel_rfl) (by kernel_rfl) (want_0) (fun w hok => x_pickF (tmB rfl rfl) hg12_13 (tmB rfl rfl)) ?_
                    refine rg_done (oks_drop hS 0 rfl) (by kernel_rfl) ?_
                    exact then_n ⟨_, rfl, (by repeat (first | exact agree_self | exact agree_refl | refine agree_upd rfl ?_ | refine agree_mix rfl ?_)), (by first | rfl | (first | exact congrArg Value.bool hg12_15 | (exact congrArg Value.bool (by rw [hcn]; simp)) | exact congrArg Value.bool (by rw [← hcn]; simp); done) | (first | exact congrArg Value.bool hg12_15 | (exact congrArg Value.bool (by rw [hcn]; simp)) | exact congrArg Value.bool (by rw [← hcn]; simp); rfl) | (first | exact congrArg Value.bool hg12_15 | (exact congrArg Value.bool (by rw [hcn]; simp)) | exact congrArg Value.bool (by rw [← hcn]; simp); go_num)), (hS.pick [0, 2, 3, 5] rfl rfl)⟩
               have hg12_7' := hg12_7; (try simp only [nrm] at hg12_7'); try (exfalso; first | with_reducible exact absurd hg12_7 Bool.false_ne_true | with_reducible exact absurd hg12_7.symm Bool.false_ne_true | omega | (simp at hg12_7; done))
               all_goals
                refine rg_skip 8 rfl rfl (by kernel_rfl) (by kernel_rfl) (by kernel_rfl) (want_n rfl rfl rfl rfl (by rw [hg12_7]; rfl)) ?_
                refine rg_skip 9 rfl rfl (by kernel_rfl) (by kernel_rfl) (by kernel_rfl) (want_n rfl rfl rfl rfl (by rw [hg12_7]; rfl)) ?_
                refine rg_skip 10 rfl rfl (by kernel_rfl) (by kernel_rfl) (by kernel_rfl) (want_n rfl rfl rfl rfl (by rw [hg12_7]; rfl)) ?_
                refine rg_take 11 rfl rfl (by kernel_rfl) (by kernel_rfl) (by kernel_rfl) (want_y rfl rfl rfl rfl (by rw [hg12_4]; rfl)) (fun w hok => x_pickF (tmB rfl rfl) hg12_7 ev_c) ?_
                refine rg_take 12 rfl rfl (by kernel_rfl) (by kernel_rfl) (by kernel_rfl) (want_0) (fun w hok => x_pickF (tmB rfl rfl) hg12_4 (tmB rfl rfl)) ?_
                refine rg_take 13 rfl rfl (by kernel_rfl) (by kernel_rfl) (by kernel_rfl) (want_0) (fun w hok => x_move (tmB rfl rfl)) ?_
                refine rg_take 14 rfl rfl (by kernel_rfl) (by kernel_rfl) (by kernel_rfl) (want_y rfl rfl rfl rfl rfl) (fun w hok => x_move (tmB rfl rfl)) ?_
                refine rg_take 15 rfl rfl (by kernel_rfl) (by kernel_rfl) (by kernel_rfl) (want_y rfl rfl rfl rfl rfl) (fun w hok => x_move (tmB rfl rfl)) ?_
                refine gs_rg (tm (t := 72) rfl) (fun hg12_15 => ?_) (fun hg12_15 => ?_)
                · have hg12_15' := hg12_15; (try simp only [nrm] at hg12_15'); try (exfalso; first | with_reducible exact absurd hg12_15 Bool.false_ne_true | with_reducible exact absurd hg12_15.symm Bool.false_ne_true | omega | (simp at hg12_15; done))
                  all_goals
                   have hw0 : 0 < wt.length := by simpa using hg12_15
                   obtain ⟨b5, rfl, hb5, hcn⟩ := hz1 hw0
                   obtain ⟨bR, oR, rfl⟩ := view_some (viewV hS.ok 0 rfl) (by rw [flat_length shV_len]; omega)
                   refine rg_take 16 rfl rfl (by kernel_rfl) (by kernel_rfl) (by kernel_rfl) (want_y rfl rfl rfl rfl (by rw [hg12_15]; rfl)) (fun w hok => x_loadA (cs := [_, _, _, _]) Try.underlying33 rfl ts_33 (tmP rfl rfl) (rangeB hok 1 rfl rfl)) ?_
                   refine rg_take 17 rfl rfl (by kernel_rfl) (by kernel_rfl) (by kernel_rfl) (want_y rfl rfl rfl rfl (by rw [hg12_15]; rfl)) (fun w hok => x_move (tmS rfl rfl)) ?_
                   refine rg_take 18 rfl rfl (by kernel_rfl) (by kernel_rfl) (by kernel_rfl) (want_y rfl rfl rfl rfl (by rw [hg12_15]; rfl)) (fun w hok => x_move (tmI rfl rfl)) ?_
                   refine rg_take 19 rfl rfl (by kernel_rfl) (by kernel_rfl) (by kernel_rfl) (want_y rfl rfl rfl rfl (by rw [hg12_15]; rfl)) (fun w hok => x_ixs Try.underlying28 ts_42 (tmS rfl rfl) (tmI rfl rfl) (by omega)) ?_
                   refine rg_take 20 rfl rfl (by kernel_rfl) (by kernel_rfl) (by kernel_rfl) (want_y rfl rfl rfl rfl (by rw [hg12_15]; rfl)) (fun w hok => x_fa 0 Try.underlying42 rfl rfl ts_40 (tmP rfl rfl)) ?_
                   refine rg_take 21 rfl rfl (by kernel_rfl) (by kernel_rfl) (by kernel_rfl) (want_y rfl rfl rfl rfl (by rw [hg12_15]; rfl)) (fun w hok => x_loadA Try.underlying40 rfl (by exact ts_40) (tmP rfl rfl) (range_cn (rangeVs hok 0 rfl shV_len (by omega)))) ?_
                   refine rg_step 22 rfl (by kernel_rfl) (want_y rfl rfl rfl rfl (by rw [hg12_15]; rfl)) (oks_drop hS 0 rfl) ?_; intro K hK
                   refine ow_build hS Try.underlying30 tz_40 (bc_takeL (tmA rfl rfl) <| bc_nil) rfl rfl (by kernel_rfl) ?_
                   clear hS; intro g12_22 w hg12_22 hS
                   refine hK _ _ ?_; clear hK K
                   refine rg_step 23 rfl (by kernel_rfl) (want_y rfl rfl rfl rfl (by rw [hg12_15]; rfl)) (oks_drop hS 1 rfl) ?_; intro K hK
                   refine ow_call Try.func9 rfl rfl (evs_cons (tmS rfl rfl) <| evs_nil) (to_c 1 _ _ [(sh2.getD b5 default).cn] _ (viewB hS.ok 0 rfl) rfl (by omega)) ?_
                   rintro e w ⟨A3, c3, rfl, hn3, hk3⟩
                   refine ⟨_, rfl, ?_⟩
                   replace hS := hS.add hk3 hn3 -- +1
                   clear hn3 hk3
                   obtain ⟨gA, rfl⟩ := row_some (hS.rowOk 0 rfl) (by omega)
                   refine hK _ _ ?_; clear hK K
                   refine rg_take 24 rfl rfl (by kernel_rfl) (by kernel_rfl) (by kernel_rfl) (want_y rfl rfl rfl rfl (by rw [hg12_15]; rfl)) (fun w hok => x_ixs Try.underlying36 ts_33 (tmS rfl rfl) (ev_cN 0) (by omega)) ?_
                   refine rg_step 25 rfl (by kernel_rfl) (want_y rfl rfl rfl rfl (by rw [hg12_15]; rfl)) (oks_drop hS 2 rfl) ?_; intro K hK
                   refine ow_v (x_loadA Try.underlying33 rfl (by exact ts_33) (tmP rfl rfl) (rangeRs (enc := cnV) (j := 0) hS.ok 0 rfl cnV_len (by simp))) ?_
                   refine hK _ _ ?_; clear hK K
                   refine rg_take 26 rfl rfl (by kernel_rfl) (by kernel_rfl) (by kernel_rfl) (want_y rfl rfl rfl rfl (by rw [hg12_15]; rfl)) (fun w hok => x_Aneq (by kernel_rfl) (tmA rfl rfl) (tmA rfl rfl) (eqv_A Try.underlying33 (by kernel_rfl) (fe_cons rfl (pt_1 Try.underlying3 rfl rfl) (pt_1 Try.underlying3 rfl rfl) (eqv_i Try.underlying3) <| fe_cons rfl (pt_1 Try.underlying3 rfl rfl) (pt_1 Try.underlying3 rfl rfl) (eqv_i Try.underlying3) <| fe_cons rfl (pt_1 Try.underlying3 rfl rfl) (pt_1 Try.underlying3 rfl rfl) (eqv_i Try.underlying3) <| fe_cons rfl (pt_1 Try.underlying31 rfl rfl) (pt_1 Try.underlying31 rfl rfl) (eqv_i Try.underlying31) <| fe_nil))) ?_
                   refine rg_take 27 rfl rfl (by kernel_rfl) (by kernel_rfl) (by kernel_rfl) (want_y rfl rfl rfl rfl rfl) (fun w hok => x_pickT (tmB rfl rfl) hg12_15 (tmB rfl rfl)) ?_
                   refine rg_take 28 rfl rfl (by kernel_rfl) (by kernel_rfl) (by kernel_rfl) (want_0) (fun w hok => x_pickF (tmB rfl rfl) rfl (tmB rfl rfl)) ?_
                   refine rg_done (oks_drop hS 2 rfl) (by kernel_rfl) ?_
                   exact then_n ⟨_, rfl, (by repeat (first | exact agree_self | exact agree_refl | refine agree_upd rfl ?_ | refine agree_mix rfl ?_)), (by first | rfl | (first | exact congrArg Value.bool hg12_15 | (exact congrArg Value.bool (by rw [hcn]; simp)) | exact congrArg Value.bool (by rw [← hcn]; simp); done) | (first | exact congrArg Value.bool hg12_15 | (exact congrArg Value.bool (by rw [hcn]; simp)) | exact congrArg Value.bool (by rw [← hcn]; simp); rfl) | (first | exact congrArg Value.bool hg12_15 | (exact congrArg Value.bool (by rw [hcn]; simp)) | exact congrArg Value.bool (by rw [← hcn]; simp); go_num)), (hS.pick [2, 4, 5, 7] rfl rfl)⟩
                have hg12_15' := hg12_15; (try simp only [nrm] at hg12_15'); try (exfalso; first | with_reducible exact absurd hg12_15 Bool.false_ne_true | with_reducible exact absurd hg12_15.symm Bool.false_ne_true | omega | (simp at hg12_15; done))
                all_goals
                 refine rg_skip 16 rfl rfl (by kernel_rfl) (by kernel_rfl) (by kernel_rfl) (want_n rfl rfl rfl rfl (by rw [hg12_15]; rfl)) ?_
                 refine rg_skip 17 rfl rfl (by kernel_rfl) (by kernel_rfl) (by kernel_rfl) (want_n rfl rfl rfl rfl (by rw [hg12_15]; rfl)) ?_
                 refine rg_skip 18 rfl rfl (by kernel_rfl) (by kernel_rfl) (by kernel_rfl) (want_n rfl rfl rfl rfl (by rw [hg12_15]; rfl)) ?_
                 refine rg_skip 19 rfl rfl (by kernel_rfl) (by kernel_rfl) (by kernel_rfl) (want_n rfl rfl rfl rfl (by rw [hg12_15]; rfl)) ?_
                 refine rg_skip 20 rfl rfl (by kernel_rfl) (by kernel_rfl) (by kernel_rfl) (want_n rfl rfl rfl rfl (by rw [hg12_15]; rfl)) ?_
                 refine rg_skip 21 rfl rfl (by kernel_rfl) (by kernel_rfl) (by kernel_rfl) (want_n rfl rfl rfl rfl (by rw [hg12_15]; rfl)) ?_
                 refine rg_skip 22 rfl rfl (by kernel_rfl) (by kernel_rfl) (by kernel_rfl) (want_n rfl rfl rfl rfl (by rw [hg12_15]; rfl)) ?_
                 refine rg_skip 23 rfl rfl (by kernel_rfl) (by kernel_rfl) (by kernel_rfl) (want_n rfl rfl rfl rfl (by rw [hg12_15]; rfl)) ?_
                 refine rg_skip 24 rfl rfl (by kernel_rfl) (by kernel_rfl) (by kernel_rfl) (want_n rfl rfl rfl rfl (by rw [hg12_15]; rfl)) ?_
                 refine rg_skip 25 rfl rfl (by kernel_rfl) (by kernel_rfl) (by kernel_rfl) (want_n rfl rfl rfl rfl (by rw [hg12_15]; rfl)) ?_
                 refine rg_skip 26 rfl rfl (by kernel_rfl) (by kernel_rfl) (by kernel_rfl) (want_n rfl rfl rfl rfl (by rw [hg12_15]; rfl)) ?_
                 refine rg_take 27 rfl rfl (by kernel_rfl) (by kernel_rfl) (by kernel_rfl) (want_y rfl rfl rfl rfl rfl) (fun w hok => x_pickF (tmB rfl rfl) hg12_15 ev_c) ?_
                 refine rg_take 28 rfl rfl (by kernel_rfl) (by kernel_rfl) (by kernel_rfl) (want_0) (fun w hok => x_pickF (tmB rfl rfl) rfl (tmB rfl rfl)) ?_
                 refine rg_done (oks_drop hS 0 rfl) (by kernel_rfl) ?_
                 exact then_n ⟨_, rfl, (by repeat (first | exact agree_self | exact agree_refl | refine agree_upd rfl ?_ | refine agree_mix rfl ?_)), (by first | rfl | (first | exact congrArg Value.bool hg12_15 | (exact congrArg Value.bool (by rw [hcn]; simp)) | exact congrArg Value.bool (by rw [← hcn]; simp); done) | (first | exact congrArg Value.bool hg12_15 | (exact congrArg Value.bool (by rw [hcn]; simp)) | exact congrArg Value.bool (by rw [← hcn]; simp); rfl) | (first | exact congrArg Value.bool hg12_15 | (exact congrArg Value.bool (by rw [hcn]; simp)) | exact congrArg Value.bool (by rw [← hcn]; simp); go_num)), (hS.pick [0, 2, 3, 5] rfl rfl)⟩
            · clear hS; intro g w hI
              obtain ⟨hs85, hS⟩ := hI
              refine fr_knowQ (d := 85) hs85 ?_; clear hs85
              refine then_n (hK17 _ _ ?_); clear hK17 K17
              refine cnd (tm rfl) (fun hc3 => ?_) (fun hc3 => ?_)
              · exfalso
                exact absurd hc3 (by decide)
              try (exfalso; first | with_reducible exact absurd hc3 Bool.false_ne_true | with_reducible exact absurd hc3.symm Bool.false_ne_true | (simp only [nrm] at hc3; omega) | (simp at hc3; done))
              all_goals
               try simp only [nrm] at hc3
               refine wp_skip ?_
               refine then_n (hK16 _ _ ?_); clear hK16 K16
               refine wp_seq_k ?_; intro K19 hK19
               refine wlit ?_
               refine wl_v (x_assign (ev_cN 0)) ?_
               refine wl_nil ?_
               refine then_n (hK19 _ _ ?_); clear hK19 K19
               refine wp_seq_k ?_; intro K20 hK20
               refine wp_seq_k ?_; intro K21 hK21
               refine wlit ?_
               refine wl_v (x_assign (ev_cN 0)) ?_
               refine wl_nil ?_
               refine then_n (hK21 _ _ ?_); clear hK21 K21
               refine wp_block ?_
               refine lp [4, 12, 13, 86, 87, 88, 89, 90, 91, 92, 93, 94, 95, 96, 97, 98, 99, 100, 101, 102, 103, 104, 105, 106, 107, 108, 109, 110, 111, 112, 113, 114, 115, 116, 117, 118] (fun mz g w => ∃ (m : Nat), mz = m2 - m ∧ g 13 = .int .i64 (m : Int) ∧ g 12 = .int .i64 (wantF sh2 b m) ∧ St [] w0 [.vw R2 (flat shV sh2), .row (.slice K2 m2 k2) 66 3 m2 (flat crV (sh2.map Sh.cr)), .blk g3_1 27 [.slice K2 m2 k2], .vw (some ⟨b0, o0, none⟩) (rs.map candRow)] w ∧ (m ≤ m2)) ?_ ?_
               · exact ⟨_, 0, rfl, (by first | rfl | go_num | exact congrArg (Value.int _) (by first | omega | (simp; done) | (simp; omega))), (by first | rfl | go_num | exact congrArg (Value.int _) (by first | omega | (simp; done) | (simp; omega))), hS, (by omega)⟩
               · clear hS; intro mz g w hI
                 obtain ⟨m, rfl, hs13, hs12, hS, hm⟩ := hI
                 refine fr_know (d := 13) hs13 ?_; clear hs13
                 refine fr_know (d := 12) hs12 ?_; clear hs12
                 refine wp_seq_k ?_; intro K22 hK22
                 refine wp_seq_k ?_; intro K23 hK23
                 refine wlit ?_
                 refine wl_v (x_move (tmI rfl rfl)) ?_
                 refine wl_v (x_move (tmS rfl rfl)) ?_
                 refine wl_v (x_len Try.underlying28 (tmS rfl rfl)) ?_
                 refine wl_v (x_lss (tmI rfl rfl) (tmI rfl rfl)) ?_
                 refine wl_nil ?_
                 refine then_n (hK23 _ _ ?_); clear hK23 K23
                 refine cnd (tm rfl) (fun hc4 => ?_) (fun hc4 => ?_)
                 · try (exfalso; first | with_reducible exact absurd hc4 Bool.false_ne_true | with_reducible exact absurd hc4.symm Bool.false_ne_true | (simp only [nrm] at hc4; omega) | (simp at hc4; done))
                   all_goals
                    try simp only [nrm] at hc4
                    obtain ⟨bR, oR, rfl⟩ := view_some (viewV hS.ok 0 rfl) (by rw [flat_length shV_len]; omega)
                    refine wp_skip ?_
                    refine then_n (hK22 _ _ ?_); clear hK22 K22
                    refine wp_seq_k ?_; intro K24 hK24
                    refine wp_block ?_
                    refine wp_seq_k ?_; intro K25 hK25
                    refine wp_seq_k ?_; intro K26 hK26
                    refine rg_startk 0 hS mixed_ ?_
                    clear hS; intro w hS
                    refine rg_take 0 rfl rfl (by kernel_rfl) (by kernel_rfl) (by kernel_rfl) (want_0) (fun w hok => x_move (tmP rfl rfl)) ?_
                    refine rg_take 1 rfl rfl (by kernel_rfl) (by kernel_rfl) (by kernel_rfl) (want_0) (fun w hok => x_move (tmS rfl rfl)) ?_
                    refine rg_take 2 rfl rfl (by kernel_rfl) (by kernel_rfl) (by kernel_rfl) (want_0) (fun w hok => x_move (tmI rfl rfl)) ?_
                    refine rg_take 3 rfl rfl (by kernel_rfl) (by kernel_rfl) (by kernel_rfl) (want_0) (fun w hok => x_ixs Try.underlying28 ts_42 (tmS rfl rfl) (tmI rfl rfl) (by omega)) ?_
                    refine rg_take 4 rfl rfl (by kernel_rfl) (by kernel_rfl) (by kernel_rfl) (want_0) (fun w hok => x_fa 0 Try.underlying42 rfl rfl ts_40 (tmP rfl rfl)) ?_
                    refine rg_take 5 rfl rfl (by kernel_rfl) (by kernel_rfl) (by kernel_rfl) (want_0) (fun w hok => x_fa 1 Try.underlying40 rfl rfl ts_3 (tmP rfl rfl)) ?_
                    first
                     | refine rg_take 6 rfl rfl (by kernel_rfl) (by kernel_rfl) (by kernel_rfl) (want_0) (fun w hok => x_load Try.underlying3 rfl (tmP rfl rfl) (cellV hok 0 rfl rfl)) ?_
                     | refine rg_take 6 rfl rfl (by kernel_rfl) (by kernel_rfl) (by kernel_rfl) (want_0) (fun w hok => x_load Try.underlying3 rfl (tmP rfl rfl) (cellV hok 0 rfl (getm (by omega)))) ?_
                     | refine rg_take 6 rfl rfl (by kernel_rfl) (by kernel_rfl) (by kernel_rfl) (want_0) (fun w hok => x_load Try.underlying3 rfl (tmP rfl rfl) (cellVs hok 0 rfl (fun _ => rfl) rfl (by omega) rfl)) ?_
                     | refine rg_take 6 rfl rfl (by kernel_rfl) (by kernel_rfl) (by kernel_rfl) (want_0) (fun w hok => x_load Try.underlying3 rfl (tmP rfl rfl) (cellR hok 1 rfl rfl)) ?_
                     | refine rg_take 6 rfl rfl (by kernel_rfl) (by kernel_rfl) (by kernel_rfl) (want_0) (fun w hok => x_load Try.underlying3 rfl (tmP rfl rfl) (cellR hok 1 rfl (getm (by omega)))) ?_
                     | refine rg_take 6 rfl rfl (by kernel_rfl) (by kernel_rfl) (by kernel_rfl) (want_0) (fun w hok => x_load Try.underlying3 rfl (tmP rfl rfl) (cellRs hok 1 rfl (fun _ => rfl) rfl (by omega) rfl)) ?_
                     | refine rg_take 6 rfl rfl (by kernel_rfl) (by kernel_rfl) (by kernel_rfl) (want_0) (fun w hok => x_load Try.underlying3 rfl (tmP rfl rfl) (cellV hok 3 rfl rfl)) ?_
                     | refine rg_take 6 rfl rfl (by kernel_rfl) (by kernel_rfl) (by kernel_rfl) (want_0) (fun w hok => x_load Try.underlying3 rfl (tmP rfl rfl) (cellV hok 3 rfl (getm (by omega)))) ?_
                     | refine rg_take 6 rfl rfl (by kernel_rfl) (by kernel_rfl) (by kernel_rfl) (want_0) (fun w hok => x_load Try.underlying3 rfl (tmP rfl rfl) (cellVs hok 3 rfl (fun _ => rfl) rfl (by omega) rfl)) ?_
                    refine rg_take 8 rfl rfl (by kernel_rfl) (by kernel_rfl) (by kernel_rfl) (want_0) (fun w hok => x_move (tmS rfl rfl)) ?_
                    refine rg_take 9 rfl rfl (by kernel_rfl) (by kernel_rfl) (by kernel_rfl) (want_0) (fun w hok => x_move (tmI rfl rfl)) ?_
                    refine rg_take 10 rfl rfl (by kernel_rfl) (by kernel_rfl) (by kernel_rfl) (want_0) (fun w hok => x_ixs Try.underlying28 ts_42 (tmS rfl rfl) (tmI rfl rfl) (by omega)) ?_
                    refine rg_take 11 rfl rfl (by kernel_rfl) (by kernel_rfl) (by kernel_rfl) (want_0) (fun w hok => x_fa 4 Try.underlying42 rfl rfl ts_3 (tmP rfl rfl)) ?_
                    first
                     | refine rg_take 12 rfl rfl (by kernel_rfl) (by kernel_rfl) (by kernel_rfl) (want_0) (fun w hok => x_load Try.underlying3 rfl (tmP rfl rfl) (cellV hok 0 rfl rfl)) ?_
                     | refine rg_take 12 rfl rfl (by kernel_rfl) (by kernel_rfl) (by kernel_rfl) (want_0) (fun w hok => x_load Try.underlying3 rfl (tmP rfl rfl) (cellV hok 0 rfl (getm (by omega)))) ?_
                     | refine rg_take 12 rfl rfl (by kernel_rfl) (by kernel_rfl) (by kernel_rfl) (want_0) (fun w hok => x_load Try.underlying3 rfl (tmP rfl rfl) (cellVs hok 0 rfl (fun _ => rfl) rfl (by omega) rfl)) ?_
                     | refine rg_take 12 rfl rfl (by kernel_rfl) (by kernel_rfl) (by kernel_rfl) (want_0) (fun w hok => x_load Try.underlying3 rfl (tmP rfl rfl) (cellR hok 1 rfl rfl)) ?_
                     | refine rg_take 12 rfl rfl (by kernel_rfl) (by kernel_rfl) (by kernel_rfl) (want_0) (fun w hok => x_load Try.underlying3 rfl (tmP rfl rfl) (cellR hok 1 rfl (getm (by omega)))) ?_
                     | refine rg_take 12 rfl rfl (by kernel_rfl) (by kernel_rfl) (by kernel_rfl) (want_0) (fun w hok => x_load Try.underlying3 rfl (tmP rfl rfl) (cellRs hok 1 rfl (fun _ => rfl) rfl (by omega) rfl)) ?_
                     | refine rg_take 12 rfl rfl (by kernel_rfl) (by kernel_rfl) (by kernel_rfl) (want_0) (fun w hok => x_load Try.underlying3 rfl (tmP rfl rfl) (cellV hok 3 rfl rfl)) ?_
                     | refine rg_take 12 rfl rfl (by kernel_rfl) (by kernel_rfl) (by kernel_rfl) (want_0) (fun w hok => x_load Try.underlying3 rfl (tmP rfl rfl) (cellV hok 3 rfl (getm (by omega)))) ?_
                     | refine rg_take 12 rfl rfl (by kernel_rfl) (by kernel_rfl) (by kernel_rfl) (want_0) (fun w hok => x_load Try.underlying3 rfl (tmP rfl rfl) (cellVs hok 3 rfl (fun _ => rfl) rfl (by omega) rfl)) ?_
                    refine rg_step 7 rfl (by kernel_rfl) (want_0) (oks_drop hS 0 rfl) ?_; intro K hK
                    refine ow_call Try.func11 rfl rfl (evs_cons (tmP rfl rfl) <| evs_cons (tmI rfl rfl) <| evs_nil) (owed_c g3_1 K2 m2 k2 (sh2.map Sh.cr) _ _ (viewB hS.ok 2 rfl) (viewR hS.ok 1 rfl) (by rw [List.length_map]; exact hq2) (by omega)) ?_
                    rintro e w ⟨v1, rfl, hv1, hk3⟩
                    refine ⟨_, rfl, ?_⟩
                    replace hS := hS.kept hk3
                    clear hk3
                    refine hK _ _ ?_; clear hK K
                    refine rg_take 13 rfl rfl (by kernel_rfl) (by kernel_rfl) (by kernel_rfl) (want_0) (fun w hok => x_neq (tmI rfl rfl) (tmI rfl rfl)) ?_
                    refine rg_done (oks_drop hS 0 rfl) (by kernel_rfl) ?_
                    refine then_n (hK26 _ _ ?_); clear hK26 K26
                    refine cnd (tm rfl) (fun hc5 => ?_) (fun hc5 => ?_)
                    · exfalso
                      have := owed_at hapt2 (by omega) hv1
                      simp at hc5
                      exact hc5 this
                    try (exfalso; first | with_reducible exact absurd hc5 Bool.false_ne_true | with_reducible exact absurd hc5.symm Bool.false_ne_true | (simp only [nrm] at hc5; omega) | (simp at hc5; done))
                    all_goals
                     try simp only [nrm] at hc5
                     refine wp_skip ?_
                     refine then_n (hK25 _ _ ?_); clear hK25 K25
                     refine wp_seq_k ?_; intro K27 hK27
                     refine wlit ?_
                     refine wl_v (x_move (tmS rfl rfl)) ?_
                     refine wl_v (x_move (tmI rfl rfl)) ?_
                     refine wl_v (x_ixs Try.underlying28 ts_42 (tmS rfl rfl) (tmI rfl rfl) (by omega)) ?_
                     refine wl_v (x_fa 0 Try.underlying42 rfl rfl ts_40 (tmP rfl rfl)) ?_
                     refine wl_v (x_fa 1 Try.underlying40 rfl rfl ts_3 (tmP rfl rfl)) ?_
                     first
                      | refine wl_v (x_load Try.underlying3 rfl (tmP rfl rfl) (cellV hS.ok 0 rfl rfl)) ?_
                      | refine wl_v (x_load Try.underlying3 rfl (tmP rfl rfl) (cellV hS.ok 0 rfl (getm (by omega)))) ?_
                      | refine wl_v (x_load Try.underlying3 rfl (tmP rfl rfl) (cellVs hS.ok 0 rfl (fun _ => rfl) rfl (by omega) rfl)) ?_
                      | refine wl_v (x_load Try.underlying3 rfl (tmP rfl rfl) (cellR hS.ok 1 rfl rfl)) ?_
                      | refine wl_v (x_load Try.underlying3 rfl (tmP rfl rfl) (cellR hS.ok 1 rfl (getm (by omega)))) ?_
                      | refine wl_v (x_load Try.underlying3 rfl (tmP rfl rfl) (cellRs hS.ok 1 rfl (fun _ => rfl) rfl (by omega) rfl)) ?_
                      | refine wl_v (x_load Try.underlying3 rfl (tmP rfl rfl) (cellV hS.ok 3 rfl rfl)) ?_
                      | refine wl_v (x_load Try.underlying3 rfl (tmP rfl rfl) (cellV hS.ok 3 rfl (getm (by omega)))) ?_
                      | refine wl_v (x_load Try.underlying3 rfl (tmP rfl rfl) (cellVs hS.ok 3 rfl (fun _ => rfl) rfl (by omega) rfl)) ?_
                     refine wl_v (x_move (tmI rfl rfl)) ?_
                     refine wl_v (x_eql (tmI rfl rfl) (tmI rfl rfl)) ?_
                     refine wl_nil ?_
                     refine then_n (hK27 _ _ ?_); clear hK27 K27
                     refine cnd (tm rfl) (fun hc6 => ?_) (fun hc6 => ?_)
                     · try (exfalso; first | with_reducible exact absurd hc6 Bool.false_ne_true | with_reducible exact absurd hc6.symm Bool.false_ne_true | (simp only [nrm] at hc6; omega) | (simp at hc6; done))
                       all_goals
                        try simp only [nrm] at hc6
                        have hx : wantF sh2 b (m + 1) = (sh2.getD m default).owed := by simp only [wantF]; rw [if_pos (by simpa using hc6)]
                        refine wlit ?_
                        refine wl_v (x_move (tmS rfl rfl)) ?_
                        refine wl_v (x_move (tmI rfl rfl)) ?_
                        refine wl_v (x_ixs Try.underlying28 ts_42 (tmS rfl rfl) (tmI rfl rfl) (by omega)) ?_
                        refine wl_v (x_fa 4 Try.underlying42 rfl rfl ts_3 (tmP rfl rfl)) ?_
                        first
                         | refine wl_v (x_load Try.underlying3 rfl (tmP rfl rfl) (cellV hS.ok 0 rfl rfl)) ?_
                         | refine wl_v (x_load Try.underlying3 rfl (tmP rfl rfl) (cellV hS.ok 0 rfl (getm (by omega)))) ?_
                         | refine wl_v (x_load Try.underlying3 rfl (tmP rfl rfl) (cellVs hS.ok 0 rfl (fun _ => rfl) rfl (by omega) rfl)) ?_
                         | refine wl_v (x_load Try.underlying3 rfl (tmP rfl rfl) (cellR hS.ok 1 rfl rfl)) ?_
                         | refine wl_v (x_load Try.underlying3 rfl (tmP rfl rfl) (cellR hS.ok 1 rfl (getm (by omega)))) ?_
                         | refine wl_v (x_load Try.underlying3 rfl (tmP rfl rfl) (cellRs hS.ok 1 rfl (fun _ => rfl) rfl (by omega) rfl)) ?_
                         | refine wl_v (x_load Try.underlying3 rfl (tmP rfl rfl) (cellV hS.ok 3 rfl rfl)) ?_
                         | refine wl_v (x_load Try.underlying3 rfl (tmP rfl rfl) (cellV hS.ok 3 rfl (getm (by omega)))) ?_
                         | refine wl_v (x_load Try.underlying3 rfl (tmP rfl rfl) (cellVs hS.ok 3 rfl (fun _ => rfl) rfl (by omega) rfl)) ?_
                        refine wl_v (x_assign (tmI rfl rfl)) ?_
                        refine wl_nil ?_
                        refine inb_n ?_
                        refine then_n (hK24 _ _ ?_); clear hK24 K24
                        refine wlit ?_
                        refine wl_v (x_move (tmI rfl rfl)) ?_
                        first
                         | refine wl_v (x_addN (tmI rfl rfl) (ev_cN 1) (fit_i64 (by omega))) ?_
                         | refine wl_v (x_addI (tmI rfl rfl) (ev_cN 1) (IntWalk.i64_in _ (by omega))) ?_
                         | refine wl_v (x_add (tmI rfl rfl) (ev_cN 1)) ?_
                        refine wl_v (x_assign (tmI rfl rfl)) ?_
                        refine wl_nil ?_
                        first
                         | exact then_n ⟨_, _, rfl, (by show _ < _; omega), (by repeat (first | exact agree_self | exact agree_refl | refine agree_upd rfl ?_ | refine agree_mix rfl ?_)), m + 1, rfl, (by first | rfl | go_num | exact congrArg (Value.int _) (by first | omega | (simp; done) | (simp; omega))), (by first | rfl | (first | rfl | rw [hx]; done) | (first | rfl | rw [hx]; rfl) | (first | rfl | rw [hx]; go_num)), hS, (by omega)⟩
                         | exact then_n ⟨_, _, rfl, (by show _ < _; omega), (by repeat (first | exact agree_self | exact agree_refl | refine agree_upd rfl ?_ | refine agree_mix rfl ?_)), m + 1, rfl, (by first | rfl | go_num | exact congrArg (Value.int _) (by first | omega | (simp; done) | (simp; omega))), (by first | rfl | (first | rfl | rw [hx]; done) | (first | rfl | rw [hx]; rfl) | (first | rfl | rw [hx]; go_num)), hS, (by omega)⟩
                     try (exfalso; first | with_reducible exact absurd hc6 Bool.false_ne_true | with_reducible exact absurd hc6.symm Bool.false_ne_true | (simp only [nrm] at hc6; omega) | (simp at hc6; done))
                     all_goals
                      try simp only [nrm] at hc6
                      have hx : wantF sh2 b (m + 1) = wantF sh2 b m := by simp only [wantF]; rw [if_neg (by simpa using hc6)]
                      refine wp_skip ?_
                      refine inb_n ?_
                      refine then_n (hK24 _ _ ?_); clear hK24 K24
                      refine wlit ?_
                      refine wl_v (x_move (tmI rfl rfl)) ?_
                      first
                       | refine wl_v (x_addN (tmI rfl rfl) (ev_cN 1) (fit_i64 (by omega))) ?_
                       | refine wl_v (x_addI (tmI rfl rfl) (ev_cN 1) (IntWalk.i64_in _ (by omega))) ?_
                       | refine wl_v (x_add (tmI rfl rfl) (ev_cN 1)) ?_
                      refine wl_v (x_assign (tmI rfl rfl)) ?_
                      refine wl_nil ?_
                      first
                       | exact then_n ⟨_, _, rfl, (by show _ < _; omega), (by repeat (first | exact agree_self | exact agree_refl | refine agree_upd rfl ?_ | refine agree_mix rfl ?_)), m + 1, rfl, (by first | rfl | go_num | exact congrArg (Value.int _) (by first | omega | (simp; done) | (simp; omega))), (by first | rfl | (first | rfl | rw [hx]; done) | (first | rfl | rw [hx]; rfl) | (first | rfl | rw [hx]; go_num)), hS, (by omega)⟩
                       | exact then_n ⟨_, _, rfl, (by show _ < _; omega), (by repeat (first | exact agree_self | exact agree_refl | refine agree_upd rfl ?_ | refine agree_mix rfl ?_)), m + 1, rfl, (by first | rfl | go_num | exact congrArg (Value.int _) (by first | omega | (simp; done) | (simp; omega))), (by first | rfl | (first | rfl | rw [hx]; done) | (first | rfl | rw [hx]; rfl) | (first | rfl | rw [hx]; go_num)), hS, (by omega)⟩
                 try (exfalso; first | with_reducible exact absurd hc4 Bool.false_ne_true | with_reducible exact absurd hc4.symm Bool.false_ne_true | (simp only [nrm] at hc4; omega) | (simp at hc4; done))
                 all_goals
                  try simp only [nrm] at hc4
                  refine wp_exit ?_
                  refine then_x ?_; clear hK22 K22
                  refine then_x ?_
                  refine inb_x ?_
                  refine then_n (hK20 _ _ ?_); clear hK20 K20
                  refine wp_seq_k ?_; intro K28 hK28
                  refine wlit ?_
                  refine wl_v (x_move (tmP rfl rfl)) ?_
                  refine wl_v (x_move (tmI rfl rfl)) ?_
                  refine wl_e rfl ?_; intro K hK
                  refine ow_call Try.func11 rfl rfl (evs_cons (tmP rfl rfl) <| evs_cons (tmI rfl rfl) <| evs_nil) (owed_c g3_1 K2 m2 k2 (sh2.map Sh.cr) _ _ (viewB hS.ok 2 rfl) (viewR hS.ok 1 rfl) (by rw [List.length_map]; exact hq2) (by omega)) ?_
                  rintro e w ⟨v1, rfl, hv1, hk3⟩
                  refine ⟨_, rfl, ?_⟩
                  replace hS := hS.kept hk3
                  clear hk3
                  refine hK _ _ ?_; clear hK K
                  refine wl_v (x_move (tmI rfl rfl)) ?_
                  refine wl_v (x_neq (tmI rfl rfl) (tmI rfl rfl)) ?_
                  refine wl_nil ?_
                  refine then_n (hK28 _ _ ?_); clear hK28 K28
                  refine cnd (tm rfl) (fun hc7 => ?_) (fun hc7 => ?_)
                  · exfalso
                    have := owed_want hapt2 hv1
                    simp at hc7
                    obtain rfl : m = sh2.length := by omega
                    exact hc7 this
                  try (exfalso; first | with_reducible exact absurd hc7 Bool.false_ne_true | with_reducible exact absurd hc7.symm Bool.false_ne_true | (simp only [nrm] at hc7; omega) | (simp at hc7; done))
                  all_goals
                   try simp only [nrm] at hc7
                   refine wp_skip ?_
                   refine inb_n ?_
                   refine then_n (hK10 _ _ ?_); clear hK10 K10
                   refine wlit ?_
                   refine wl_v (x_move (tmI rfl rfl)) ?_
                   first
                    | refine wl_v (x_addN (tmI rfl rfl) (ev_cN 1) (fit_i64 (by omega))) ?_
                    | refine wl_v (x_addI (tmI rfl rfl) (ev_cN 1) (IntWalk.i64_in _ (by omega))) ?_
                    | refine wl_v (x_add (tmI rfl rfl) (ev_cN 1)) ?_
                   refine wl_v (x_assign (tmI rfl rfl)) ?_
                   refine wl_nil ?_
                   first
                    | exact then_n ⟨_, _, rfl, (by show _ < _; omega), (by repeat (first | exact agree_self | exact agree_refl | refine agree_upd rfl ?_ | refine agree_mix rfl ?_)), k + 1, _, _, _, _, _, _, rfl, (by first | rfl | go_num | exact congrArg (Value.int _) (by first | omega | (simp; done) | (simp; omega))), (by first | rfl | go_num | exact congrArg (Value.int _) (by first | omega | (simp; done) | (simp; omega))), hS, (by omega), (by first | rfl | exact hq | exact hq2), (by first | (intro i hi; exact absurd hi (Nat.not_lt_zero _)) | exact hfair2), (by first | (intro i j hi; exact absurd hi (Nat.not_lt_zero _)) | exact hapt | exact hapt2), (by omega)⟩
                    | exact then_n ⟨_, _, rfl, (by show _ < _; omega), (by repeat (first | exact agree_self | exact agree_refl | refine agree_upd rfl ?_ | refine agree_mix rfl ?_)), k + 1, _, _, _, _, _, _, rfl, (by first | rfl | go_num | exact congrArg (Value.int _) (by first | omega | (simp; done) | (simp; omega))), (by first | rfl | go_num | exact congrArg (Value.int _) (by first | omega | (simp; done) | (simp; omega))), hS, (by omega), (by first | rfl | exact hq | exact hq2), (by first | (intro i hi; exact absurd hi (Nat.not_lt_zero _)) | exact hfair2), (by first | (intro i j hi; exact absurd hi (Nat.not_lt_zero _)) | exact hapt | exact hapt2), (by omega)⟩
        try (exfalso; first | with_reducible exact absurd hc1 Bool.false_ne_true | with_reducible exact absurd hc1.symm Bool.false_ne_true | (simp only [nrm] at hc1; omega) | (simp at hc1; done))
        all_goals
         try simp only [nrm] at hc1
         refine wp_exit ?_
         refine then_x ?_; clear hK8 K8
         refine then_x ?_
         refine inb_x ?_
         refine then_n (hK6 _ _ ?_); clear hK6 K6
         refine wp_seq_k ?_; intro K29 hK29
         refine wlit ?_
         refine wl_v (x_assign ev_c) ?_
         refine wl_nil ?_
         refine then_n (hK29 _ _ ?_); clear hK29 K29
         refine wp_seq_k ?_; intro K30 hK30
         refine wlit ?_
         refine wl_v (x_move (tmP rfl rfl)) ?_
         refine wl_v (x_build (bc_skip (.int .i64 0) <| bc_skip (.int .i64 0) <| bc_take (ev_cN 1) <| bc_skip (.int .u32 0) <| bc_nil) (by kernel_rfl)) ?_
         refine wl_e rfl ?_; intro K hK
         refine ow_build hS Try.underlying36 tz_33 (bc_takeL (tmA rfl rfl) <| bc_nil) rfl rfl (by kernel_rfl) ?_
         clear hS; intro g25_2 w hg25_2 hS
         refine hK _ _ ?_; clear hK K
         refine wl_e rfl ?_; intro K hK
         refine ow_call Try.func8 rfl rfl (evs_cons (tmP rfl rfl) <| evs_cons (tmS rfl rfl) <| evs_nil) (pick_nil_c 1 _ _ [⟨0, 0, 1, 0⟩] _ (viewB hS.ok 0 rfl) rfl (by omega)) ?_
         rintro e w ⟨rfl, hk3⟩
         refine ⟨_, rfl, ?_⟩
         replace hS := hS.kept hk3
         clear hk3
         refine hK _ _ ?_; clear hK K
         refine wl_v (x_move (tmT rfl rfl)) ?_
         refine wl_v (x_ext (tmT rfl rfl) rfl) ?_
         refine wl_v (x_ext (tmT rfl rfl) rfl) ?_
         refine wl_e rfl ?_; intro K hK
         refine ow_alloc hS tz_33 rfl ?_
         clear hS; intro g25_7 w hg25_7 hS
         refine hK _ _ ?_; clear hK K
         refine wl_e rfl ?_; intro K hK
         refine ow_storeA hS 0 rfl ts_33 (tmP rfl rfl) (tmA rfl rfl) rfl rfl rfl ?_
         clear hS; intro w hS
         try replace hS := St.nm (M' := [.blk _ _ [_, _, _, _], _, .vw _ _, .row _ _ _ _ _, .blk _ _ [_], .vw _ _]) hS rfl
         refine hK _ _ ?_; clear hK K
         refine wl_v (x_assign (tmB rfl rfl)) ?_
         refine wl_nil ?_
         refine then_n (hK30 _ _ ?_); clear hK30 K30
         refine wp_seq_k ?_; intro K31 hK31
         refine wlit ?_
         refine wl_v (x_move (tmB rfl rfl)) ?_
         refine wl_v (x_not (tmB rfl rfl)) ?_
         refine wl_v (x_move (tmB rfl rfl)) ?_
         refine gs_wl (tm (t := 133) rfl) (fun hg26_2 => ?_) (fun hg26_2 => ?_)
         · have hg26_2' := hg26_2; (try simp only [nrm] at hg26_2'); try (exfalso; first | with_reducible exact absurd hg26_2 Bool.false_ne_true | with_reducible exact absurd hg26_2.symm Bool.false_ne_true | omega | (simp at hg26_2; done))
           all_goals
            refine wl_gv (want_y rfl rfl rfl rfl (by rw [hg26_2]; rfl)) (x_move (tmP rfl rfl)) ?_
            refine wl_g (want_y rfl rfl rfl rfl (by rw [hg26_2]; rfl)) ?_; intro K hK
            refine ow_call Try.func11 rfl rfl (evs_cons (tmP rfl rfl) <| evs_cons (ev_cN 1) <| evs_nil) (owed_nil_c _ _) ?_
            rintro e w ⟨rfl, hk3⟩
            refine ⟨_, rfl, ?_⟩
            replace hS := hS.kept hk3
            clear hk3
            refine hK _ _ ?_; clear hK K
            refine wl_gv (want_y rfl rfl rfl rfl (by rw [hg26_2]; rfl)) (x_eql (tmI rfl rfl) (ev_cN 0)) ?_
            refine wl_v (x_pickT (tmB rfl rfl) hg26_2 (tmB rfl rfl)) ?_
            refine wl_v (x_move (tmB rfl rfl)) ?_
            refine gs_wl (tm (t := 138) rfl) (fun hg26_7 => ?_) (fun hg26_7 => ?_)
            · have hg26_7' := hg26_7; (try simp only [nrm] at hg26_7'); try (exfalso; first | with_reducible exact absurd hg26_7 Bool.false_ne_true | with_reducible exact absurd hg26_7.symm Bool.false_ne_true | omega | (simp at hg26_7; done))
              all_goals
               refine wl_g (want_y rfl rfl rfl rfl (by rw [hg26_7]; rfl)) ?_; intro K hK
               refine ow_call Try.func6 rfl rfl (evs_nil) (awake_c _) ?_
               rintro e w ⟨rfl, hk1⟩
               refine ⟨_, rfl, ?_⟩
               replace hS := hS.kept hk1
               clear hk1
               refine hK _ _ ?_; clear hK K
               refine wl_v (x_pickT (tmB rfl rfl) hg26_7 (tmB rfl rfl)) ?_
               refine wl_v (x_assign (tmB rfl rfl)) ?_
               refine wl_nil ?_
               refine then_n (hK31 _ _ ?_); clear hK31 K31
               refine wp_ret ?_
               refine ret1 rfl (.tmp rfl (show _ = Value.bool _ from rfl)) ?_
               exact ⟨rfl, hS.kp.below⟩
            have hg26_7' := hg26_7; (try simp only [nrm] at hg26_7'); try (exfalso; first | with_reducible exact absurd hg26_7 Bool.false_ne_true | with_reducible exact absurd hg26_7.symm Bool.false_ne_true | omega | (simp at hg26_7; done))
            all_goals
             refine wl_s rfl (want_n rfl rfl rfl rfl (by rw [hg26_7]; rfl)) ?_
             refine wl_v (x_pickF (tmB rfl rfl) hg26_7 ev_c) ?_
             refine wl_v (x_assign (tmB rfl rfl)) ?_
             refine wl_nil ?_
             refine then_n (hK31 _ _ ?_); clear hK31 K31
             refine wp_ret ?_
             refine ret1 rfl (.tmp rfl (show _ = Value.bool _ from rfl)) ?_
             exact ⟨rfl, hS.kp.below⟩
         have hg26_2' := hg26_2; (try simp only [nrm] at hg26_2'); try (exfalso; first | with_reducible exact absurd hg26_2 Bool.false_ne_true | with_reducible exact absurd hg26_2.symm Bool.false_ne_true | omega | (simp at hg26_2; done))
         all_goals
          refine wl_s rfl (want_n rfl rfl rfl rfl (by rw [hg26_2]; rfl)) ?_
          refine wl_s rfl (want_n rfl rfl rfl rfl (by rw [hg26_2]; rfl)) ?_
          refine wl_s rfl (want_n rfl rfl rfl rfl (by rw [hg26_2]; rfl)) ?_
          refine wl_v (x_pickF (tmB rfl rfl) hg26_2 ev_c) ?_
          refine wl_v (x_move (tmB rfl rfl)) ?_
          refine wl_s rfl (want_n rfl rfl rfl rfl rfl) ?_
          refine wl_v (x_pickF (tmB rfl rfl) rfl ev_c) ?_
          refine wl_v (x_assign (tmB rfl rfl)) ?_
          refine wl_nil ?_
          refine then_n (hK31 _ _ ?_); clear hK31 K31
          refine wp_ret ?_
          refine ret1 rfl (.tmp rfl (show _ = Value.bool _ from rfl)) ?_
          exact ⟨rfl, hS.kp.below⟩
     have hg6_4' := hg6_4; (try simp only [nrm] at hg6_4'); try (exfalso; first | with_reducible exact absurd hg6_4 Bool.false_ne_true | with_reducible exact absurd hg6_4.symm Bool.false_ne_true | omega | (simp at hg6_4; done))
     all_goals
      refine wl_s rfl (want_n rfl rfl rfl rfl (by rw [hg6_4]; rfl)) ?_
      refine wl_s rfl (want_n rfl rfl rfl rfl (by rw [hg6_4]; rfl)) ?_
      refine wl_v (x_pickF (tmB rfl rfl) hg6_4 ev_c) ?_
      refine wl_nil ?_
      refine then_n (hK9 _ _ ?_); clear hK9 K9
      refine cnd_f (tmB rfl rfl) rfl ?_
      refine wp_exit ?_
      refine then_x ?_; clear hK8 K8
      refine then_x ?_
      refine inb_x ?_
      refine then_n (hK6 _ _ ?_); clear hK6 K6
      refine wp_seq_k ?_; intro K32 hK32
      refine wlit ?_
      refine wl_v (x_assign ev_c) ?_
      refine wl_nil ?_
      refine then_n (hK32 _ _ ?_); clear hK32 K32
      refine wp_seq_k ?_; intro K33 hK33
      refine wlit ?_
      refine wl_v (x_move (tmP rfl rfl)) ?_
      refine wl_v (x_build (bc_skip (.int .i64 0) <| bc_skip (.int .i64 0) <| bc_take (ev_cN 1) <| bc_skip (.int .u32 0) <| bc_nil) (by kernel_rfl)) ?_
      refine wl_e rfl ?_; intro K hK
      refine ow_build hS Try.underlying36 tz_33 (bc_takeL (tmA rfl rfl) <| bc_nil) rfl rfl (by kernel_rfl) ?_
      clear hS; intro g25_2 w hg25_2 hS
      refine hK _ _ ?_; clear hK K
      refine wl_e rfl ?_; intro K hK
      refine ow_call Try.func8 rfl rfl (evs_cons (tmP rfl rfl) <| evs_cons (tmS rfl rfl) <| evs_nil) (pick_nil_c 1 _ _ [⟨0, 0, 1, 0⟩] _ (viewB hS.ok 0 rfl) rfl (by omega)) ?_
      rintro e w ⟨rfl, hk3⟩
      refine ⟨_, rfl, ?_⟩
      replace hS := hS.kept hk3
      clear hk3
      refine hK _ _ ?_; clear hK K
      refine wl_v (x_move (tmT rfl rfl)) ?_
      refine wl_v (x_ext (tmT rfl rfl) rfl) ?_
      refine wl_v (x_ext (tmT rfl rfl) rfl) ?_
      refine wl_e rfl ?_; intro K hK
      refine ow_alloc hS tz_33 rfl ?_
      clear hS; intro g25_7 w hg25_7 hS
      refine hK _ _ ?_; clear hK K
      refine wl_e rfl ?_; intro K hK
      refine ow_storeA hS 0 rfl ts_33 (tmP rfl rfl) (tmA rfl rfl) rfl rfl rfl ?_
      clear hS; intro w hS
      try replace hS := St.nm (M' := [.blk _ _ [_, _, _, _], _, .vw _ _, .row _ _ _ _ _, .blk _ _ [_], .vw _ _]) hS rfl
      refine hK _ _ ?_; clear hK K
      refine wl_v (x_assign (tmB rfl rfl)) ?_
      refine wl_nil ?_
      refine then_n (hK33 _ _ ?_); clear hK33 K33
      refine wp_seq_k ?_; intro K34 hK34
      refine wlit ?_
      refine wl_v (x_move (tmB rfl rfl)) ?_
      refine wl_v (x_not (tmB rfl rfl)) ?_
      refine wl_v (x_move (tmB rfl rfl)) ?_
      refine gs_wl (tm (t := 133) rfl) (fun hg26_2 => ?_) (fun hg26_2 => ?_)
      · have hg26_2' := hg26_2; (try simp only [nrm] at hg26_2'); try (exfalso; first | with_reducible exact absurd hg26_2 Bool.false_ne_true | with_reducible exact absurd hg26_2.symm Bool.false_ne_true | omega | (simp at hg26_2; done))
        all_goals
         refine wl_gv (want_y rfl rfl rfl rfl (by rw [hg26_2]; rfl)) (x_move (tmP rfl rfl)) ?_
         refine wl_g (want_y rfl rfl rfl rfl (by rw [hg26_2]; rfl)) ?_; intro K hK
         refine ow_call Try.func11 rfl rfl (evs_cons (tmP rfl rfl) <| evs_cons (ev_cN 1) <| evs_nil) (owed_nil_c _ _) ?_
         rintro e w ⟨rfl, hk3⟩
         refine ⟨_, rfl, ?_⟩
         replace hS := hS.kept hk3
         clear hk3
         refine hK _ _ ?_; clear hK K
         refine wl_gv (want_y rfl rfl rfl rfl (by rw [hg26_2]; rfl)) (x_eql (tmI rfl rfl) (ev_cN 0)) ?_
         refine wl_v (x_pickT (tmB rfl rfl) hg26_2 (tmB rfl rfl)) ?_
         refine wl_v (x_move (tmB rfl rfl)) ?_
         refine gs_wl (tm (t := 138) rfl) (fun hg26_7 => ?_) (fun hg26_7 => ?_)
         · have hg26_7' := hg26_7; (try simp only [nrm] at hg26_7'); try (exfalso; first | with_reducible exact absurd hg26_7 Bool.false_ne_true | with_reducible exact absurd hg26_7.symm Bool.false_ne_true | omega | (simp at hg26_7; done))
           all_goals
            refine wl_g (want_y rfl rfl rfl rfl (by rw [hg26_7]; rfl)) ?_; intro K hK
            refine ow_call Try.func6 rfl rfl (evs_nil) (awake_c _) ?_
            rintro e w ⟨rfl, hk1⟩
            refine ⟨_, rfl, ?_⟩
            replace hS := hS.kept hk1
            clear hk1
            refine hK _ _ ?_; clear hK K
            refine wl_v (x_pickT (tmB rfl rfl) hg26_7 (tmB rfl rfl)) ?_
            refine wl_v (x_assign (tmB rfl rfl)) ?_
            refine wl_nil ?_
            refine then_n (hK34 _ _ ?_); clear hK34 K34
            refine wp_ret ?_
            refine ret1 rfl (.tmp rfl (show _ = Value.bool _ from rfl)) ?_
            exact ⟨rfl, hS.kp.below⟩
         have hg26_7' := hg26_7; (try simp only [nrm] at hg26_7'); try (exfalso; first | with_reducible exact absurd hg26_7 Bool.false_ne_true | with_reducible exact absurd hg26_7.symm Bool.false_ne_true | omega | (simp at hg26_7; done))
         all_goals
          refine wl_s rfl (want_n rfl rfl rfl rfl (by rw [hg26_7]; rfl)) ?_
          refine wl_v (x_pickF (tmB rfl rfl) hg26_7 ev_c) ?_
          refine wl_v (x_assign (tmB rfl rfl)) ?_
          refine wl_nil ?_
          refine then_n (hK34 _ _ ?_); clear hK34 K34
          refine wp_ret ?_
          refine ret1 rfl (.tmp rfl (show _ = Value.bool _ from rfl)) ?_
          exact ⟨rfl, hS.kp.below⟩
      have hg26_2' := hg26_2; (try simp only [nrm] at hg26_2'); try (exfalso; first | with_reducible exact absurd hg26_2 Bool.false_ne_true | with_reducible exact absurd hg26_2.symm Bool.false_ne_true | omega | (simp at hg26_2; done))
      all_goals
       refine wl_s rfl (want_n rfl rfl rfl rfl (by rw [hg26_2]; rfl)) ?_
       refine wl_s rfl (want_n rfl rfl rfl rfl (by rw [hg26_2]; rfl)) ?_
       refine wl_s rfl (want_n rfl rfl rfl rfl (by rw [hg26_2]; rfl)) ?_
       refine wl_v (x_pickF (tmB rfl rfl) hg26_2 ev_c) ?_
       refine wl_v (x_move (tmB rfl rfl)) ?_
       refine wl_s rfl (want_n rfl rfl rfl rfl rfl) ?_
       refine wl_v (x_pickF (tmB rfl rfl) rfl ev_c) ?_
       refine wl_v (x_assign (tmB rfl rfl)) ?_
       refine wl_nil ?_
       refine then_n (hK34 _ _ ?_); clear hK34 K34
       refine wp_ret ?_
       refine ret1 rfl (.tmp rfl (show _ = Value.bool _ from rfl)) ?_
       exact ⟨rfl, hS.kp.below⟩
open Go.ChangeShapes Go.WideShapes Go.ChangeAt
set_option maxRecDepth 100000 in
theorem walk {H : Type} {enc : TypeId × Value → H} {r : Reach} {b0 : Nat} {d : DataW H} {ps : List MemPlace} (v : Value) (b : Int) (w0 : World)
    (hval : Value.okWide Try.prog w0 r b0 22 v) (hd : DataW.Trod enc Try.prog w0 0 (fun _ => true) true 22 v d ps) (hlt : ∀ x ∈ ps, x.block < w0.heap.size) (_ : -9223372036854775808 ≤ b ∧ b ≤ 9223372036854775807) :
    Calls Try.prog 3 #[v, .int .i64 b] w0 fun e w' => e = .returned (.bool true) ∧ Below w0.heap.size w0 w' := by
  obtain ⟨A, c, l, rfl, hnc, hcm, hv, hl⟩ := open_candss hval hd hlt
  have hmx : maxLen = 9223372036854775807 := by simp [maxLen]
  rw [hmx] at hcm
  exact walk_all A c l.length l b w0 hv hl rfl (Nat.le_trans hnc hcm)
end SmoothPicks
end Go.Proofs.Yteocdobepgbnkaa
