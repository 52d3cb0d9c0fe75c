
/- codec: To, same, light by contract. Conditions: none but bounds. -/
import Derived.Test.YtoaodcbfehfdoaaCoE
namespace Go.Proofs.Ytoaodcbfehfdoaa
open Go.ChangeShapes Go.WideShapes Go.ChangeAt Go.RowKit
theorem rop_c (h : Hp) (L : Option Addr) (n c : Nat) (l : List Mm) (w0 : World) (hv : View w0 w0.heap.size L (flat mmV l)) (hl : l.length = n) (hlim : hpLim h) (hok : okOp h l) :
    Calls Try.prog 13 #[.agg (opV h L n c).toArray] w0 fun e w' => ∃ G m cg, e = .returned (.slice G m cg) ∧ m = (opE h l).length ∧ New w0 w' (.row (.slice G m cg) 5 1 m ((opE h l).map u8v)) ∧ Kp [] w0 w' := by
  obtain ⟨hms, ⟨o1, o2, o3, o4, o5⟩, o6, o7⟩ := id hok
  obtain ⟨hla, hlp, hlq⟩ := id hlim
  obtain ⟨kind, vip, be_, ve, a, port, proto, way⟩ := h
  obtain ⟨kn, rfl⟩ : ∃ k : Nat, kind = (k : Int) := Int.eq_ofNat_of_zero_le o1.1
  obtain ⟨vp, rfl⟩ : ∃ k : Nat, vip = (k : Int) := Int.eq_ofNat_of_zero_le o2.1
  obtain ⟨bn, rfl⟩ : ∃ k : Nat, be_ = (k : Int) := Int.eq_ofNat_of_zero_le o3.1
  obtain ⟨vn, rfl⟩ : ∃ k : Nat, ve = (k : Int) := Int.eq_ofNat_of_zero_le o4.1
  obtain ⟨wn, rfl⟩ : ∃ k : Nat, way = (k : Int) := Int.eq_ofNat_of_zero_le o5.1
  have u1 : (kn : Int) ≤ 255 := o1.2
  have u2 : (vp : Int) ≤ 255 := o2.2
  have u3 : (bn : Int) ≤ 255 := o3.2
  have u4 : (vn : Int) ≤ 255 := o4.2
  have u5 : (wn : Int) ≤ 255 := o5.2
  have hj : joined [((none : Option Addr), [kn, vp, bn, vn], 4), (none, adE a, 0), (none, be port 2, 2), (none, [proto, wn], 2), (none, n :: msE l, 0)] = opE ⟨(kn : Int), (vp : Int), (bn : Int), (vn : Int), a, port, proto, (wn : Int)⟩ l := by
    subst hl
    simp [joined, opE, tn]
  have h9 := rop_n_c kn vp bn vn wn port proto a L n c l w0 hv hl (by omega) hms (by omega) (by omega) (by omega) (by omega) (by omega) hlp hlq hla
  rw [hj] at h9
  exact h9
set_option maxRecDepth 100000 in
set_option maxHeartbeats 8000000 in
theorem cto_c (h : Hp) (L : Option Addr) (n c : Nat) (l : List Mm) (w0 : World) (hv : View w0 w0.heap.size L (flat mmV l)) (hl : l.length = n) (hn : n ≤ 1000) :
    Calls Try.prog 9 #[.agg (opV h L n c).toArray] w0 fun e w' => ∃ L' c', e = .returned (.agg (opV h L' n c').toArray) ∧ NewV w0 w' L' (flat mmV l) ∧ n ≤ c' ∧ Kp [] w0 w' := by
  have hfl := flat_length (enc := mmV) (l := l) mmV_len
  have hS := (St.sv w0).vcons rfl hv
  refine ent (n := 48) Try.func9 rfl rfl ?_
  refine wp_seq_k ?_; intro K1 hK1
  refine wlit ?_
  refine wl_e rfl ?_; intro K hK
  refine ow_box hS (tmA rfl rfl) rfl ?_
  clear hS; intro g0_0 w hg0_0 hS
  refine hK _ _ ?_; clear hK K
  refine wl_e rfl ?_; intro K hK
  refine ow_alloc hS tz_35 rfl ?_
  clear hS; intro g0_1 w hg0_1 hS
  refine hK _ _ ?_; clear hK K
  refine wl_nil ?_
  refine then_n (hK1 _ _ ?_); clear hK1 K1
  refine wp_seq_k ?_; intro K2 hK2
  refine wlit ?_
  refine wl_v (x_fa 0 Try.underlying28 rfl rfl ts_3 (tmP rfl rfl)) ?_
  first
   | refine wl_v (x_load Try.underlying3 rfl (tmP rfl rfl) (cellB hS.ok 1 rfl rfl)) ?_
   | refine wl_v (x_load Try.underlying3 rfl (tmP rfl rfl) (cellB hS.ok 1 rfl (getm (by omega)))) ?_
  refine wl_v (x_fa 1 Try.underlying28 rfl rfl ts_3 (tmP rfl rfl)) ?_
  first
   | refine wl_v (x_load Try.underlying3 rfl (tmP rfl rfl) (cellB hS.ok 1 rfl rfl)) ?_
   | refine wl_v (x_load Try.underlying3 rfl (tmP rfl rfl) (cellB hS.ok 1 rfl (getm (by omega)))) ?_
  refine wl_v (x_fa 2 Try.underlying28 rfl rfl ts_3 (tmP rfl rfl)) ?_
  first
   | refine wl_v (x_load Try.underlying3 rfl (tmP rfl rfl) (cellB hS.ok 1 rfl rfl)) ?_
   | refine wl_v (x_load Try.underlying3 rfl (tmP rfl rfl) (cellB hS.ok 1 rfl (getm (by omega)))) ?_
  refine wl_v (x_fa 3 Try.underlying28 rfl rfl ts_3 (tmP rfl rfl)) ?_
  first
   | refine wl_v (x_load Try.underlying3 rfl (tmP rfl rfl) (cellB hS.ok 1 rfl rfl)) ?_
   | refine wl_v (x_load Try.underlying3 rfl (tmP rfl rfl) (cellB hS.ok 1 rfl (getm (by omega)))) ?_
  refine wl_v (x_fa 4 Try.underlying28 rfl rfl ts_24 (tmP rfl rfl)) ?_
  refine wl_v (x_loadA (cs := [_, _, _]) Try.underlying24 rfl ts_24 (tmP rfl rfl) (rangeB hS.ok 1 rfl rfl)) ?_
  refine wl_v (x_fa 7 Try.underlying28 rfl rfl ts_25 (tmP rfl rfl)) ?_
  first
   | refine wl_v (x_load Try.underlying25 rfl (tmP rfl rfl) (cellB hS.ok 1 rfl rfl)) ?_
   | refine wl_v (x_load Try.underlying25 rfl (tmP rfl rfl) (cellB hS.ok 1 rfl (getm (by omega)))) ?_
  refine wl_v (x_fa 8 Try.underlying28 rfl rfl ts_5 (tmP rfl rfl)) ?_
  first
   | refine wl_v (x_load Try.underlying5 rfl (tmP rfl rfl) (cellB hS.ok 1 rfl rfl)) ?_
   | refine wl_v (x_load Try.underlying5 rfl (tmP rfl rfl) (cellB hS.ok 1 rfl (getm (by omega)))) ?_
  refine wl_v (x_fa 9 Try.underlying28 rfl rfl ts_3 (tmP rfl rfl)) ?_
  first
   | refine wl_v (x_load Try.underlying3 rfl (tmP rfl rfl) (cellB hS.ok 1 rfl rfl)) ?_
   | refine wl_v (x_load Try.underlying3 rfl (tmP rfl rfl) (cellB hS.ok 1 rfl (getm (by omega)))) ?_
  refine wl_v (x_build (bc_take (tmI rfl rfl) <| bc_take (tmI rfl rfl) <| bc_take (tmI rfl rfl) <| bc_take (tmI rfl rfl) <| bc_takeL (tmA rfl rfl) <| bc_take (tmI rfl rfl) <| bc_take (tmI rfl rfl) <| bc_take (tmI rfl rfl) <| bc_skip (.slice none 0 0) <| bc_nil) (by kernel_rfl)) ?_
  refine wl_e rfl ?_; intro K hK
  refine ow_alloc hS tz_35 rfl ?_
  clear hS; intro g1_17 w hg1_17 hS
  refine hK _ _ ?_; clear hK K
  refine wl_e rfl ?_; intro K hK
  refine ow_storeA hS 0 rfl ts_35 (tmP rfl rfl) (tmA rfl rfl) rfl rfl rfl ?_
  clear hS; intro w hS
  try replace hS := St.nm (M' := [.blk _ _ [_, _, _, _, _, _, _, _, _, _, _], .blk _ _ [_, _, _, _, _, _, _, _, _, _, _], .blk _ _ [_, _, _, _, _, _, _, _, _, _, _], .vw _ _]) hS rfl
  refine hK _ _ ?_; clear hK K
  refine wl_nil ?_
  refine then_n (hK2 _ _ ?_); clear hK2 K2
  refine wp_seq_k ?_; intro K3 hK3
  refine wp_seq_k ?_; intro K4 hK4
  refine wlit ?_
  refine wl_v (x_assign (ev_cN 0)) ?_
  refine wl_nil ?_
  refine then_n (hK4 _ _ ?_); clear hK4 K4
  refine wp_block ?_
  have hS := (hS.nilrow 64 2).pick [0, 1, 2, 3, 4] rfl rfl --ents row,g1_17,g0_1,g0_0,vl
  refine lp [4, 22, 23, 24, 25, 26, 27, 28, 29, 30, 31, 32, 33, 34, 35, 36, 37, 38, 39, 40, 41, 42, 43, 44, 45, 46] (fun mz g w => ∃ (k : Nat), ∃ (G : Option Addr), ∃ (cg : Nat), mz = n - k ∧ g 4 = .int .i64 (k : Int) ∧ St [] w0 [.row (.slice G k cg) 64 2 k (flat mmV (l.take k)), .blk g1_17 35 (opV h G k cg), .blk g0_1 35 (opV ⟨0, 0, 0, 0, ⟨false, 0, 0⟩, 0, 0, 0⟩ none 0 0), .blk g0_0 28 (opV h L n c), .vw L (flat mmV l)] w ∧ (k ≤ n)) ?_ ?_
  · exact ⟨_, 0, none, 0, rfl, (by first | rfl | go_num | exact congrArg (Value.int _) (by first | omega | (simp; done) | (simp; omega))), hS, (by omega)⟩
  · clear hS; intro mz g w hI
    obtain ⟨k, G, cg, rfl, hs4, hS, hk⟩ := hI
    refine fr_know (d := 4) hs4 ?_; clear hs4
    refine wp_seq_k ?_; intro K5 hK5
    refine wp_seq_k ?_; intro K6 hK6
    refine wlit ?_
    refine wl_v (x_move (tmI rfl rfl)) ?_
    refine wl_v (x_fa 10 Try.underlying28 rfl rfl ts_26 (tmP rfl rfl)) ?_
    first
     | refine wl_v (x_load Try.underlying26 rfl (tmP rfl rfl) (cellB hS.ok 3 rfl rfl)) ?_
     | refine wl_v (x_load Try.underlying26 rfl (tmP rfl rfl) (cellB hS.ok 3 rfl (getm (by omega)))) ?_
    refine wl_v (x_len Try.underlying26 (tmS rfl rfl)) ?_
    refine wl_v (x_lss (tmI rfl rfl) (tmI rfl rfl)) ?_
    refine wl_nil ?_
    refine then_n (hK6 _ _ ?_); clear hK6 K6
    refine cnd (tm rfl) (fun hc0 => ?_) (fun hc0 => ?_)
    · try (exfalso; first | with_reducible exact absurd hc0 Bool.false_ne_true | with_reducible exact absurd hc0.symm Bool.false_ne_true | (simp only [nrm] at hc0; omega) | (simp at hc0; done))
      all_goals
       try simp only [nrm] at hc0
       obtain ⟨b4, o4, rfl⟩ := view_some (viewV hS.ok 4 rfl) (by rw [hfl]; omega)
       have htk : flat mmV (l.take (k + 1)) = flat mmV (l.take k) ++ mmV (l.getD k default) := by
         rw [List.take_succ_eq_append_getElem (by omega), flat_snoc, List.getD_eq_getElem?_getD, List.getElem?_eq_getElem (by omega)]
         rfl
       refine wp_skip ?_
       refine then_n (hK5 _ _ ?_); clear hK5 K5
       refine wp_seq_k ?_; intro K7 hK7
       refine wp_block ?_
       refine cutc [29, 30, 31, 32, 33, 34, 35, 36, 37, 38, 39, 40, 41, 42, 43, 44, 45, 46] (fun g w => ∃ (G2 : Option Addr), ∃ (cg2 : Nat), St [] w0 [.row (.slice G2 (k + 1) cg2) 64 2 (k + 1) (flat mmV (l.take (k + 1))), .blk g1_17 35 (opV h G2 (k + 1) cg2), .blk g0_1 35 (opV ⟨0, 0, 0, 0, ⟨false, 0, 0⟩, 0, 0, 0⟩ none 0 0), .blk g0_0 28 (opV h (some ⟨b4, o4, none⟩) n c), .vw (some ⟨b4, o4, none⟩) (flat mmV l)] w) ?_ ?_
       · skip
         refine rg_startk 2 hS mixed_ ?_
         clear hS; intro w hS
         refine rg_take 0 rfl rfl (by kernel_rfl) (by kernel_rfl) (by kernel_rfl) (want_0) (fun w hok => x_fa 10 Try.underlying35 rfl rfl ts_33 (tmP rfl rfl)) ?_
         refine rg_take 2 rfl rfl (by kernel_rfl) (by kernel_rfl) (by kernel_rfl) (want_0) (fun w hok => x_fa 10 Try.underlying28 rfl rfl ts_26 (tmP rfl rfl)) ?_
         first
          | refine rg_take 3 rfl rfl (by kernel_rfl) (by kernel_rfl) (by kernel_rfl) (want_0) (fun w hok => x_load Try.underlying26 rfl (tmP rfl rfl) (cellB hok 1 rfl rfl)) ?_
          | refine rg_take 3 rfl rfl (by kernel_rfl) (by kernel_rfl) (by kernel_rfl) (want_0) (fun w hok => x_load Try.underlying26 rfl (tmP rfl rfl) (cellB hok 1 rfl (getm (by omega)))) ?_
         refine rg_take 4 rfl rfl (by kernel_rfl) (by kernel_rfl) (by kernel_rfl) (want_0) (fun w hok => x_move (tmI rfl rfl)) ?_
         refine rg_take 5 rfl rfl (by kernel_rfl) (by kernel_rfl) (by kernel_rfl) (want_0) (fun w hok => x_ixs Try.underlying26 ts_65 (tmS rfl rfl) (tmI rfl rfl) (by omega)) ?_
         refine rg_take 6 rfl rfl (by kernel_rfl) (by kernel_rfl) (by kernel_rfl) (want_0) (fun w hok => x_fa 0 Try.underlying65 rfl rfl ts_3 (tmP rfl rfl)) ?_
         first
          | refine rg_take 7 rfl rfl (by kernel_rfl) (by kernel_rfl) (by kernel_rfl) (want_0) (fun w hok => x_load Try.underlying3 rfl (tmP rfl rfl) (cellV hok 2 rfl rfl)) ?_
          | refine rg_take 7 rfl rfl (by kernel_rfl) (by kernel_rfl) (by kernel_rfl) (want_0) (fun w hok => x_load Try.underlying3 rfl (tmP rfl rfl) (cellV hok 2 rfl (getm (by omega)))) ?_
          | refine rg_take 7 rfl rfl (by kernel_rfl) (by kernel_rfl) (by kernel_rfl) (want_0) (fun w hok => x_load Try.underlying3 rfl (tmP rfl rfl) (cellVs hok 2 rfl (fun _ => rfl) rfl (by omega) rfl)) ?_
         refine rg_take 8 rfl rfl (by kernel_rfl) (by kernel_rfl) (by kernel_rfl) (want_0) (fun w hok => x_fa 10 Try.underlying28 rfl rfl ts_26 (tmP rfl rfl)) ?_
         first
          | refine rg_take 9 rfl rfl (by kernel_rfl) (by kernel_rfl) (by kernel_rfl) (want_0) (fun w hok => x_load Try.underlying26 rfl (tmP rfl rfl) (cellB hok 1 rfl rfl)) ?_
          | refine rg_take 9 rfl rfl (by kernel_rfl) (by kernel_rfl) (by kernel_rfl) (want_0) (fun w hok => x_load Try.underlying26 rfl (tmP rfl rfl) (cellB hok 1 rfl (getm (by omega)))) ?_
         refine rg_take 10 rfl rfl (by kernel_rfl) (by kernel_rfl) (by kernel_rfl) (want_0) (fun w hok => x_move (tmI rfl rfl)) ?_
         refine rg_take 11 rfl rfl (by kernel_rfl) (by kernel_rfl) (by kernel_rfl) (want_0) (fun w hok => x_ixs Try.underlying26 ts_65 (tmS rfl rfl) (tmI rfl rfl) (by omega)) ?_
         refine rg_take 12 rfl rfl (by kernel_rfl) (by kernel_rfl) (by kernel_rfl) (want_0) (fun w hok => x_fa 1 Try.underlying65 rfl rfl ts_3 (tmP rfl rfl)) ?_
         first
          | refine rg_take 13 rfl rfl (by kernel_rfl) (by kernel_rfl) (by kernel_rfl) (want_0) (fun w hok => x_load Try.underlying3 rfl (tmP rfl rfl) (cellV hok 2 rfl rfl)) ?_
          | refine rg_take 13 rfl rfl (by kernel_rfl) (by kernel_rfl) (by kernel_rfl) (want_0) (fun w hok => x_load Try.underlying3 rfl (tmP rfl rfl) (cellV hok 2 rfl (getm (by omega)))) ?_
          | refine rg_take 13 rfl rfl (by kernel_rfl) (by kernel_rfl) (by kernel_rfl) (want_0) (fun w hok => x_load Try.underlying3 rfl (tmP rfl rfl) (cellVs hok 2 rfl (fun _ => rfl) rfl (by omega) rfl)) ?_
         refine rg_take 14 rfl rfl (by kernel_rfl) (by kernel_rfl) (by kernel_rfl) (want_0) (fun w hok => x_build (bc_take (tmI rfl rfl) <| bc_take (tmI rfl rfl) <| bc_nil) (by kernel_rfl)) ?_
         refine rg_step2 1 15 rfl rfl (by kernel_rfl) (want_0) (want_0) (oks_drop hS 2 rfl) ?_ ?_
         · intro K hK
           first
            | refine ow_v (x_load Try.underlying33 rfl (tmP rfl rfl) (cellB hS.ok 1 rfl rfl)) ?_
            | refine ow_v (x_load Try.underlying33 rfl (tmP rfl rfl) (cellB hS.ok 1 rfl (getm (by omega)))) ?_
           refine hK _ _ ?_; clear hK K
           refine rg_step 15 rfl (by kernel_rfl) (want_0) (oks_drop hS 2 rfl) ?_; intro K hK
           refine ow_build hS Try.underlying33 tz_64 (bc_takeL (tmA rfl rfl) <| bc_nil) rfl rfl (by kernel_rfl) ?_
           clear hS; intro g5_15 w hg5_15 hS
           refine hK _ _ ?_; clear hK K
           refine rg_step 16 rfl (by kernel_rfl) (want_0) (oks_drop hS 3 rfl) ?_; intro K hK
           (refine ow_append hS 1 0 rfl rfl Try.underlying33 tz_64 rfl (tmS rfl rfl) (tmS rfl rfl) rfl ⟨by decide, by decide, rfl⟩ (by simp only [maxLen]; omega) (by omega) ?_; clear hS; intro g5_16 cg5_16 w hS)
           refine hK _ _ ?_; clear hK K
           refine rg_take 17 rfl rfl (by kernel_rfl) (by kernel_rfl) (by kernel_rfl) (want_0) (fun w hok => x_fa 10 Try.underlying35 rfl rfl ts_33 (tmP rfl rfl)) ?_
           refine rg_step 18 rfl (by kernel_rfl) (want_0) (oks_drop hS 3 rfl) ?_; intro K hK
           first
            | refine ow_store hS 2 rfl ts_33 (tmP rfl rfl) (tmS rfl rfl) rfl rfl ?_
            | refine ow_storeX hS 2 rfl ts_33 (tmP rfl rfl) (tmS rfl rfl) rfl (by simp; omega) ?_
           clear hS; intro w hS
           try replace hS := St.nm (M' := [_, .row _ _ _ _ _, .blk _ _ [_, _, _, _, _, _, _, _, _, _, _], .blk _ _ [_, _, _, _, _, _, _, _, _, _, _], .blk _ _ [_, _, _, _, _, _, _, _, _, _, _], .vw _ _]) hS rfl
           refine hK _ _ ?_; clear hK K
           refine rg_done (oks_drop hS 3 rfl) (by kernel_rfl) ?_
           exact then_n ⟨_, rfl, (by repeat (first | exact agree_self | exact agree_refl | refine agree_upd rfl ?_ | refine agree_mix rfl ?_)), _, _, (by rw [htk]; exact hS.pick [1, 2, 3, 4, 5] rfl rfl)⟩
         · intro K hK
           refine ow_build hS Try.underlying33 tz_64 (bc_takeL (tmA rfl rfl) <| bc_nil) rfl rfl (by kernel_rfl) ?_
           clear hS; intro g5_15 w hg5_15 hS
           refine hK _ _ ?_; clear hK K
           refine rg_step 1 rfl (by kernel_rfl) (want_0) (oks_drop hS 3 rfl) ?_; intro K hK
           first
            | refine ow_v (x_load Try.underlying33 rfl (tmP rfl rfl) (cellB hS.ok 2 rfl rfl)) ?_
            | refine ow_v (x_load Try.underlying33 rfl (tmP rfl rfl) (cellB hS.ok 2 rfl (getm (by omega)))) ?_
           refine hK _ _ ?_; clear hK K
           refine rg_step 16 rfl (by kernel_rfl) (want_0) (oks_drop hS 3 rfl) ?_; intro K hK
           (refine ow_append hS 1 0 rfl rfl Try.underlying33 tz_64 rfl (tmS rfl rfl) (tmS rfl rfl) rfl ⟨by decide, by decide, rfl⟩ (by simp only [maxLen]; omega) (by omega) ?_; clear hS; intro g5_16 cg5_16 w hS)
           refine hK _ _ ?_; clear hK K
           refine rg_take 17 rfl rfl (by kernel_rfl) (by kernel_rfl) (by kernel_rfl) (want_0) (fun w hok => x_fa 10 Try.underlying35 rfl rfl ts_33 (tmP rfl rfl)) ?_
           refine rg_step 18 rfl (by kernel_rfl) (want_0) (oks_drop hS 3 rfl) ?_; intro K hK
           first
            | refine ow_store hS 2 rfl ts_33 (tmP rfl rfl) (tmS rfl rfl) rfl rfl ?_
            | refine ow_storeX hS 2 rfl ts_33 (tmP rfl rfl) (tmS rfl rfl) rfl (by simp; omega) ?_
           clear hS; intro w hS
           try replace hS := St.nm (M' := [_, .row _ _ _ _ _, .blk _ _ [_, _, _, _, _, _, _, _, _, _, _], .blk _ _ [_, _, _, _, _, _, _, _, _, _, _], .blk _ _ [_, _, _, _, _, _, _, _, _, _, _], .vw _ _]) hS rfl
           refine hK _ _ ?_; clear hK K
           refine rg_done (oks_drop hS 3 rfl) (by kernel_rfl) ?_
           exact then_n ⟨_, rfl, (by repeat (first | exact agree_self | exact agree_refl | refine agree_upd rfl ?_ | refine agree_mix rfl ?_)), _, _, (by rw [htk]; exact hS.pick [1, 2, 3, 4, 5] rfl rfl)⟩
       · clear hS; intro g w hI
         obtain ⟨G2, cg2, hS⟩ := hI
         refine inb_n ?_
         refine then_n (hK7 _ _ ?_); clear hK7 K7
         refine wlit ?_
         refine wl_v (x_move (tmI rfl rfl)) ?_
         first
          | refine wl_v (x_addN (tmI rfl rfl) (ev_cN 1) (fit_i64 (by omega))) ?_
          | refine wl_v (x_addI (tmI rfl rfl) (ev_cN 1) (IntWalk.i64_in _ (by omega))) ?_
          | refine wl_v (x_add (tmI rfl rfl) (ev_cN 1)) ?_
         refine wl_v (x_assign (tmI rfl rfl)) ?_
         refine wl_nil ?_
         exact then_n ⟨_, _, rfl, (by show _ < _; omega), (by repeat (first | exact agree_self | exact agree_refl | refine agree_upd rfl ?_ | refine agree_mix rfl ?_)), k + 1, G2, cg2, rfl, (by first | rfl | go_num | exact congrArg (Value.int _) (by first | omega | (simp; done) | (simp; omega))), hS, (by omega)⟩
    try (exfalso; first | with_reducible exact absurd hc0 Bool.false_ne_true | with_reducible exact absurd hc0.symm Bool.false_ne_true | (simp only [nrm] at hc0; omega) | (simp at hc0; done))
    all_goals
     try simp only [nrm] at hc0
     refine wp_exit ?_
     refine then_x ?_; clear hK5 K5
     refine then_x ?_
     refine inb_x ?_
     refine then_n (hK3 _ _ ?_); clear hK3 K3
     refine wp_seq_k ?_; intro K9 hK9
     refine wlit ?_
     refine wl_v (x_loadA (cs := [_, _, _, _, _, _, _, _, _, _, _]) Try.underlying35 rfl ts_35 (tmP rfl rfl) (rangeB hS.ok 1 rfl rfl)) ?_
     refine wl_e rfl ?_; intro K hK
     refine ow_storeA hS 2 rfl ts_35 (tmP rfl rfl) (tmA rfl rfl) rfl rfl rfl ?_
     clear hS; intro w hS
     try replace hS := St.nm (M' := [.row _ _ _ _ _, .blk _ _ [_, _, _, _, _, _, _, _, _, _, _], .blk _ _ [_, _, _, _, _, _, _, _, _, _, _], .blk _ _ [_, _, _, _, _, _, _, _, _, _, _], .vw _ _]) hS rfl
     refine hK _ _ ?_; clear hK K
     refine wl_nil ?_
     refine then_n (hK9 _ _ ?_); clear hK9 K9
     refine wp_ret ?_
     refine ret1 rfl (.cell rfl rfl (load_rowB (cs := [_, _, _, _, _, _, _, _, _, _, _]) hS.ok 2 rfl Try.underlying35 rfl ts_35 rfl)) ?_
     obtain rfl : n = k := by omega
     rw [List.take_of_length_le (by omega)] at hS
     exact ⟨_, _, rfl, hS.newv 0 rfl, row_cap (hS.rowOk 0 rfl) (by decide), hS.kp⟩
def eqMm (x y : Mm) : Bool := decide (x.1 = y.1) && (decide (x.2 = y.2) && true)
set_option maxRecDepth 100000 in
set_option maxHeartbeats 8000000 in
theorem csame_c (h : Hp) (L : Option Addr) (n c : Nat) (L2 : Option Addr) (c2 : Nat) (l : List Mm) (w0 : World) (hv : View w0 w0.heap.size L (flat mmV l)) (hv2 : View w0 w0.heap.size L2 (flat mmV l)) (hl : l.length = n) (hn : n ≤ 1000) :
    Calls Try.prog 8 #[.agg (opV h L n c).toArray, .agg (opV h L2 n c2).toArray] w0 fun e w' => e = .returned (.bool true) ∧ Kp [] w0 w' := by
  have hfl := flat_length (enc := mmV) (l := l) mmV_len
  have hS := ((St.sv w0).vcons rfl hv2).vcons rfl hv
  refine ent (n := 87) Try.func8 rfl rfl ?_
  refine wp_seq_k ?_; intro K1 hK1
  refine wlit ?_
  refine wl_e rfl ?_; intro K hK
  refine ow_box hS (tmA rfl rfl) rfl ?_
  clear hS; intro g0_0 w hg0_0 hS
  refine hK _ _ ?_; clear hK K
  refine wl_e rfl ?_; intro K hK
  refine ow_box hS (tmA rfl rfl) rfl ?_
  clear hS; intro g0_1 w hg0_1 hS
  refine hK _ _ ?_; clear hK K
  refine wl_v (x_assign ev_c) ?_
  refine wl_nil ?_
  refine then_n (hK1 _ _ ?_); clear hK1 K1
  refine wp_seq_k ?_; intro K2 hK2
  refine wp_seq_k ?_; intro K3 hK3
  refine wlit ?_
  refine wl_v (x_fa 0 Try.underlying35 rfl rfl ts_3 (tmP rfl rfl)) ?_
  first
   | refine wl_v (x_load Try.underlying3 rfl (tmP rfl rfl) (cellB hS.ok 1 rfl rfl)) ?_
   | refine wl_v (x_load Try.underlying3 rfl (tmP rfl rfl) (cellB hS.ok 1 rfl (getm (by omega)))) ?_
  refine wl_v (x_fa 0 Try.underlying35 rfl rfl ts_3 (tmP rfl rfl)) ?_
  first
   | refine wl_v (x_load Try.underlying3 rfl (tmP rfl rfl) (cellB hS.ok 0 rfl rfl)) ?_
   | refine wl_v (x_load Try.underlying3 rfl (tmP rfl rfl) (cellB hS.ok 0 rfl (getm (by omega)))) ?_
  refine wl_v (x_neq (tmI rfl rfl) (tmI rfl rfl)) ?_
  refine wl_v (x_move (tmB rfl rfl)) ?_
  refine gs_wl (tm (t := 11) rfl) (fun hg1_5 => ?_) (fun hg1_5 => ?_)
  · exfalso
    simp at hg1_5
  have hg1_5' := hg1_5; (try simp only [nrm] at hg1_5'); try (exfalso; first | with_reducible exact absurd hg1_5 Bool.false_ne_true | with_reducible exact absurd hg1_5.symm Bool.false_ne_true | omega | (simp at hg1_5; done))
  all_goals
   refine wl_gv (want_y rfl rfl rfl rfl (by rw [hg1_5]; rfl)) (x_fa 1 Try.underlying35 rfl rfl ts_3 (tmP rfl rfl)) ?_
   first
    | refine wl_gv (want_y rfl rfl rfl rfl (by rw [hg1_5]; rfl)) (x_load Try.underlying3 rfl (tmP rfl rfl) (cellB hS.ok 1 rfl rfl)) ?_
    | refine wl_gv (want_y rfl rfl rfl rfl (by rw [hg1_5]; rfl)) (x_load Try.underlying3 rfl (tmP rfl rfl) (cellB hS.ok 1 rfl (getm (by omega)))) ?_
   refine wl_gv (want_y rfl rfl rfl rfl (by rw [hg1_5]; rfl)) (x_fa 1 Try.underlying35 rfl rfl ts_3 (tmP rfl rfl)) ?_
   first
    | refine wl_gv (want_y rfl rfl rfl rfl (by rw [hg1_5]; rfl)) (x_load Try.underlying3 rfl (tmP rfl rfl) (cellB hS.ok 0 rfl rfl)) ?_
    | refine wl_gv (want_y rfl rfl rfl rfl (by rw [hg1_5]; rfl)) (x_load Try.underlying3 rfl (tmP rfl rfl) (cellB hS.ok 0 rfl (getm (by omega)))) ?_
   refine wl_gv (want_y rfl rfl rfl rfl (by rw [hg1_5]; rfl)) (x_neq (tmI rfl rfl) (tmI rfl rfl)) ?_
   refine wl_v (x_pickF (tmB rfl rfl) hg1_5 (tmB rfl rfl)) ?_
   refine wl_v (x_move (tmB rfl rfl)) ?_
   refine gs_wl (tm (t := 18) rfl) (fun hg1_12 => ?_) (fun hg1_12 => ?_)
   · exfalso
     simp at hg1_12
   have hg1_12' := hg1_12; (try simp only [nrm] at hg1_12'); try (exfalso; first | with_reducible exact absurd hg1_12 Bool.false_ne_true | with_reducible exact absurd hg1_12.symm Bool.false_ne_true | omega | (simp at hg1_12; done))
   all_goals
    refine wl_gv (want_y rfl rfl rfl rfl (by rw [hg1_12]; rfl)) (x_fa 2 Try.underlying35 rfl rfl ts_3 (tmP rfl rfl)) ?_
    first
     | refine wl_gv (want_y rfl rfl rfl rfl (by rw [hg1_12]; rfl)) (x_load Try.underlying3 rfl (tmP rfl rfl) (cellB hS.ok 1 rfl rfl)) ?_
     | refine wl_gv (want_y rfl rfl rfl rfl (by rw [hg1_12]; rfl)) (x_load Try.underlying3 rfl (tmP rfl rfl) (cellB hS.ok 1 rfl (getm (by omega)))) ?_
    refine wl_gv (want_y rfl rfl rfl rfl (by rw [hg1_12]; rfl)) (x_fa 2 Try.underlying35 rfl rfl ts_3 (tmP rfl rfl)) ?_
    first
     | refine wl_gv (want_y rfl rfl rfl rfl (by rw [hg1_12]; rfl)) (x_load Try.underlying3 rfl (tmP rfl rfl) (cellB hS.ok 0 rfl rfl)) ?_
     | refine wl_gv (want_y rfl rfl rfl rfl (by rw [hg1_12]; rfl)) (x_load Try.underlying3 rfl (tmP rfl rfl) (cellB hS.ok 0 rfl (getm (by omega)))) ?_
    refine wl_gv (want_y rfl rfl rfl rfl (by rw [hg1_12]; rfl)) (x_neq (tmI rfl rfl) (tmI rfl rfl)) ?_
    refine wl_v (x_pickF (tmB rfl rfl) hg1_12 (tmB rfl rfl)) ?_
    refine wl_v (x_move (tmB rfl rfl)) ?_
    refine gs_wl (tm (t := 25) rfl) (fun hg1_19 => ?_) (fun hg1_19 => ?_)
    · exfalso
      simp at hg1_19
    have hg1_19' := hg1_19; (try simp only [nrm] at hg1_19'); try (exfalso; first | with_reducible exact absurd hg1_19 Bool.false_ne_true | with_reducible exact absurd hg1_19.symm Bool.false_ne_true | omega | (simp at hg1_19; done))
    all_goals
     refine wl_gv (want_y rfl rfl rfl rfl (by rw [hg1_19]; rfl)) (x_fa 3 Try.underlying35 rfl rfl ts_3 (tmP rfl rfl)) ?_
     first
      | refine wl_gv (want_y rfl rfl rfl rfl (by rw [hg1_19]; rfl)) (x_load Try.underlying3 rfl (tmP rfl rfl) (cellB hS.ok 1 rfl rfl)) ?_
      | refine wl_gv (want_y rfl rfl rfl rfl (by rw [hg1_19]; rfl)) (x_load Try.underlying3 rfl (tmP rfl rfl) (cellB hS.ok 1 rfl (getm (by omega)))) ?_
     refine wl_gv (want_y rfl rfl rfl rfl (by rw [hg1_19]; rfl)) (x_fa 3 Try.underlying35 rfl rfl ts_3 (tmP rfl rfl)) ?_
     first
      | refine wl_gv (want_y rfl rfl rfl rfl (by rw [hg1_19]; rfl)) (x_load Try.underlying3 rfl (tmP rfl rfl) (cellB hS.ok 0 rfl rfl)) ?_
      | refine wl_gv (want_y rfl rfl rfl rfl (by rw [hg1_19]; rfl)) (x_load Try.underlying3 rfl (tmP rfl rfl) (cellB hS.ok 0 rfl (getm (by omega)))) ?_
     refine wl_gv (want_y rfl rfl rfl rfl (by rw [hg1_19]; rfl)) (x_neq (tmI rfl rfl) (tmI rfl rfl)) ?_
     refine wl_v (x_pickF (tmB rfl rfl) hg1_19 (tmB rfl rfl)) ?_
     refine wl_v (x_move (tmB rfl rfl)) ?_
     refine gs_wl (tm (t := 32) rfl) (fun hg1_26 => ?_) (fun hg1_26 => ?_)
     · exfalso
       simp at hg1_26
     have hg1_26' := hg1_26; (try simp only [nrm] at hg1_26'); try (exfalso; first | with_reducible exact absurd hg1_26 Bool.false_ne_true | with_reducible exact absurd hg1_26.symm Bool.false_ne_true | omega | (simp at hg1_26; done))
     all_goals
      refine wl_gv (want_y rfl rfl rfl rfl (by rw [hg1_26]; rfl)) (x_fa 4 Try.underlying35 rfl rfl ts_24 (tmP rfl rfl)) ?_
      refine wl_gv (want_y rfl rfl rfl rfl (by rw [hg1_26]; rfl)) (x_loadA (cs := [_, _, _]) Try.underlying24 rfl ts_24 (tmP rfl rfl) (rangeB hS.ok 1 rfl rfl)) ?_
      refine wl_gv (want_y rfl rfl rfl rfl (by rw [hg1_26]; rfl)) (x_fa 4 Try.underlying35 rfl rfl ts_24 (tmP rfl rfl)) ?_
      refine wl_gv (want_y rfl rfl rfl rfl (by rw [hg1_26]; rfl)) (x_loadA (cs := [_, _, _]) Try.underlying24 rfl ts_24 (tmP rfl rfl) (rangeB hS.ok 0 rfl rfl)) ?_
      refine wl_gv (want_y rfl rfl rfl rfl (by rw [hg1_26]; rfl)) (x_Aneq (by kernel_rfl) (tmA rfl rfl) (tmA rfl rfl) (eqv_A Try.underlying24 (by kernel_rfl) (fe_cons rfl (pt_1 Try.underlying4 rfl rfl) (pt_1 Try.underlying4 rfl rfl) (eqv_b Try.underlying4) <| fe_cons rfl (pt_1 Try.underlying22 rfl rfl) (pt_1 Try.underlying22 rfl rfl) (eqv_i Try.underlying22) <| fe_cons rfl (pt_1 Try.underlying22 rfl rfl) (pt_1 Try.underlying22 rfl rfl) (eqv_i Try.underlying22) <| fe_nil))) ?_
      refine wl_v (x_pickF (tmB rfl rfl) hg1_26 (tmB rfl rfl)) ?_
      refine wl_v (x_move (tmB rfl rfl)) ?_
      refine gs_wl (tm (t := 39) rfl) (fun hg1_33 => ?_) (fun hg1_33 => ?_)
      · exfalso
        simp at hg1_33
      have hg1_33' := hg1_33; (try simp only [nrm] at hg1_33'); try (exfalso; first | with_reducible exact absurd hg1_33 Bool.false_ne_true | with_reducible exact absurd hg1_33.symm Bool.false_ne_true | omega | (simp at hg1_33; done))
      all_goals
       refine wl_gv (want_y rfl rfl rfl rfl (by rw [hg1_33]; rfl)) (x_fa 7 Try.underlying35 rfl rfl ts_25 (tmP rfl rfl)) ?_
       first
        | refine wl_gv (want_y rfl rfl rfl rfl (by rw [hg1_33]; rfl)) (x_load Try.underlying25 rfl (tmP rfl rfl) (cellB hS.ok 1 rfl rfl)) ?_
        | refine wl_gv (want_y rfl rfl rfl rfl (by rw [hg1_33]; rfl)) (x_load Try.underlying25 rfl (tmP rfl rfl) (cellB hS.ok 1 rfl (getm (by omega)))) ?_
       refine wl_gv (want_y rfl rfl rfl rfl (by rw [hg1_33]; rfl)) (x_fa 7 Try.underlying35 rfl rfl ts_25 (tmP rfl rfl)) ?_
       first
        | refine wl_gv (want_y rfl rfl rfl rfl (by rw [hg1_33]; rfl)) (x_load Try.underlying25 rfl (tmP rfl rfl) (cellB hS.ok 0 rfl rfl)) ?_
        | refine wl_gv (want_y rfl rfl rfl rfl (by rw [hg1_33]; rfl)) (x_load Try.underlying25 rfl (tmP rfl rfl) (cellB hS.ok 0 rfl (getm (by omega)))) ?_
       refine wl_gv (want_y rfl rfl rfl rfl (by rw [hg1_33]; rfl)) (x_neq (tmI rfl rfl) (tmI rfl rfl)) ?_
       refine wl_v (x_pickF (tmB rfl rfl) hg1_33 (tmB rfl rfl)) ?_
       refine wl_v (x_move (tmB rfl rfl)) ?_
       refine gs_wl (tm (t := 46) rfl) (fun hg1_40 => ?_) (fun hg1_40 => ?_)
       · exfalso
         simp at hg1_40
       have hg1_40' := hg1_40; (try simp only [nrm] at hg1_40'); try (exfalso; first | with_reducible exact absurd hg1_40 Bool.false_ne_true | with_reducible exact absurd hg1_40.symm Bool.false_ne_true | omega | (simp at hg1_40; done))
       all_goals
        refine wl_gv (want_y rfl rfl rfl rfl (by rw [hg1_40]; rfl)) (x_fa 8 Try.underlying35 rfl rfl ts_5 (tmP rfl rfl)) ?_
        first
         | refine wl_gv (want_y rfl rfl rfl rfl (by rw [hg1_40]; rfl)) (x_load Try.underlying5 rfl (tmP rfl rfl) (cellB hS.ok 1 rfl rfl)) ?_
         | refine wl_gv (want_y rfl rfl rfl rfl (by rw [hg1_40]; rfl)) (x_load Try.underlying5 rfl (tmP rfl rfl) (cellB hS.ok 1 rfl (getm (by omega)))) ?_
        refine wl_gv (want_y rfl rfl rfl rfl (by rw [hg1_40]; rfl)) (x_fa 8 Try.underlying35 rfl rfl ts_5 (tmP rfl rfl)) ?_
        first
         | refine wl_gv (want_y rfl rfl rfl rfl (by rw [hg1_40]; rfl)) (x_load Try.underlying5 rfl (tmP rfl rfl) (cellB hS.ok 0 rfl rfl)) ?_
         | refine wl_gv (want_y rfl rfl rfl rfl (by rw [hg1_40]; rfl)) (x_load Try.underlying5 rfl (tmP rfl rfl) (cellB hS.ok 0 rfl (getm (by omega)))) ?_
        refine wl_gv (want_y rfl rfl rfl rfl (by rw [hg1_40]; rfl)) (x_neq (tmI rfl rfl) (tmI rfl rfl)) ?_
        refine wl_v (x_pickF (tmB rfl rfl) hg1_40 (tmB rfl rfl)) ?_
        refine wl_v (x_move (tmB rfl rfl)) ?_
        refine gs_wl (tm (t := 53) rfl) (fun hg1_47 => ?_) (fun hg1_47 => ?_)
        · exfalso
          simp at hg1_47
        have hg1_47' := hg1_47; (try simp only [nrm] at hg1_47'); try (exfalso; first | with_reducible exact absurd hg1_47 Bool.false_ne_true | with_reducible exact absurd hg1_47.symm Bool.false_ne_true | omega | (simp at hg1_47; done))
        all_goals
         refine wl_gv (want_y rfl rfl rfl rfl (by rw [hg1_47]; rfl)) (x_fa 9 Try.underlying35 rfl rfl ts_3 (tmP rfl rfl)) ?_
         first
          | refine wl_gv (want_y rfl rfl rfl rfl (by rw [hg1_47]; rfl)) (x_load Try.underlying3 rfl (tmP rfl rfl) (cellB hS.ok 1 rfl rfl)) ?_
          | refine wl_gv (want_y rfl rfl rfl rfl (by rw [hg1_47]; rfl)) (x_load Try.underlying3 rfl (tmP rfl rfl) (cellB hS.ok 1 rfl (getm (by omega)))) ?_
         refine wl_gv (want_y rfl rfl rfl rfl (by rw [hg1_47]; rfl)) (x_fa 9 Try.underlying35 rfl rfl ts_3 (tmP rfl rfl)) ?_
         first
          | refine wl_gv (want_y rfl rfl rfl rfl (by rw [hg1_47]; rfl)) (x_load Try.underlying3 rfl (tmP rfl rfl) (cellB hS.ok 0 rfl rfl)) ?_
          | refine wl_gv (want_y rfl rfl rfl rfl (by rw [hg1_47]; rfl)) (x_load Try.underlying3 rfl (tmP rfl rfl) (cellB hS.ok 0 rfl (getm (by omega)))) ?_
         refine wl_gv (want_y rfl rfl rfl rfl (by rw [hg1_47]; rfl)) (x_neq (tmI rfl rfl) (tmI rfl rfl)) ?_
         refine wl_v (x_pickF (tmB rfl rfl) hg1_47 (tmB rfl rfl)) ?_
         refine wl_v (x_move (tmB rfl rfl)) ?_
         refine gs_wl (tm (t := 60) rfl) (fun hg1_54 => ?_) (fun hg1_54 => ?_)
         · exfalso
           simp at hg1_54
         have hg1_54' := hg1_54; (try simp only [nrm] at hg1_54'); try (exfalso; first | with_reducible exact absurd hg1_54 Bool.false_ne_true | with_reducible exact absurd hg1_54.symm Bool.false_ne_true | omega | (simp at hg1_54; done))
         all_goals
          refine wl_gv (want_y rfl rfl rfl rfl (by rw [hg1_54]; rfl)) (x_fa 10 Try.underlying35 rfl rfl ts_33 (tmP rfl rfl)) ?_
          first
           | refine wl_gv (want_y rfl rfl rfl rfl (by rw [hg1_54]; rfl)) (x_load Try.underlying33 rfl (tmP rfl rfl) (cellB hS.ok 1 rfl rfl)) ?_
           | refine wl_gv (want_y rfl rfl rfl rfl (by rw [hg1_54]; rfl)) (x_load Try.underlying33 rfl (tmP rfl rfl) (cellB hS.ok 1 rfl (getm (by omega)))) ?_
          refine wl_gv (want_y rfl rfl rfl rfl (by rw [hg1_54]; rfl)) (x_len Try.underlying33 (tmS rfl rfl)) ?_
          refine wl_gv (want_y rfl rfl rfl rfl (by rw [hg1_54]; rfl)) (x_fa 10 Try.underlying35 rfl rfl ts_33 (tmP rfl rfl)) ?_
          first
           | refine wl_gv (want_y rfl rfl rfl rfl (by rw [hg1_54]; rfl)) (x_load Try.underlying33 rfl (tmP rfl rfl) (cellB hS.ok 0 rfl rfl)) ?_
           | refine wl_gv (want_y rfl rfl rfl rfl (by rw [hg1_54]; rfl)) (x_load Try.underlying33 rfl (tmP rfl rfl) (cellB hS.ok 0 rfl (getm (by omega)))) ?_
          refine wl_gv (want_y rfl rfl rfl rfl (by rw [hg1_54]; rfl)) (x_len Try.underlying33 (tmS rfl rfl)) ?_
          refine wl_gv (want_y rfl rfl rfl rfl (by rw [hg1_54]; rfl)) (x_neq (tmI rfl rfl) (tmI rfl rfl)) ?_
          refine wl_v (x_pickF (tmB rfl rfl) hg1_54 (tmB rfl rfl)) ?_
          refine wl_nil ?_
          refine then_n (hK3 _ _ ?_); clear hK3 K3
          refine cnd (tm rfl) (fun hc0 => ?_) (fun hc0 => ?_)
          · exfalso
            simp at hc0
          try (exfalso; first | with_reducible exact absurd hc0 Bool.false_ne_true | with_reducible exact absurd hc0.symm Bool.false_ne_true | (simp only [nrm] at hc0; omega) | (simp at hc0; done))
          all_goals
           try simp only [nrm] at hc0
           refine wp_skip ?_
           refine then_n (hK2 _ _ ?_); clear hK2 K2
           refine wp_seq_k ?_; intro K4 hK4
           refine wp_seq_k ?_; intro K5 hK5
           refine wlit ?_
           refine wl_v (x_assign (ev_cN 0)) ?_
           refine wl_nil ?_
           refine then_n (hK5 _ _ ?_); clear hK5 K5
           refine wp_block ?_
           refine lp [4, 5, 69, 70, 71, 72, 73, 74, 75, 76, 77, 78, 79, 80, 81, 82, 83, 84, 85, 86] (fun mz g w => ∃ (k : Nat), mz = n - k ∧ g 5 = .int .i64 (k : Int) ∧ St [] w0 [.blk g0_1 35 (opV h L2 n c2), .blk g0_0 35 (opV h L n c), .vw L (flat mmV l), .vw L2 (flat mmV l)] w ∧ (k ≤ n)) ?_ ?_
           · exact ⟨_, 0, rfl, (by first | rfl | go_num | exact congrArg (Value.int _) (by first | omega | (simp; done) | (simp; omega))), hS, (by omega)⟩
           · clear hS; intro mz g w hI
             obtain ⟨k, rfl, hs5, hS, hk⟩ := hI
             refine fr_know (d := 5) hs5 ?_; clear hs5
             refine wp_seq_k ?_; intro K6 hK6
             refine wp_seq_k ?_; intro K7 hK7
             refine wlit ?_
             refine wl_v (x_move (tmI rfl rfl)) ?_
             refine wl_v (x_fa 10 Try.underlying35 rfl rfl ts_33 (tmP rfl rfl)) ?_
             first
              | refine wl_v (x_load Try.underlying33 rfl (tmP rfl rfl) (cellB hS.ok 1 rfl rfl)) ?_
              | refine wl_v (x_load Try.underlying33 rfl (tmP rfl rfl) (cellB hS.ok 1 rfl (getm (by omega)))) ?_
             refine wl_v (x_len Try.underlying33 (tmS rfl rfl)) ?_
             refine wl_v (x_lss (tmI rfl rfl) (tmI rfl rfl)) ?_
             refine wl_nil ?_
             refine then_n (hK7 _ _ ?_); clear hK7 K7
             refine cnd (tm rfl) (fun hc1 => ?_) (fun hc1 => ?_)
             · try (exfalso; first | with_reducible exact absurd hc1 Bool.false_ne_true | with_reducible exact absurd hc1.symm Bool.false_ne_true | (simp only [nrm] at hc1; omega) | (simp at hc1; done))
               all_goals
                try simp only [nrm] at hc1
                refine wp_skip ?_
                refine then_n (hK6 _ _ ?_); clear hK6 K6
                refine wp_seq_k ?_; intro K8 hK8
                refine wp_block ?_
                refine wp_seq_k ?_; intro K9 hK9
                obtain ⟨b4, o4, rfl⟩ := view_some (viewV hS.ok 2 rfl) (by rw [hfl]; omega)
                obtain ⟨b5, o5, rfl⟩ := view_some (viewV hS.ok 3 rfl) (by rw [hfl]; omega)
                refine rg_startk 0 hS mixed_ ?_
                clear hS; intro w hS
                refine rg_take 0 rfl rfl (by kernel_rfl) (by kernel_rfl) (by kernel_rfl) (want_0) (fun w hok => x_fa 10 Try.underlying35 rfl rfl ts_33 (tmP rfl rfl)) ?_
                first
                 | refine rg_take 1 rfl rfl (by kernel_rfl) (by kernel_rfl) (by kernel_rfl) (want_0) (fun w hok => x_load Try.underlying33 rfl (tmP rfl rfl) (cellB hok 1 rfl rfl)) ?_
                 | refine rg_take 1 rfl rfl (by kernel_rfl) (by kernel_rfl) (by kernel_rfl) (want_0) (fun w hok => x_load Try.underlying33 rfl (tmP rfl rfl) (cellB hok 1 rfl (getm (by omega)))) ?_
                refine rg_take 2 rfl rfl (by kernel_rfl) (by kernel_rfl) (by kernel_rfl) (want_0) (fun w hok => x_move (tmI rfl rfl)) ?_
                refine rg_take 3 rfl rfl (by kernel_rfl) (by kernel_rfl) (by kernel_rfl) (want_0) (fun w hok => x_ixs Try.underlying33 ts_64 (tmS rfl rfl) (tmI rfl rfl) (by omega)) ?_
                first
                 | refine rg_take 4 rfl rfl (by kernel_rfl) (by kernel_rfl) (by kernel_rfl) (want_0) (fun w hok => x_loadA Try.underlying64 rfl (by exact ts_64) (tmP rfl rfl) (rangeVs hok 2 rfl (fun _ => rfl) (by omega))) ?_
                 | refine rg_take 4 rfl rfl (by kernel_rfl) (by kernel_rfl) (by kernel_rfl) (want_0) (fun w hok => x_loadA Try.underlying64 rfl (by exact ts_64) (tmP rfl rfl) (rangeVs hok 3 rfl (fun _ => rfl) (by omega))) ?_
                refine rg_take 5 rfl rfl (by kernel_rfl) (by kernel_rfl) (by kernel_rfl) (want_0) (fun w hok => x_fa 10 Try.underlying35 rfl rfl ts_33 (tmP rfl rfl)) ?_
                first
                 | refine rg_take 6 rfl rfl (by kernel_rfl) (by kernel_rfl) (by kernel_rfl) (want_0) (fun w hok => x_load Try.underlying33 rfl (tmP rfl rfl) (cellB hok 0 rfl rfl)) ?_
                 | refine rg_take 6 rfl rfl (by kernel_rfl) (by kernel_rfl) (by kernel_rfl) (want_0) (fun w hok => x_load Try.underlying33 rfl (tmP rfl rfl) (cellB hok 0 rfl (getm (by omega)))) ?_
                refine rg_take 7 rfl rfl (by kernel_rfl) (by kernel_rfl) (by kernel_rfl) (want_0) (fun w hok => x_move (tmI rfl rfl)) ?_
                refine rg_take 8 rfl rfl (by kernel_rfl) (by kernel_rfl) (by kernel_rfl) (want_0) (fun w hok => x_ixs Try.underlying33 ts_64 (tmS rfl rfl) (tmI rfl rfl) (by omega)) ?_
                first
                 | refine rg_take 9 rfl rfl (by kernel_rfl) (by kernel_rfl) (by kernel_rfl) (want_0) (fun w hok => x_loadA Try.underlying64 rfl (by exact ts_64) (tmP rfl rfl) (rangeVs hok 2 rfl (fun _ => rfl) (by omega))) ?_
                 | refine rg_take 9 rfl rfl (by kernel_rfl) (by kernel_rfl) (by kernel_rfl) (want_0) (fun w hok => x_loadA Try.underlying64 rfl (by exact ts_64) (tmP rfl rfl) (rangeVs hok 3 rfl (fun _ => rfl) (by omega))) ?_
                refine rg_take 10 rfl rfl (by kernel_rfl) (by kernel_rfl) (by kernel_rfl) (want_0) (fun w hok => x_Aneq (by kernel_rfl) (tmA rfl rfl) (tmA rfl rfl) (eqv_A Try.underlying64 (by kernel_rfl) (fe_cons rfl (pt_1 Try.underlying3 rfl rfl) (pt_1 Try.underlying3 rfl rfl) (eqv_i Try.underlying3) <| fe_cons rfl (pt_1 Try.underlying3 rfl rfl) (pt_1 Try.underlying3 rfl rfl) (eqv_i Try.underlying3) <| fe_nil))) ?_
                refine rg_done (oks_drop hS 0 rfl) (by kernel_rfl) ?_
                refine then_n (hK9 _ _ ?_); clear hK9 K9
                refine cnd (tm rfl) (fun hc2 => ?_) (fun hc2 => ?_)
                · exfalso
                  simp at hc2
                try (exfalso; first | with_reducible exact absurd hc2 Bool.false_ne_true | with_reducible exact absurd hc2.symm Bool.false_ne_true | (simp only [nrm] at hc2; omega) | (simp at hc2; done))
                all_goals
                 try simp only [nrm] at hc2
                 refine wp_skip ?_
                 refine inb_n ?_
                 refine then_n (hK8 _ _ ?_); clear hK8 K8
                 refine wlit ?_
                 refine wl_v (x_move (tmI rfl rfl)) ?_
                 first
                  | refine wl_v (x_addN (tmI rfl rfl) (ev_cN 1) (fit_i64 (by omega))) ?_
                  | refine wl_v (x_addI (tmI rfl rfl) (ev_cN 1) (IntWalk.i64_in _ (by omega))) ?_
                  | refine wl_v (x_add (tmI rfl rfl) (ev_cN 1)) ?_
                 refine wl_v (x_assign (tmI rfl rfl)) ?_
                 refine wl_nil ?_
                 exact then_n ⟨_, _, rfl, (by show _ < _; omega), (by repeat (first | exact agree_self | exact agree_refl | refine agree_upd rfl ?_ | refine agree_mix rfl ?_)), k + 1, rfl, (by first | rfl | go_num | exact congrArg (Value.int _) (by first | omega | (simp; done) | (simp; omega))), hS, (by omega)⟩
             try (exfalso; first | with_reducible exact absurd hc1 Bool.false_ne_true | with_reducible exact absurd hc1.symm Bool.false_ne_true | (simp only [nrm] at hc1; omega) | (simp at hc1; done))
             all_goals
              try simp only [nrm] at hc1
              refine wp_exit ?_
              refine then_x ?_; clear hK6 K6
              refine then_x ?_
              refine inb_x ?_
              refine then_n (hK4 _ _ ?_); clear hK4 K4
              refine wp_seq_k ?_; intro K10 hK10
              refine wlit ?_
              refine wl_v (x_assign ev_c) ?_
              refine wl_nil ?_
              refine then_n (hK10 _ _ ?_); clear hK10 K10
              refine wp_ret ?_
              refine ret1 rfl (.tmp rfl (show _ = Value.bool _ from rfl)) ?_
              exact ⟨rfl, hS.kp⟩
set_option maxRecDepth 100000 in
set_option maxHeartbeats 8000000 in
theorem clight_c (gl : Nat) (h : Hp) (L : Option Addr) (n c : Nat) (w0 : World) (hv : View w0 w0.heap.size (some ⟨gl, 0, none⟩) (opV h L n c)) (hn : n ≤ 9223372036854775807) :
    Calls Try.prog 4 #[.slice (some ⟨gl, 0, none⟩) 1 1] w0 fun e w' => e = .returned (.bool (decide (n ≤ 100))) ∧ Kp [] w0 w' := by
  have hS := (St.sv w0).vcons rfl hv
  refine ent (n := 24) Try.func4 rfl rfl ?_
  refine wp_seq_k ?_; intro K1 hK1
  refine wlit ?_
  refine wl_v (x_assign ev_c) ?_
  refine wl_nil ?_
  refine then_n (hK1 _ _ ?_); clear hK1 K1
  refine wp_seq_k ?_; intro K2 hK2
  refine wp_seq_k ?_; intro K3 hK3
  refine wlit ?_
  refine wl_v (x_assign (ev_cN 0)) ?_
  refine wl_nil ?_
  refine then_n (hK3 _ _ ?_); clear hK3 K3
  refine wp_block ?_
  refine lp [2, 3, 4, 5, 6, 7, 8, 9, 10, 11, 12, 13, 14, 15, 16, 17, 18, 19, 20] (fun mz g w => ∃ (k : Nat), mz = 1 - k ∧ g 3 = .int .i64 (k : Int) ∧ St [] w0 [.vw (some ⟨gl, 0, none⟩) (opV h L n c)] w ∧ (k ≤ 1) ∧ (0 < k → n ≤ 100)) ?_ ?_
  · exact ⟨_, 0, rfl, (by first | rfl | go_num | exact congrArg (Value.int _) (by first | omega | (simp; done) | (simp; omega))), hS, (by omega), (by omega)⟩
  · clear hS; intro mz g w hI
    obtain ⟨k, rfl, hs3, hS, hk, hsm⟩ := hI
    refine fr_know (d := 3) hs3 ?_; clear hs3
    refine wp_seq_k ?_; intro K4 hK4
    refine wp_seq_k ?_; intro K5 hK5
    refine wlit ?_
    refine wl_v (x_move (tmI rfl rfl)) ?_
    refine wl_v (x_move (tmS rfl rfl)) ?_
    refine wl_v (x_len Try.underlying31 (tmS rfl rfl)) ?_
    refine wl_v (x_lss (tmI rfl rfl) (tmI rfl rfl)) ?_
    refine wl_v (x_move (tmB rfl rfl)) ?_
    refine gs_wl (tm (t := 8) rfl) (fun hg2_4 => ?_) (fun hg2_4 => ?_)
    · have hg2_4' := hg2_4; (try simp only [nrm] at hg2_4'); try (exfalso; first | with_reducible exact absurd hg2_4 Bool.false_ne_true | with_reducible exact absurd hg2_4.symm Bool.false_ne_true | omega | (simp at hg2_4; done))
      all_goals
       refine wl_gv (want_y rfl rfl rfl rfl (by rw [hg2_4]; rfl)) (x_move (tmI rfl rfl)) ?_
       refine wl_gv (want_y rfl rfl rfl rfl (by rw [hg2_4]; rfl)) (x_lss (tmI rfl rfl) (ev_cN 40)) ?_
       refine wl_v (x_pickT (tmB rfl rfl) hg2_4 (tmB rfl rfl)) ?_
       refine wl_nil ?_
       refine then_n (hK5 _ _ ?_); clear hK5 K5
       refine cnd (tm rfl) (fun hc0 => ?_) (fun hc0 => ?_)
       · try (exfalso; first | with_reducible exact absurd hc0 Bool.false_ne_true | with_reducible exact absurd hc0.symm Bool.false_ne_true | (simp only [nrm] at hc0; omega) | (simp at hc0; done))
         all_goals
          try simp only [nrm] at hc0
          refine wp_skip ?_
          refine then_n (hK4 _ _ ?_); clear hK4 K4
          refine wp_seq_k ?_; intro K6 hK6
          refine wp_block ?_
          refine wp_seq_k ?_; intro K7 hK7
          obtain rfl : k = 0 := by omega
          refine wlit ?_
          refine wl_v (x_move (tmS rfl rfl)) ?_
          refine wl_v (x_move (tmI rfl rfl)) ?_
          refine wl_v (x_ixs Try.underlying31 ts_28 (tmS rfl rfl) (tmI rfl rfl) (by omega)) ?_
          refine wl_v (x_fa 10 Try.underlying28 rfl rfl ts_26 (tmP rfl rfl)) ?_
          refine wl_v (x_load (v := .slice L n c) Try.underlying26 rfl (tmP rfl rfl) (cellV hS.ok 0 rfl rfl)) ?_
          refine wl_v (x_len Try.underlying26 (tmS rfl rfl)) ?_
          refine wl_v (x_gtr (tmI rfl rfl) (ev_cN 100)) ?_
          refine wl_nil ?_
          refine then_n (hK7 _ _ ?_); clear hK7 K7
          refine cnd (tm rfl) (fun hc1 => ?_) (fun hc1 => ?_)
          · try (exfalso; first | with_reducible exact absurd hc1 Bool.false_ne_true | with_reducible exact absurd hc1.symm Bool.false_ne_true | (simp only [nrm] at hc1; omega) | (simp at hc1; done))
            all_goals
             try simp only [nrm] at hc1
             refine wp_seq_k ?_; intro K8 hK8
             refine wlit ?_
             refine wl_v (x_assign ev_c) ?_
             refine wl_nil ?_
             refine then_n (hK8 _ _ ?_); clear hK8 K8
             refine wp_ret ?_
             refine inb_r ?_
             refine then_r ?_
             refine then_r ?_
             refine inb_r ?_
             refine then_r ?_
             refine ret1 rfl (.tmp rfl (show _ = Value.bool _ from rfl)) ?_
             first
               | exact ⟨ret_bool (decide_eq_false (by omega)).symm, hS.kp⟩
               | exact ⟨ret_bool (by rw [decide_eq_true (by omega : n ≤ 100)]; rfl), hS.kp⟩
          try (exfalso; first | with_reducible exact absurd hc1 Bool.false_ne_true | with_reducible exact absurd hc1.symm Bool.false_ne_true | (simp only [nrm] at hc1; omega) | (simp at hc1; done))
          all_goals
           try simp only [nrm] at hc1
           refine wp_skip ?_
           refine inb_n ?_
           refine then_n (hK6 _ _ ?_); clear hK6 K6
           refine wlit ?_
           refine wl_v (x_move (tmI rfl rfl)) ?_
           first
            | refine wl_v (x_addN (tmI rfl rfl) (ev_cN 1) (fit_i64 (by omega))) ?_
            | refine wl_v (x_addI (tmI rfl rfl) (ev_cN 1) (IntWalk.i64_in _ (by omega))) ?_
            | refine wl_v (x_add (tmI rfl rfl) (ev_cN 1)) ?_
           refine wl_v (x_assign (tmI rfl rfl)) ?_
           refine wl_nil ?_
           exact then_n ⟨_, _, rfl, (by show _ < _; omega), (by repeat (first | exact agree_self | exact agree_refl | refine agree_upd rfl ?_ | refine agree_mix rfl ?_)), 0 + 1, rfl, (by first | rfl | go_num | exact congrArg (Value.int _) (by first | omega | (simp; done) | (simp; omega))), hS, (by omega), (by omega)⟩
       try (exfalso; first | with_reducible exact absurd hc0 Bool.false_ne_true | with_reducible exact absurd hc0.symm Bool.false_ne_true | (simp only [nrm] at hc0; omega) | (simp at hc0; done))
       all_goals
        try simp only [nrm] at hc0
        refine wp_exit ?_
        refine then_x ?_; clear hK4 K4
        refine then_x ?_
        refine inb_x ?_
        refine then_n (hK2 _ _ ?_); clear hK2 K2
        refine wp_seq_k ?_; intro K9 hK9
        refine wlit ?_
        refine wl_v (x_move (tmS rfl rfl)) ?_
        refine wl_v (x_len Try.underlying31 (tmS rfl rfl)) ?_
        refine wl_v (x_leq (tmI rfl rfl) (ev_cN 40)) ?_
        refine wl_v (x_assign (tmB rfl rfl)) ?_
        refine wl_nil ?_
        refine then_n (hK9 _ _ ?_); clear hK9 K9
        refine wp_ret ?_
        refine ret1 rfl (.tmp rfl (show _ = Value.bool _ from rfl)) ?_
        first
          | exact ⟨ret_bool (decide_eq_false (by omega)).symm, hS.kp⟩
          | exact ⟨ret_bool (by rw [decide_eq_true (by omega : n ≤ 100)]; rfl), hS.kp⟩
    have hg2_4' := hg2_4; (try simp only [nrm] at hg2_4'); try (exfalso; first | with_reducible exact absurd hg2_4 Bool.false_ne_true | with_reducible exact absurd hg2_4.symm Bool.false_ne_true | omega | (simp at hg2_4; done))
    all_goals
     refine wl_s rfl (want_n rfl rfl rfl rfl (by rw [hg2_4]; rfl)) ?_
     refine wl_s rfl (want_n rfl rfl rfl rfl (by rw [hg2_4]; rfl)) ?_
     refine wl_v (x_pickF (tmB rfl rfl) hg2_4 ev_c) ?_
     refine wl_nil ?_
     refine then_n (hK5 _ _ ?_); clear hK5 K5
     refine cnd_f (tmB rfl rfl) rfl ?_
     refine wp_exit ?_
     refine then_x ?_; clear hK4 K4
     refine then_x ?_
     refine inb_x ?_
     refine then_n (hK2 _ _ ?_); clear hK2 K2
     refine wp_seq_k ?_; intro K10 hK10
     refine wlit ?_
     refine wl_v (x_move (tmS rfl rfl)) ?_
     refine wl_v (x_len Try.underlying31 (tmS rfl rfl)) ?_
     refine wl_v (x_leq (tmI rfl rfl) (ev_cN 40)) ?_
     refine wl_v (x_assign (tmB rfl rfl)) ?_
     refine wl_nil ?_
     refine then_n (hK10 _ _ ?_); clear hK10 K10
     refine wp_ret ?_
     refine ret1 rfl (.tmp rfl (show _ = Value.bool _ from rfl)) ?_
     first
       | exact ⟨ret_bool (decide_eq_false (by omega)).symm, hS.kp⟩
       | exact ⟨ret_bool (by rw [decide_eq_true (by omega : n ≤ 100)]; rfl), hS.kp⟩
end Go.Proofs.Ytoaodcbfehfdoaa
