
/- frag.cut, by contract. Conditions: none but bounds. -/
import Derived.Test.YtpibinkekfkafaaFrA
namespace Go.Proofs.Ytpibinkekfkafaa
open Go.ChangeShapes Go.WideShapes Go.ChangeAt Go.RowKit
set_option maxRecDepth 100000 in
set_option maxHeartbeats 4000000 in
theorem cut_c (tos : Nat) (len : Int) (id : Nat) (stay more : Bool) (off ttl pr sum : Nat) (s d : Ad) (O : Option Addr) (co : Nat) (o : List Nat) (L : Option Addr) (cl : Nat) (x : List Nat) (sp z : Nat) (hz : z = 8 * sp) (B : Nat → List Nat) (E : Nat → Nat) (w0 : World)
    (hov : View w0 w0.heap.size O (o.map u8v)) (hv : View w0 w0.heap.size L (x.map u8v)) (hx4 : x.length ≤ 100000) (hcl : x.length ≤ cl) (ho4 : off ≤ 100000) (hsp : 0 < sp) (hsp4 : sp ≤ 100000) (hP : CutP 13 tos len id stay more off ttl pr sum s d o x sp B E) :
    Calls Try.prog 17 #[.agg (hdV tos len id stay more (off : Int) ttl pr sum s d O o.length co).toArray, .slice L x.length cl, .int .i64 ((z : Nat) : Int)] w0 fun e w' => ∃ G n c' rows er, rows.length = n ∧ e = .returned (.tuple #[.slice G n c', .int .i64 ((er : Nat) : Int)]) ∧ CutR B E x.length (8 * sp) rows er ∧ NewV w0 w' G (rows.map rowV) ∧ (∀ r ∈ rows, NewV w0 w' r.1 (r.2.1.map u8v)) ∧ Kp [] w0 w' := by
  subst hz
  have hS := ((St.sv w0).vcons rfl hv).vcons rfl hov
  refine ent (n := 60) Try.func17 rfl rfl ?_
  refine wp_seq_k ?_; intro K1 hK1
  refine wlit ?_
  refine wl_e rfl ?_; intro K hK
  refine ow_box hS (tmA rfl rfl) rfl ?_
  clear hS; intro g0_0 w hg0_0 hS
  refine hK _ _ ?_; clear hK K
  refine wl_v (x_assign ev_c) ?_
  refine wl_v (x_assign (ev_cN 0)) ?_
  refine wl_nil ?_
  refine then_n (hK1 _ _ ?_); clear hK1 K1
  refine wp_seq_k ?_; intro K2 hK2
  refine wlit ?_
  refine wl_v (x_assign ev_c) ?_
  refine wl_nil ?_
  refine then_n (hK2 _ _ ?_); clear hK2 K2
  refine wp_seq_k ?_; intro K3 hK3
  refine wp_seq_k ?_; intro K4 hK4
  refine wlit ?_
  refine wl_v (x_assign (ev_cN 0)) ?_
  refine wl_nil ?_
  refine then_n (hK4 _ _ ?_); clear hK4 K4
  refine wp_block ?_
  have hS := hS.nilrow 22 1
  refine lp [6, 7, 8, 9, 10, 11, 12, 13, 14, 15, 16, 17, 18, 19, 20, 21, 22, 23, 24, 25, 26, 27, 28, 29, 30, 31, 32, 33, 34, 35, 36, 37, 38, 39, 40, 41, 42, 43, 44, 45, 46, 47, 48, 49, 50, 51, 52, 53, 54, 55, 56, 57, 58] (fun mz g w => ∃ (k p : Nat), ∃ (G : Option Addr), ∃ (n c' : Nat), ∃ (rows : List Row3), mz = x.length + 8 * sp - p ∧ g 8 = .slice G n c' ∧ g 9 = .int .i64 (p : Int) ∧ St [] w0 [.row (.slice G n c') 22 1 n (rows.map rowV), .blk g0_0 47 (hdV tos len id stay more (off : Int) ttl pr sum s d O o.length co), .vw O (o.map u8v), .vw L (x.map u8v)] w ∧ (p = k * (8 * sp)) ∧ (p < x.length + 8 * sp) ∧ (k ≤ p) ∧ (n = k) ∧ (rows.length = n) ∧ (rows.map (·.2.1) = (List.range k).map (fun j => B (j * (8 * sp)))) ∧ (∀ j, j < k → j * (8 * sp) < x.length ∧ E (j * (8 * sp)) = 0) ∧ (Rws w w0.heap.size (blks [.row (.slice G n c') 22 1 n (rows.map rowV), .blk g0_0 47 (hdV tos len id stay more (off : Int) ttl pr sum s d O o.length co)]) rows)) ?_ ?_
  · exact ⟨_, 0, 0, none, 0, 0, [], rfl, (by first | rfl | go_num | exact congrArg (Value.int _) (by first | omega | (simp; done) | (simp; omega))), (by first | rfl | go_num | exact congrArg (Value.int _) (by first | omega | (simp; done) | (simp; omega))), hS, (by first | exact (Nat.zero_mul _).symm | exact hp1), (by omega), (by omega), (by first | rfl | omega), (by first | rfl | (rw [List.length_append, hn]; rfl) | exact hn'), (by first | rfl | exact hR2 A2 c2), (by first | exact hN2 hE0 | (intro j hj; omega)), (by first | exact Rws.nil | (rw [hmap]; exact (haw.step (hS.pick [(no_label_row), 0] rfl rfl) rfl).snoc c2 (hS.pick [(no_label_vp), (no_label_row), 0] rfl rfl) rfl hlo))⟩
  · clear hS; intro mz g w hI
    obtain ⟨k, p, G, n, c', rows, rfl, hs8, hs9, hS, hp, hpx, hkp, hnk, hn, hR, hN, haw⟩ := hI
    refine fr_know (d := 8) hs8 ?_; clear hs8
    refine fr_know (d := 9) hs9 ?_; clear hs9
    refine wp_seq_k ?_; intro K5 hK5
    refine wp_seq_k ?_; intro K6 hK6
    refine wlit ?_
    refine wl_v (x_move (tmI rfl rfl)) ?_
    refine wl_v (x_move (tmS rfl rfl)) ?_
    refine wl_v (x_len Try.underlying22 (tmS rfl rfl)) ?_
    refine wl_v (x_lss (tmI rfl rfl) (tmI rfl rfl)) ?_
    refine wl_nil ?_
    refine then_n (hK6 _ _ ?_); clear hK6 K6
    refine cnd (tm rfl) (fun hc0 => ?_) (fun hc0 => ?_)
    · try (exfalso; first | with_reducible exact absurd hc0 Bool.false_ne_true | with_reducible exact absurd hc0.symm Bool.false_ne_true | (simp only [nrm] at hc0; omega) | (simp at hc0; done))
      all_goals
       try simp only [nrm] at hc0
       have hlt : p < x.length := by omega
       obtain ⟨m, hm⟩ : ∃ m, m = min (p + 8 * sp) x.length - p := ⟨_, rfl⟩
       have hpm : min (p + 8 * sp) x.length = p + m := by omega
       have hq : ((x.drop p).take m).length = p + m - p := by rw [List.length_take, List.length_drop]; omega
       have hcall : ∀ (b : Bool) (z : Int) (w : World) (c2 : Nat), b = (more || decide (p + m < x.length)) → z = ((off + p / 8 : Nat) : Int) → View w w.heap.size O (o.map u8v) → View w w.heap.size (cutA L p cl 1) (((x.drop p).take m).map u8v) →
           Calls Try.prog 13 #[.agg (hdV tos len id stay b z ttl pr sum s d O o.length co).toArray, .slice (cutA L p cl 1) (p + m - p) c2] w fun e w' => ∃ A n c', n = (B p).length ∧ e = .returned (.tuple #[.slice A n c', .int .i64 (E p : Int)]) ∧ New w w' (.row (.slice A n c') 5 1 n ((B p).map u8v)) ∧ Kp [] w w' := fun b z w c2 hb hz h1 h2 => by
         have h3 := hP p m b z hlt hm hb hz w O co (cutA L p cl 1) c2 h1 h2
         rw [hq] at h3
         exact h3
       have hN2 : E p = 0 → ∀ j, j < k + 1 → j * (8 * sp) < x.length ∧ E (j * (8 * sp)) = 0 := fun h0 j hj => by
         by_cases h : j < k
         · exact hN j h
         · obtain rfl : j = k := by omega
           rw [← hp]; exact ⟨hlt, h0⟩
       have hR2 : ∀ (A2 : Option Addr) (c2 : Nat), (rows ++ [(A2, B p, c2)]).map (·.2.1) = (List.range (k + 1)).map (fun j => B (j * (8 * sp))) := fun A2 c2 => by
         rw [List.map_append, hR, List.range_succ, List.map_append]
         show _ ++ [B p] = _ ++ [B (k * (8 * sp))]
         rw [← hp]
       have hp1 : p + 8 * sp = (k + 1) * (8 * sp) := by rw [Nat.add_mul k 1 (8 * sp), Nat.one_mul, ← hp]
       have hS0 := hS
       replace hS := hS0.enter [0, 1] [2, 3] rfl rfl
       try replace hS := St.nm (M' := [.row _ _ _ _ _, .blk _ _ [_, _, _, _, _, _, _, _, _, _, _, _, _, _, _, _], .vw _ _, .vw _ _]) hS rfl
       refine wp_skip ?_
       refine then_n (hK5 _ _ ?_); clear hK5 K5
       refine wp_seq_k ?_; intro K7 hK7
       refine wp_block ?_
       refine wp_seq_k ?_; intro K8 hK8
       refine wlit ?_
       refine wl_v (x_move (tmI rfl rfl)) ?_
       refine wl_v (x_move (tmI rfl rfl)) ?_
       first
        | refine wl_v (x_addN (tmI rfl rfl) (tmI rfl rfl) (fit_i64 (by omega))) ?_
        | refine wl_v (x_addI (tmI rfl rfl) (tmI rfl rfl) (IntWalk.i64_in _ (by omega))) ?_
        | refine wl_v (x_add (tmI rfl rfl) (tmI rfl rfl)) ?_
       refine wl_v (x_move (tmS rfl rfl)) ?_
       refine wl_v (x_len Try.underlying22 (tmS rfl rfl)) ?_
       first
        | refine wl_v (x_min (tmI rfl rfl) (tmI rfl rfl)) ?_
        | refine wl_v (x_minI (tmI rfl rfl) (tmI rfl rfl)) ?_
       refine wl_v (x_assign (tmI rfl (congrArg (fun q : Nat => Value.int .i64 (q : Int)) hpm))) ?_
       refine wl_nil ?_
       refine then_n (hK8 _ _ ?_); clear hK8 K8
       refine wp_seq_k ?_; intro K9 hK9
       refine wlit ?_
       refine wl_v (x_loadA (cs := [_, _, _, _, _, _, _, _, _, _, _, _, _, _, _, _]) Try.underlying47 rfl ts_47 (tmP rfl rfl) (rangeB hS.ok 1 rfl rfl)) ?_
       refine wl_e rfl ?_; intro K hK
       refine ow_alloc hS tz_47 rfl ?_
       clear hS; intro g6_1 w hg6_1 hS
       refine hK _ _ ?_; clear hK K
       refine wl_e rfl ?_; intro K hK
       refine ow_storeA hS 0 rfl ts_47 (tmP rfl rfl) (tmA rfl rfl) rfl rfl rfl ?_
       clear hS; intro w hS
       try replace hS := St.nm (M' := [.blk _ _ [_, _, _, _, _, _, _, _, _, _, _, _, _, _, _, _], .row _ _ _ _ _, .blk _ _ [_, _, _, _, _, _, _, _, _, _, _, _, _, _, _, _], .vw _ _, .vw _ _]) hS rfl
       refine hK _ _ ?_; clear hK K
       refine wl_nil ?_
       refine then_n (hK9 _ _ ?_); clear hK9 K9
       refine wp_seq_k ?_; intro K10 hK10
       refine wlit ?_
       refine wl_v (x_fa 5 Try.underlying47 rfl rfl ts_3 (tmP rfl rfl)) ?_
       first
        | refine wl_v (x_load Try.underlying3 rfl (tmP rfl rfl) (cellB hS.ok 0 rfl rfl)) ?_
        | refine wl_v (x_load Try.underlying3 rfl (tmP rfl rfl) (cellB hS.ok 0 rfl (getm (by omega)))) ?_
       refine wl_v (x_move (tmI rfl rfl)) ?_
       first
        | refine wl_v (x_quoN (tmI rfl rfl) (ev_cN 8) (by omega) (fit_i64 (by omega))) ?_
        | refine wl_v (x_quo (tmI rfl rfl) (ev_cN 8) (by omega)) ?_
       first
        | refine wl_v (x_addN (tmI rfl rfl) (tmI rfl rfl) (fit_i64 (by omega))) ?_
        | refine wl_v (x_addI (tmI rfl rfl) (tmI rfl rfl) (IntWalk.i64_in _ (by omega))) ?_
        | refine wl_v (x_add (tmI rfl rfl) (tmI rfl rfl)) ?_
       refine wl_v (x_fa 5 Try.underlying47 rfl rfl ts_3 (tmP rfl rfl)) ?_
       refine wl_e rfl ?_; intro K hK
       first
        | refine ow_store hS 0 rfl ts_3 (tmP rfl rfl) (tmI rfl rfl) rfl rfl ?_
        | refine ow_storeX hS 0 rfl ts_3 (tmP rfl rfl) (tmI rfl rfl) rfl (by simp; omega) ?_
       clear hS; intro w hS
       try replace hS := St.nm (M' := [.blk _ _ [_, _, _, _, _, _, _, _, _, _, _, _, _, _, _, _], .row _ _ _ _ _, .blk _ _ [_, _, _, _, _, _, _, _, _, _, _, _, _, _, _, _], .vw _ _, .vw _ _]) hS rfl
       refine hK _ _ ?_; clear hK K
       refine wl_nil ?_
       refine then_n (hK10 _ _ ?_); clear hK10 K10
       refine wp_seq_k ?_; intro K11 hK11
       refine wlit ?_
       refine wl_v (x_fa 4 Try.underlying47 rfl rfl ts_4 (tmP rfl rfl)) ?_
       first
        | refine wl_v (x_load Try.underlying4 rfl (tmP rfl rfl) (cellB hS.ok 2 rfl rfl)) ?_
        | refine wl_v (x_load Try.underlying4 rfl (tmP rfl rfl) (cellB hS.ok 2 rfl (getm (by omega)))) ?_
       refine wl_v (x_move (tmB rfl rfl)) ?_
       refine gs_wl (tm (t := 36) rfl) (fun hg8_2 => ?_) (fun hg8_2 => ?_)
       · have hg8_2' := hg8_2; (try simp only [nrm] at hg8_2'); try (exfalso; first | with_reducible exact absurd hg8_2 Bool.false_ne_true | with_reducible exact absurd hg8_2.symm Bool.false_ne_true | omega | (simp at hg8_2; done))
         all_goals
          refine wl_s rfl (want_n rfl rfl rfl rfl (by rw [hg8_2]; rfl)) ?_
          refine wl_s rfl (want_n rfl rfl rfl rfl (by rw [hg8_2]; rfl)) ?_
          refine wl_s rfl (want_n rfl rfl rfl rfl (by rw [hg8_2]; rfl)) ?_
          refine wl_s rfl (want_n rfl rfl rfl rfl (by rw [hg8_2]; rfl)) ?_
          refine wl_v (x_pickT (tmB rfl rfl) hg8_2 ev_c) ?_
          refine wl_v (x_fa 4 Try.underlying47 rfl rfl ts_4 (tmP rfl rfl)) ?_
          refine wl_e rfl ?_; intro K hK
          first
           | refine ow_store hS 0 rfl ts_4 (tmP rfl rfl) (tmB rfl rfl) rfl rfl ?_
           | refine ow_storeX hS 0 rfl ts_4 (tmP rfl rfl) (tmB rfl rfl) rfl (by simp; omega) ?_
          clear hS; intro w hS
          try replace hS := St.nm (M' := [.blk _ _ [_, _, _, _, _, _, _, _, _, _, _, _, _, _, _, _], .row _ _ _ _ _, .blk _ _ [_, _, _, _, _, _, _, _, _, _, _, _, _, _, _, _], .vw _ _, .vw _ _]) hS rfl
          refine hK _ _ ?_; clear hK K
          refine wl_nil ?_
          refine then_n (hK11 _ _ ?_); clear hK11 K11
          refine wp_seq_k ?_; intro K12 hK12
          replace hS := hS.cutb 4 p m rfl hcl
          refine rg_startk 0 hS mixed_ ?_
          clear hS; intro w hS
          refine rg_take 0 rfl rfl (by kernel_rfl) (by kernel_rfl) (by kernel_rfl) (want_0) (fun w hok => x_loadA (cs := [_, _, _, _, _, _, _, _, _, _, _, _, _, _, _, _]) Try.underlying47 rfl ts_47 (tmP rfl rfl) (rangeB hok 1 rfl rfl)) ?_
          refine rg_take 1 rfl rfl (by kernel_rfl) (by kernel_rfl) (by kernel_rfl) (want_0) (fun w hok => x_move (tmS rfl rfl)) ?_
          refine rg_take 2 rfl rfl (by kernel_rfl) (by kernel_rfl) (by kernel_rfl) (want_0) (fun w hok => x_move (tmI rfl rfl)) ?_
          refine rg_take 3 rfl rfl (by kernel_rfl) (by kernel_rfl) (by kernel_rfl) (want_0) (fun w hok => x_move (tmI rfl rfl)) ?_
          refine rg_take 4 rfl rfl (by kernel_rfl) (by kernel_rfl) (by kernel_rfl) (want_0) (fun w hok => x_sliceLH Try.underlying22 ts_5 (tmS rfl rfl) (tmI rfl rfl) (tmI rfl rfl) (by omega)) ?_
          refine rg_step 5 rfl (by kernel_rfl) (want_0) (oks_drop hS 0 rfl) ?_; intro K hK
          refine ow_call Try.func13 rfl rfl (evs_cons (tmA rfl rfl) <| evs_cons (tmS rfl rfl) <| evs_nil) (hcall _ _ _ _ (by first | (rw [hg8_2]; rfl) | (rw [hg8_2, Bool.false_or]; exact decide_eq_decide.2 (by omega))) rfl (viewV hS.ok 4 rfl) (viewV hS.ok 0 rfl)) ?_
          rintro e w ⟨A2, n2, c2, hn2, rfl, hn3, hk⟩
          refine ⟨_, rfl, ?_⟩
          subst hn2
          have hlo : ∀ b, (Ent.vw A2 ((B p).map u8v)).blk? = some b → w0.heap.size ≤ b := fun b hb => Nat.le_trans (Nat.le_trans hS0.kp.size hS.kp.size) ((New.view hn3).2 b hb)
          have hmap : (rows ++ [(A2, B p, c2)]).map rowV = rows.map rowV ++ [.slice A2 (B p).length c2] := by rw [List.map_append]; rfl
          replace hS := hS.addn hk (New.view hn3) -- +vp
          clear hk hn3
          refine hK _ _ ?_; clear hK K
          refine rg_take 6 rfl rfl (by kernel_rfl) (by kernel_rfl) (by kernel_rfl) (want_0) (fun w hok => x_move (tmT rfl rfl)) ?_
          refine rg_take 7 rfl rfl (by kernel_rfl) (by kernel_rfl) (by kernel_rfl) (want_0) (fun w hok => x_ext (tmT rfl rfl) rfl) ?_
          refine rg_take 8 rfl rfl (by kernel_rfl) (by kernel_rfl) (by kernel_rfl) (want_0) (fun w hok => x_ext (tmT rfl rfl) rfl) ?_
          refine rg_take 9 rfl rfl (by kernel_rfl) (by kernel_rfl) (by kernel_rfl) (want_0) (fun w hok => x_assign (tmS rfl rfl)) ?_
          refine rg_take 10 rfl rfl (by kernel_rfl) (by kernel_rfl) (by kernel_rfl) (want_0) (fun w hok => x_assign (tmI rfl rfl)) ?_
          refine rg_done (oks_drop hS 1 rfl) (by kernel_rfl) ?_
          refine then_n (hK12 _ _ ?_); clear hK12 K12
          refine wp_seq_k ?_; intro K13 hK13
          refine wp_seq_k ?_; intro K14 hK14
          refine wlit ?_
          refine wl_v (x_move (tmI rfl rfl)) ?_
          refine wl_v (x_neq (tmI rfl rfl) (ev_cN 0)) ?_
          refine wl_nil ?_
          refine then_n (hK14 _ _ ?_); clear hK14 K14
          refine cnd (tm rfl) (fun hc1 => ?_) (fun hc1 => ?_)
          · try (exfalso; first | with_reducible exact absurd hc1 Bool.false_ne_true | with_reducible exact absurd hc1.symm Bool.false_ne_true | (simp only [nrm] at hc1; omega) | (simp at hc1; done))
            all_goals
             try simp only [nrm] at hc1
             have hE0 : E p ≠ 0 := by first | omega | (simp at hc1; omega)
             refine wp_seq_k ?_; intro K15 hK15
             refine wlit ?_
             refine wl_v (x_move (tmI rfl rfl)) ?_
             refine wl_v (x_assign ev_c) ?_
             refine wl_v (x_assign (tmI rfl rfl)) ?_
             refine wl_nil ?_
             refine then_n (hK15 _ _ ?_); clear hK15 K15
             refine wp_ret ?_
             refine then_r ?_
             refine inb_r ?_
             refine then_r ?_
             refine then_r ?_
             refine inb_r ?_
             refine then_r ?_
             refine ret2 rfl (.tmp rfl (show _ = Value.slice _ _ _ from rfl)) (.tmp rfl (show _ = Value.int _ _ from rfl)) ?_
             first
               | exact ⟨none, 0, 0, [], E p, rfl, rfl, .inl ⟨hE0, rfl, k, by rw [← hp]; exact hlt, fun j hj => (hN j hj).2, by rw [← hp]⟩, NewV.nil_ _ _ _, (fun r hr => by cases hr), (hS0.leave [0, 1] [2, 3] rfl rfl rfl (hS.pick [3, 4] rfl rfl) rfl).kp⟩
               | exact ⟨G, n, c', rows, 0, hn, rfl, .inr ⟨rfl, k, hR, by rw [← hp]; omega, hN⟩, hS.newv 3 rfl, haw.newv, hS.kp⟩
          try (exfalso; first | with_reducible exact absurd hc1 Bool.false_ne_true | with_reducible exact absurd hc1.symm Bool.false_ne_true | (simp only [nrm] at hc1; omega) | (simp at hc1; done))
          all_goals
           try simp only [nrm] at hc1
           have hE0 : E p = 0 := by first | omega | (simp at hc1; omega)
           refine wp_skip ?_
           refine then_n (hK13 _ _ ?_); clear hK13 K13
           refine wlit ?_
           refine wl_v (x_move (tmS rfl rfl)) ?_
           refine wl_v (x_move (tmS rfl rfl)) ?_
           refine wl_e rfl ?_; intro K hK
           refine ow_build hS Try.underlying24 tz_22 (bc_take (tmS rfl rfl) <| bc_nil) rfl rfl (by kernel_rfl) ?_
           clear hS; intro g12_2 w hg12_2 hS
           refine hK _ _ ?_; clear hK K
           refine wl_e rfl ?_; intro K hK
           (refine ow_append hS 4 0 rfl rfl Try.underlying24 tz_22 rfl (tmS rfl rfl) (tmS rfl rfl) rfl ⟨by decide, by decide, rfl⟩ (by simp only [maxLen]; omega) (by omega) ?_; clear hS; intro g12_3 cg12_3 w hS)
           refine hK _ _ ?_; clear hK K
           refine wl_v (x_assign (tmS rfl rfl)) ?_
           refine wl_nil ?_
           refine inb_n ?_
           refine then_n (hK7 _ _ ?_); clear hK7 K7
           refine wlit ?_
           refine wl_v (x_move (tmI rfl rfl)) ?_
           refine wl_v (x_move (tmI rfl rfl)) ?_
           first
            | refine wl_v (x_addN (tmI rfl rfl) (tmI rfl rfl) (fit_i64 (by omega))) ?_
            | refine wl_v (x_addI (tmI rfl rfl) (tmI rfl rfl) (IntWalk.i64_in _ (by omega))) ?_
            | refine wl_v (x_add (tmI rfl rfl) (tmI rfl rfl)) ?_
           refine wl_v (x_assign (tmI rfl rfl)) ?_
           refine wl_nil ?_
           exact then_n ⟨_, _, rfl, (by show _ < _; omega), (by repeat (first | exact agree_self | exact agree_refl | refine agree_upd rfl ?_ | refine agree_mix rfl ?_)), k + 1, p + 8 * sp, _, _, _, rows ++ [(A2, B p, c2)], rfl, (by first | rfl | go_num | exact congrArg (Value.int _) (by first | omega | (simp; done) | (simp; omega))), (by first | rfl | go_num | exact congrArg (Value.int _) (by first | omega | (simp; done) | (simp; omega))), (by rw [hmap]; exact hS0.leave [0, 1] [2, 3] rfl rfl rfl (hS.pick [4, 5] rfl rfl) rfl), (by first | exact (Nat.zero_mul _).symm | exact hp1), (by omega), (by omega), (by first | rfl | omega), (by first | rfl | (rw [List.length_append, hn]; rfl) | exact hn'), (by first | rfl | exact hR2 A2 c2), (by first | exact hN2 hE0 | (intro j hj; omega)), (by first | exact Rws.nil | (rw [hmap]; exact (haw.step (hS.pick [4, 5] rfl rfl) rfl).snoc c2 (hS.pick [1, 4, 5] rfl rfl) rfl hlo))⟩
       have hg8_2' := hg8_2; (try simp only [nrm] at hg8_2'); try (exfalso; first | with_reducible exact absurd hg8_2 Bool.false_ne_true | with_reducible exact absurd hg8_2.symm Bool.false_ne_true | omega | (simp at hg8_2; done))
       all_goals
        refine wl_gv (want_y rfl rfl rfl rfl (by rw [hg8_2]; rfl)) (x_move (tmI rfl rfl)) ?_
        refine wl_gv (want_y rfl rfl rfl rfl (by rw [hg8_2]; rfl)) (x_move (tmS rfl rfl)) ?_
        refine wl_gv (want_y rfl rfl rfl rfl (by rw [hg8_2]; rfl)) (x_len Try.underlying22 (tmS rfl rfl)) ?_
        refine wl_gv (want_y rfl rfl rfl rfl (by rw [hg8_2]; rfl)) (x_lss (tmI rfl rfl) (tmI rfl rfl)) ?_
        refine wl_v (x_pickF (tmB rfl rfl) hg8_2 (tmB rfl rfl)) ?_
        refine wl_v (x_fa 4 Try.underlying47 rfl rfl ts_4 (tmP rfl rfl)) ?_
        refine wl_e rfl ?_; intro K hK
        first
         | refine ow_store hS 0 rfl ts_4 (tmP rfl rfl) (tmB rfl rfl) rfl rfl ?_
         | refine ow_storeX hS 0 rfl ts_4 (tmP rfl rfl) (tmB rfl rfl) rfl (by simp; omega) ?_
        clear hS; intro w hS
        try replace hS := St.nm (M' := [.blk _ _ [_, _, _, _, _, _, _, _, _, _, _, _, _, _, _, _], .row _ _ _ _ _, .blk _ _ [_, _, _, _, _, _, _, _, _, _, _, _, _, _, _, _], .vw _ _, .vw _ _]) hS rfl
        refine hK _ _ ?_; clear hK K
        refine wl_nil ?_
        refine then_n (hK11 _ _ ?_); clear hK11 K11
        refine wp_seq_k ?_; intro K16 hK16
        replace hS := hS.cutb 4 p m rfl hcl
        refine rg_startk 0 hS mixed_ ?_
        clear hS; intro w hS
        refine rg_take 0 rfl rfl (by kernel_rfl) (by kernel_rfl) (by kernel_rfl) (want_0) (fun w hok => x_loadA (cs := [_, _, _, _, _, _, _, _, _, _, _, _, _, _, _, _]) Try.underlying47 rfl ts_47 (tmP rfl rfl) (rangeB hok 1 rfl rfl)) ?_
        refine rg_take 1 rfl rfl (by kernel_rfl) (by kernel_rfl) (by kernel_rfl) (want_0) (fun w hok => x_move (tmS rfl rfl)) ?_
        refine rg_take 2 rfl rfl (by kernel_rfl) (by kernel_rfl) (by kernel_rfl) (want_0) (fun w hok => x_move (tmI rfl rfl)) ?_
        refine rg_take 3 rfl rfl (by kernel_rfl) (by kernel_rfl) (by kernel_rfl) (want_0) (fun w hok => x_move (tmI rfl rfl)) ?_
        refine rg_take 4 rfl rfl (by kernel_rfl) (by kernel_rfl) (by kernel_rfl) (want_0) (fun w hok => x_sliceLH Try.underlying22 ts_5 (tmS rfl rfl) (tmI rfl rfl) (tmI rfl rfl) (by omega)) ?_
        refine rg_step 5 rfl (by kernel_rfl) (want_0) (oks_drop hS 0 rfl) ?_; intro K hK
        refine ow_call Try.func13 rfl rfl (evs_cons (tmA rfl rfl) <| evs_cons (tmS rfl rfl) <| evs_nil) (hcall _ _ _ _ (by first | (rw [hg8_2]; rfl) | (rw [hg8_2, Bool.false_or]; exact decide_eq_decide.2 (by omega))) rfl (viewV hS.ok 4 rfl) (viewV hS.ok 0 rfl)) ?_
        rintro e w ⟨A2, n2, c2, hn2, rfl, hn3, hk⟩
        refine ⟨_, rfl, ?_⟩
        subst hn2
        have hlo : ∀ b, (Ent.vw A2 ((B p).map u8v)).blk? = some b → w0.heap.size ≤ b := fun b hb => Nat.le_trans (Nat.le_trans hS0.kp.size hS.kp.size) ((New.view hn3).2 b hb)
        have hmap : (rows ++ [(A2, B p, c2)]).map rowV = rows.map rowV ++ [.slice A2 (B p).length c2] := by rw [List.map_append]; rfl
        replace hS := hS.addn hk (New.view hn3) -- +vp
        clear hk hn3
        refine hK _ _ ?_; clear hK K
        refine rg_take 6 rfl rfl (by kernel_rfl) (by kernel_rfl) (by kernel_rfl) (want_0) (fun w hok => x_move (tmT rfl rfl)) ?_
        refine rg_take 7 rfl rfl (by kernel_rfl) (by kernel_rfl) (by kernel_rfl) (want_0) (fun w hok => x_ext (tmT rfl rfl) rfl) ?_
        refine rg_take 8 rfl rfl (by kernel_rfl) (by kernel_rfl) (by kernel_rfl) (want_0) (fun w hok => x_ext (tmT rfl rfl) rfl) ?_
        refine rg_take 9 rfl rfl (by kernel_rfl) (by kernel_rfl) (by kernel_rfl) (want_0) (fun w hok => x_assign (tmS rfl rfl)) ?_
        refine rg_take 10 rfl rfl (by kernel_rfl) (by kernel_rfl) (by kernel_rfl) (want_0) (fun w hok => x_assign (tmI rfl rfl)) ?_
        refine rg_done (oks_drop hS 1 rfl) (by kernel_rfl) ?_
        refine then_n (hK16 _ _ ?_); clear hK16 K16
        refine wp_seq_k ?_; intro K17 hK17
        refine wp_seq_k ?_; intro K18 hK18
        refine wlit ?_
        refine wl_v (x_move (tmI rfl rfl)) ?_
        refine wl_v (x_neq (tmI rfl rfl) (ev_cN 0)) ?_
        refine wl_nil ?_
        refine then_n (hK18 _ _ ?_); clear hK18 K18
        refine cnd (tm rfl) (fun hc1 => ?_) (fun hc1 => ?_)
        · try (exfalso; first | with_reducible exact absurd hc1 Bool.false_ne_true | with_reducible exact absurd hc1.symm Bool.false_ne_true | (simp only [nrm] at hc1; omega) | (simp at hc1; done))
          all_goals
           try simp only [nrm] at hc1
           have hE0 : E p ≠ 0 := by first | omega | (simp at hc1; omega)
           refine wp_seq_k ?_; intro K19 hK19
           refine wlit ?_
           refine wl_v (x_move (tmI rfl rfl)) ?_
           refine wl_v (x_assign ev_c) ?_
           refine wl_v (x_assign (tmI rfl rfl)) ?_
           refine wl_nil ?_
           refine then_n (hK19 _ _ ?_); clear hK19 K19
           refine wp_ret ?_
           refine then_r ?_
           refine inb_r ?_
           refine then_r ?_
           refine then_r ?_
           refine inb_r ?_
           refine then_r ?_
           refine ret2 rfl (.tmp rfl (show _ = Value.slice _ _ _ from rfl)) (.tmp rfl (show _ = Value.int _ _ from rfl)) ?_
           first
             | exact ⟨none, 0, 0, [], E p, rfl, rfl, .inl ⟨hE0, rfl, k, by rw [← hp]; exact hlt, fun j hj => (hN j hj).2, by rw [← hp]⟩, NewV.nil_ _ _ _, (fun r hr => by cases hr), (hS0.leave [0, 1] [2, 3] rfl rfl rfl (hS.pick [3, 4] rfl rfl) rfl).kp⟩
             | exact ⟨G, n, c', rows, 0, hn, rfl, .inr ⟨rfl, k, hR, by rw [← hp]; omega, hN⟩, hS.newv 3 rfl, haw.newv, hS.kp⟩
        try (exfalso; first | with_reducible exact absurd hc1 Bool.false_ne_true | with_reducible exact absurd hc1.symm Bool.false_ne_true | (simp only [nrm] at hc1; omega) | (simp at hc1; done))
        all_goals
         try simp only [nrm] at hc1
         have hE0 : E p = 0 := by first | omega | (simp at hc1; omega)
         refine wp_skip ?_
         refine then_n (hK17 _ _ ?_); clear hK17 K17
         refine wlit ?_
         refine wl_v (x_move (tmS rfl rfl)) ?_
         refine wl_v (x_move (tmS rfl rfl)) ?_
         refine wl_e rfl ?_; intro K hK
         refine ow_build hS Try.underlying24 tz_22 (bc_take (tmS rfl rfl) <| bc_nil) rfl rfl (by kernel_rfl) ?_
         clear hS; intro g12_2 w hg12_2 hS
         refine hK _ _ ?_; clear hK K
         refine wl_e rfl ?_; intro K hK
         (refine ow_append hS 4 0 rfl rfl Try.underlying24 tz_22 rfl (tmS rfl rfl) (tmS rfl rfl) rfl ⟨by decide, by decide, rfl⟩ (by simp only [maxLen]; omega) (by omega) ?_; clear hS; intro g12_3 cg12_3 w hS)
         refine hK _ _ ?_; clear hK K
         refine wl_v (x_assign (tmS rfl rfl)) ?_
         refine wl_nil ?_
         refine inb_n ?_
         refine then_n (hK7 _ _ ?_); clear hK7 K7
         refine wlit ?_
         refine wl_v (x_move (tmI rfl rfl)) ?_
         refine wl_v (x_move (tmI rfl rfl)) ?_
         first
          | refine wl_v (x_addN (tmI rfl rfl) (tmI rfl rfl) (fit_i64 (by omega))) ?_
          | refine wl_v (x_addI (tmI rfl rfl) (tmI rfl rfl) (IntWalk.i64_in _ (by omega))) ?_
          | refine wl_v (x_add (tmI rfl rfl) (tmI rfl rfl)) ?_
         refine wl_v (x_assign (tmI rfl rfl)) ?_
         refine wl_nil ?_
         exact then_n ⟨_, _, rfl, (by show _ < _; omega), (by repeat (first | exact agree_self | exact agree_refl | refine agree_upd rfl ?_ | refine agree_mix rfl ?_)), k + 1, p + 8 * sp, _, _, _, rows ++ [(A2, B p, c2)], rfl, (by first | rfl | go_num | exact congrArg (Value.int _) (by first | omega | (simp; done) | (simp; omega))), (by first | rfl | go_num | exact congrArg (Value.int _) (by first | omega | (simp; done) | (simp; omega))), (by rw [hmap]; exact hS0.leave [0, 1] [2, 3] rfl rfl rfl (hS.pick [4, 5] rfl rfl) rfl), (by first | exact (Nat.zero_mul _).symm | exact hp1), (by omega), (by omega), (by first | rfl | omega), (by first | rfl | (rw [List.length_append, hn]; rfl) | exact hn'), (by first | rfl | exact hR2 A2 c2), (by first | exact hN2 hE0 | (intro j hj; omega)), (by first | exact Rws.nil | (rw [hmap]; exact (haw.step (hS.pick [4, 5] rfl rfl) rfl).snoc c2 (hS.pick [1, 4, 5] rfl rfl) rfl hlo))⟩
    try (exfalso; first | with_reducible exact absurd hc0 Bool.false_ne_true | with_reducible exact absurd hc0.symm Bool.false_ne_true | (simp only [nrm] at hc0; omega) | (simp at hc0; done))
    all_goals
     try simp only [nrm] at hc0
     refine wp_exit ?_
     refine then_x ?_; clear hK5 K5
     refine then_x ?_
     refine inb_x ?_
     refine then_n (hK3 _ _ ?_); clear hK3 K3
     refine wp_seq_k ?_; intro K20 hK20
     refine wlit ?_
     refine wl_v (x_move (tmS rfl rfl)) ?_
     refine wl_v (x_assign (tmS rfl rfl)) ?_
     refine wl_v (x_assign (ev_cN 0)) ?_
     refine wl_nil ?_
     refine then_n (hK20 _ _ ?_); clear hK20 K20
     refine wp_ret ?_
     refine ret2 rfl (.tmp rfl (show _ = Value.slice _ _ _ from rfl)) (.tmp rfl (show _ = Value.int _ _ from rfl)) ?_
     first
       | exact ⟨none, 0, 0, [], E p, rfl, rfl, .inl ⟨hE0, rfl, k, by rw [← hp]; exact hlt, fun j hj => (hN j hj).2, by rw [← hp]⟩, NewV.nil_ _ _ _, (fun r hr => by cases hr), (hS0.leave [0, 1] [2, 3] rfl rfl rfl (hS.pick [0, 1] rfl rfl) rfl).kp⟩
       | exact ⟨G, n, c', rows, 0, hn, rfl, .inr ⟨rfl, k, hR, by rw [← hp]; omega, hN⟩, hS.newv 0 rfl, haw.newv, hS.kp⟩
end Go.Proofs.Ytpibinkekfkafaa
