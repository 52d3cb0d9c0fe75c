
/- mail's reference, by contract. Conditions: none but bounds. -/
import Derived.Test.YtijeegfmfpamkaaMailD
namespace Go.Proofs.Ytijeegfmfpamkaa
open Go.ChangeShapes Go.WideShapes Go.ChangeAt Go.RowKit
section
variable {F : List Nat} {w0 w w' : World} {M : List Ent}
theorem St.orr (h : St F w0 M w) (i : Nat) {e e' : Ent} (hM : M[i]? = some e) (hro : e.ro = false) (hk : Kp [] w w') (hn : New w w' e' ∨ e' = e) : St F w0 (M.set i e') w' := by
  rcases hn with hn | rfl
  · exact h.set_ hM hro (hk.mono (by simp)) hn.1 hn.2.1 fun g hg => .inr (hn.2.2 g hg)
  · have hs : M.set i e' = M := by
      refine List.ext_getElem? fun j => ?_
      rw [List.getElem?_set]
      split
      · next hij =>
        subst hij
        split
        · exact hM.symm
        · next hlt => rw [List.getElem?_eq_none (by omega)] at hM; cases hM
      · rfl
    rw [hs]
    exact h.kept hk
theorem blks_append (M N : List Ent) : blks (M ++ N) = blks M ++ blks N := List.filterMap_append
end
set_option maxRecDepth 100000 in
set_option maxHeartbeats 4000000 in
theorem rhas_c (most lost : Int) (R : Option Addr) (m cr : Nat) (i : Int) (w0 : World) :
    Calls Try.prog 12 #[.agg #[.int .i64 most, .slice R m cr, .int .i64 lost], .int .i64 i] w0 fun e w' => e = .returned (.bool (decide (0 ≤ i ∧ i < (m : Int)))) ∧ Kp [] w0 w' := by
  have hS := St.sv w0
  refine ent (n := 14) Try.func12 rfl rfl ?_
  refine wp_seq_k ?_; intro K1 hK1
  refine wlit ?_
  refine wl_e rfl ?_; intro K hK
  refine ow_box hS (tmA rfl rfl) rfl ?_
  clear hS; intro g0_0 w hg0_0 hS
  refine hK _ _ ?_; clear hK K
  refine wl_v (x_assign ev_c) ?_
  refine wl_nil ?_
  refine then_n (hK1 _ _ ?_); clear hK1 K1
  refine wp_seq_k ?_; intro K2 hK2
  refine wlit ?_
  refine wl_v (x_move (tmI rfl rfl)) ?_
  refine wl_v (x_geq (tmI rfl rfl) (ev_cN 0)) ?_
  refine wl_v (x_move (tmB rfl rfl)) ?_
  refine gs_wl (tm (t := 7) rfl) (fun hg1_2 => ?_) (fun hg1_2 => ?_)
  · have hg1_2' := hg1_2; (try simp only [nrm] at hg1_2'); try (exfalso; first | with_reducible exact absurd hg1_2 Bool.false_ne_true | with_reducible exact absurd hg1_2.symm Bool.false_ne_true | omega | (simp at hg1_2; done))
    all_goals
     refine wl_gv (want_y rfl rfl rfl rfl (by rw [hg1_2]; rfl)) (x_move (tmI rfl rfl)) ?_
     refine wl_gv (want_y rfl rfl rfl rfl (by rw [hg1_2]; rfl)) (x_fa 1 Try.underlying40 rfl rfl ts_22 (tmP rfl rfl)) ?_
     first
      | refine wl_gv (want_y rfl rfl rfl rfl (by rw [hg1_2]; rfl)) (x_load Try.underlying22 rfl (tmP rfl rfl) (cellB hS.ok 0 rfl rfl)) ?_
      | refine wl_gv (want_y rfl rfl rfl rfl (by rw [hg1_2]; rfl)) (x_load Try.underlying22 rfl (tmP rfl rfl) (cellB hS.ok 0 rfl (getm (by omega)))) ?_
     refine wl_gv (want_y rfl rfl rfl rfl (by rw [hg1_2]; rfl)) (x_len Try.underlying22 (tmS rfl rfl)) ?_
     refine wl_gv (want_y rfl rfl rfl rfl (by rw [hg1_2]; rfl)) (x_lss (tmI rfl rfl) (tmI rfl rfl)) ?_
     refine wl_v (x_pickT (tmB rfl rfl) hg1_2 (tmB rfl rfl)) ?_
     refine wl_v (x_assign (tmB rfl rfl)) ?_
     refine wl_nil ?_
     refine then_n (hK2 _ _ ?_); clear hK2 K2
     refine wp_ret ?_
     refine ret1 rfl (.tmp rfl (show _ = Value.bool _ from rfl)) ?_
     refine ⟨?_, hS.kp⟩
     refine congrArg (fun b => Ending.returned (.bool b)) ?_
     first
       | (rw [Bool.eq_iff_iff, decide_eq_true_iff, decide_eq_true_iff]; omega)
       | (symm; rw [decide_eq_false_iff_not]; omega)
  have hg1_2' := hg1_2; (try simp only [nrm] at hg1_2'); try (exfalso; first | with_reducible exact absurd hg1_2 Bool.false_ne_true | with_reducible exact absurd hg1_2.symm Bool.false_ne_true | omega | (simp at hg1_2; done))
  all_goals
   refine wl_s rfl (want_n rfl rfl rfl rfl (by rw [hg1_2]; rfl)) ?_
   refine wl_s rfl (want_n rfl rfl rfl rfl (by rw [hg1_2]; rfl)) ?_
   refine wl_s rfl (want_n rfl rfl rfl rfl (by rw [hg1_2]; rfl)) ?_
   refine wl_s rfl (want_n rfl rfl rfl rfl (by rw [hg1_2]; rfl)) ?_
   refine wl_s rfl (want_n rfl rfl rfl rfl (by rw [hg1_2]; rfl)) ?_
   refine wl_v (x_pickF (tmB rfl rfl) hg1_2 ev_c) ?_
   refine wl_v (x_assign (tmB rfl rfl)) ?_
   refine wl_nil ?_
   refine then_n (hK2 _ _ ?_); clear hK2 K2
   refine wp_ret ?_
   refine ret1 rfl (.tmp rfl (show _ = Value.bool _ from rfl)) ?_
   refine ⟨?_, hS.kp⟩
   refine congrArg (fun b => Ending.returned (.bool b)) ?_
   first
     | (rw [Bool.eq_iff_iff, decide_eq_true_iff, decide_eq_true_iff]; omega)
     | (symm; rw [decide_eq_false_iff_not]; omega)
set_option maxRecDepth 100000 in
set_option maxHeartbeats 4000000 in
theorem rcut_c (most lost : Int) (R : Option Addr) (m cr : Nat) (ls : List GLt) (k : Nat) (i : Int) (w0 : World) (hi : i = (k : Int)) (hv : View w0 w0.heap.size R (flat GLt.V ls)) (hm : ls.length = m) (hk : k < m) (hm4 : m ≤ 1000) (hcr : m ≤ cr) :
    Calls Try.prog 13 #[.agg #[.int .i64 most, .slice R m cr, .int .i64 lost], .int .i64 i] w0 fun e w' => ∃ R' cr', e = .returned (.agg #[.int .i64 most, .slice R' (m - 1) cr', .int .i64 lost]) ∧ m - 1 ≤ cr' ∧ New w0 w' (.row (.slice R' (m - 1) cr') 28 3 (m - 1) (flat GLt.V (cutL ls k))) ∧ Kp [] w0 w' := by
  subst hi
  have hS := (St.sv w0).vcons rfl hv
  have hfl := flat_length (enc := GLt.V) (l := ls) GLt.len
  refine ent (n := 19) Try.func13 rfl rfl ?_
  refine wp_seq_k ?_; intro K1 hK1
  refine wlit ?_
  refine wl_e rfl ?_; intro K hK
  refine ow_box hS (tmA rfl rfl) rfl ?_
  clear hS; intro g0_0 w hg0_0 hS
  refine hK _ _ ?_; clear hK K
  refine wl_e rfl ?_; intro K hK
  refine ow_alloc hS tz_40 rfl ?_
  clear hS; intro g0_1 w hg0_1 hS
  refine hK _ _ ?_; clear hK K
  refine wl_nil ?_
  refine then_n (hK1 _ _ ?_); clear hK1 K1
  refine wp_seq_k ?_; intro K2 hK2
  refine rg_startk 2 hS mixed_ ?_
  clear hS; intro w hS
  refine rg_take 1 rfl rfl (by kernel_rfl) (by kernel_rfl) (by kernel_rfl) (want_0) (fun w hok => x_fa 1 Try.underlying40 rfl rfl ts_22 (tmP rfl rfl)) ?_
  refine rg_take 3 rfl rfl (by kernel_rfl) (by kernel_rfl) (by kernel_rfl) (want_0) (fun w hok => x_move (tmI rfl rfl)) ?_
  refine rg_take 6 rfl rfl (by kernel_rfl) (by kernel_rfl) (by kernel_rfl) (want_0) (fun w hok => x_fa 1 Try.underlying40 rfl rfl ts_22 (tmP rfl rfl)) ?_
  refine rg_take 8 rfl rfl (by kernel_rfl) (by kernel_rfl) (by kernel_rfl) (want_0) (fun w hok => x_move (tmI rfl rfl)) ?_
  first
   | refine rg_take 9 rfl rfl (by kernel_rfl) (by kernel_rfl) (by kernel_rfl) (want_0) (fun w hok => x_addN (tmI rfl rfl) (ev_cN 1) (fit_i64 (by omega))) ?_
   | refine rg_take 9 rfl rfl (by kernel_rfl) (by kernel_rfl) (by kernel_rfl) (want_0) (fun w hok => x_addI (tmI rfl rfl) (ev_cN 1) (IntWalk.i64_in _ (by omega))) ?_
   | refine rg_take 9 rfl rfl (by kernel_rfl) (by kernel_rfl) (by kernel_rfl) (want_0) (fun w hok => x_add (tmI rfl rfl) (ev_cN 1)) ?_
  refine rg_step3 0 2 7 rfl rfl rfl (by kernel_rfl) (want_0) (want_0) (want_0) (oks_drop hS 2 rfl) ?_ ?_ ?_
  · intro K hK
    refine ow_build0 hS Try.underlying22 tz_28 rfl rfl ?_
    clear hS; intro g1_0 w hg1_0 hS
    refine hK _ _ ?_; clear hK K
    refine rg_step2 2 7 rfl rfl (by kernel_rfl) (want_0) (want_0) (oks_drop hS 3 rfl) ?_ ?_
    · intro K hK
      first
       | refine ow_v (x_load Try.underlying22 rfl (tmP rfl rfl) (cellB hS.ok 2 rfl rfl)) ?_
       | refine ow_v (x_load Try.underlying22 rfl (tmP rfl rfl) (cellB hS.ok 2 rfl (getm (by omega)))) ?_
      refine hK _ _ ?_; clear hK K
      refine rg_take 4 rfl rfl (by kernel_rfl) (by kernel_rfl) (by kernel_rfl) (want_0) (fun w hok => x_sliceH Try.underlying22 ts_28 (tmS rfl rfl) (tmI rfl rfl) (by omega)) ?_
      refine rg_step2 5 7 rfl rfl (by kernel_rfl) (want_0) (want_0) (oks_drop hS 3 rfl) ?_ ?_
      · intro K hK
        have hv1 := (viewV hS.ok 3 rfl).take (k * 3)
        rw [flat_take GLt.len] at hv1
        refine ow_appendV hS 0 rfl hv1 Try.underlying22 tz_28 rfl (tmS rfl rfl) (tmS rfl (congrArg (fun q => Value.slice q k cr) cutA_zero)) lt_one ⟨by decide, by rw [flat_length GLt.len, List.length_take]; omega⟩ (by simp only [maxLen]; omega) (by omega) ?_
        clear hS; intro A4 c4 w hA4 hC4 hS
        refine hK _ _ ?_; clear hK K
        refine rg_step 7 rfl (by kernel_rfl) (want_0) (oks_drop hS 3 rfl) ?_; intro K hK
        first
         | refine ow_v (x_load Try.underlying22 rfl (tmP rfl rfl) (cellB hS.ok 2 rfl rfl)) ?_
         | refine ow_v (x_load Try.underlying22 rfl (tmP rfl rfl) (cellB hS.ok 2 rfl (getm (by omega)))) ?_
        refine hK _ _ ?_; clear hK K
        refine rg_take 10 rfl rfl (by kernel_rfl) (by kernel_rfl) (by kernel_rfl) (want_0) (fun w hok => x_sliceL Try.underlying22 ts_28 (tmS rfl rfl) (tmI rfl rfl) (by omega)) ?_
        refine rg_step 11 rfl (by kernel_rfl) (want_0) (oks_drop hS 3 rfl) ?_; intro K hK
        have hv2 := view_cutS (c := cr) (sz := 3) (viewV hS.ok 3 rfl) (by rw [hfl]; omega) (k + 1)
        rw [flat_drop GLt.len] at hv2
        refine ow_appendV hS 0 rfl hv2 Try.underlying22 tz_28 rfl (tmS rfl rfl) (tmS rfl rfl) lt_one ⟨by decide, by rw [flat_length GLt.len, List.length_drop]; omega⟩ (by simp only [maxLen]; omega) (by omega) ?_
        clear hS; intro A5 c5 w hA5 hC5 hS
        refine hK _ _ ?_; clear hK K
        refine rg_take 12 rfl rfl (by kernel_rfl) (by kernel_rfl) (by kernel_rfl) (want_0) (fun w hok => x_fa 1 Try.underlying40 rfl rfl ts_22 (tmP rfl rfl)) ?_
        refine rg_step 13 rfl (by kernel_rfl) (want_0) (oks_drop hS 3 rfl) ?_; intro K hK
        first
         | refine ow_store hS 2 rfl ts_22 (tmP rfl rfl) (tmS rfl rfl) rfl rfl ?_
         | refine ow_storeX hS 2 rfl ts_22 (tmP rfl rfl) (tmS rfl rfl) rfl (by simp; omega) ?_
        clear hS; intro w hS
        try replace hS := St.nm (M' := [.row _ _ _ _ _, .blk _ _ [_, _, _], .blk _ _ [_, _, _], .vw _ _]) hS rfl
        refine hK _ _ ?_; clear hK K
        refine rg_done (oks_drop hS 3 rfl) (by kernel_rfl) ?_
        refine then_n (hK2 _ _ ?_); clear hK2 K2
        refine wp_seq_k ?_; intro K3 hK3
        refine wlit ?_
        refine wl_v (x_loadA (cs := [_, _, _]) Try.underlying40 rfl ts_40 (tmP rfl rfl) (rangeB hS.ok 2 rfl rfl)) ?_
        refine wl_e rfl ?_; intro K hK
        refine ow_storeA hS 1 rfl ts_40 (tmP rfl rfl) (tmA rfl rfl) rfl rfl rfl ?_
        clear hS; intro w hS
        try replace hS := St.nm (M' := [.row _ _ _ _ _, .blk _ _ [_, _, _], .blk _ _ [_, _, _], .vw _ _]) hS rfl
        refine hK _ _ ?_; clear hK K
        refine wl_nil ?_
        refine then_n (hK3 _ _ ?_); clear hK3 K3
        refine wp_ret ?_
        refine ret1 rfl (.cell rfl rfl (load_rowB (cs := [_, _, _]) hS.ok 1 rfl Try.underlying40 rfl ts_40 rfl)) ?_
        have h2 : New w0 w (.row (.slice A5 (0 + k + (m - (k + 1))) c5) 28 3 (0 + k + (m - (k + 1))) (flat GLt.V (ls.take k) ++ flat GLt.V (ls.drop (k + 1)))) := hS.new 0 rfl rfl
        have hcp := row_cap (hS.rowOk 0 rfl) (by omega)
        have hqk : 0 + k + (m - (k + 1)) = m - 1 := by omega
        rw [hqk] at hcp
        rw [← flat_append, hqk] at h2
        refine ⟨A5, c5, ?_, hcp, h2, hS.kp⟩
        rw [hqk]
      · intro K hK
        first
         | refine ow_v (x_load Try.underlying22 rfl (tmP rfl rfl) (cellB hS.ok 2 rfl rfl)) ?_
         | refine ow_v (x_load Try.underlying22 rfl (tmP rfl rfl) (cellB hS.ok 2 rfl (getm (by omega)))) ?_
        refine hK _ _ ?_; clear hK K
        refine rg_take 10 rfl rfl (by kernel_rfl) (by kernel_rfl) (by kernel_rfl) (want_0) (fun w hok => x_sliceL Try.underlying22 ts_28 (tmS rfl rfl) (tmI rfl rfl) (by omega)) ?_
        refine rg_step 5 rfl (by kernel_rfl) (want_0) (oks_drop hS 3 rfl) ?_; intro K hK
        have hv1 := (viewV hS.ok 3 rfl).take (k * 3)
        rw [flat_take GLt.len] at hv1
        refine ow_appendV hS 0 rfl hv1 Try.underlying22 tz_28 rfl (tmS rfl rfl) (tmS rfl (congrArg (fun q => Value.slice q k cr) cutA_zero)) lt_one ⟨by decide, by rw [flat_length GLt.len, List.length_take]; omega⟩ (by simp only [maxLen]; omega) (by omega) ?_
        clear hS; intro A4 c4 w hA4 hC4 hS
        refine hK _ _ ?_; clear hK K
        refine rg_step 11 rfl (by kernel_rfl) (want_0) (oks_drop hS 3 rfl) ?_; intro K hK
        have hv2 := view_cutS (c := cr) (sz := 3) (viewV hS.ok 3 rfl) (by rw [hfl]; omega) (k + 1)
        rw [flat_drop GLt.len] at hv2
        refine ow_appendV hS 0 rfl hv2 Try.underlying22 tz_28 rfl (tmS rfl rfl) (tmS rfl rfl) lt_one ⟨by decide, by rw [flat_length GLt.len, List.length_drop]; omega⟩ (by simp only [maxLen]; omega) (by omega) ?_
        clear hS; intro A5 c5 w hA5 hC5 hS
        refine hK _ _ ?_; clear hK K
        refine rg_take 12 rfl rfl (by kernel_rfl) (by kernel_rfl) (by kernel_rfl) (want_0) (fun w hok => x_fa 1 Try.underlying40 rfl rfl ts_22 (tmP rfl rfl)) ?_
        refine rg_step 13 rfl (by kernel_rfl) (want_0) (oks_drop hS 3 rfl) ?_; intro K hK
        first
         | refine ow_store hS 2 rfl ts_22 (tmP rfl rfl) (tmS rfl rfl) rfl rfl ?_
         | refine ow_storeX hS 2 rfl ts_22 (tmP rfl rfl) (tmS rfl rfl) rfl (by simp; omega) ?_
        clear hS; intro w hS
        try replace hS := St.nm (M' := [.row _ _ _ _ _, .blk _ _ [_, _, _], .blk _ _ [_, _, _], .vw _ _]) hS rfl
        refine hK _ _ ?_; clear hK K
        refine rg_done (oks_drop hS 3 rfl) (by kernel_rfl) ?_
        refine then_n (hK2 _ _ ?_); clear hK2 K2
        refine wp_seq_k ?_; intro K5 hK5
        refine wlit ?_
        refine wl_v (x_loadA (cs := [_, _, _]) Try.underlying40 rfl ts_40 (tmP rfl rfl) (rangeB hS.ok 2 rfl rfl)) ?_
        refine wl_e rfl ?_; intro K hK
        refine ow_storeA hS 1 rfl ts_40 (tmP rfl rfl) (tmA rfl rfl) rfl rfl rfl ?_
        clear hS; intro w hS
        try replace hS := St.nm (M' := [.row _ _ _ _ _, .blk _ _ [_, _, _], .blk _ _ [_, _, _], .vw _ _]) hS rfl
        refine hK _ _ ?_; clear hK K
        refine wl_nil ?_
        refine then_n (hK5 _ _ ?_); clear hK5 K5
        refine wp_ret ?_
        refine ret1 rfl (.cell rfl rfl (load_rowB (cs := [_, _, _]) hS.ok 1 rfl Try.underlying40 rfl ts_40 rfl)) ?_
        have h2 : New w0 w (.row (.slice A5 (0 + k + (m - (k + 1))) c5) 28 3 (0 + k + (m - (k + 1))) (flat GLt.V (ls.take k) ++ flat GLt.V (ls.drop (k + 1)))) := hS.new 0 rfl rfl
        have hcp := row_cap (hS.rowOk 0 rfl) (by omega)
        have hqk : 0 + k + (m - (k + 1)) = m - 1 := by omega
        rw [hqk] at hcp
        rw [← flat_append, hqk] at h2
        refine ⟨A5, c5, ?_, hcp, h2, hS.kp⟩
        rw [hqk]
    · intro K hK
      first
       | refine ow_v (x_load Try.underlying22 rfl (tmP rfl rfl) (cellB hS.ok 2 rfl rfl)) ?_
       | refine ow_v (x_load Try.underlying22 rfl (tmP rfl rfl) (cellB hS.ok 2 rfl (getm (by omega)))) ?_
      refine hK _ _ ?_; clear hK K
      refine rg_take 10 rfl rfl (by kernel_rfl) (by kernel_rfl) (by kernel_rfl) (want_0) (fun w hok => x_sliceL Try.underlying22 ts_28 (tmS rfl rfl) (tmI rfl rfl) (by omega)) ?_
      refine rg_step 2 rfl (by kernel_rfl) (want_0) (oks_drop hS 3 rfl) ?_; intro K hK
      first
       | refine ow_v (x_load Try.underlying22 rfl (tmP rfl rfl) (cellB hS.ok 2 rfl rfl)) ?_
       | refine ow_v (x_load Try.underlying22 rfl (tmP rfl rfl) (cellB hS.ok 2 rfl (getm (by omega)))) ?_
      refine hK _ _ ?_; clear hK K
      refine rg_take 4 rfl rfl (by kernel_rfl) (by kernel_rfl) (by kernel_rfl) (want_0) (fun w hok => x_sliceH Try.underlying22 ts_28 (tmS rfl rfl) (tmI rfl rfl) (by omega)) ?_
      refine rg_step 5 rfl (by kernel_rfl) (want_0) (oks_drop hS 3 rfl) ?_; intro K hK
      have hv1 := (viewV hS.ok 3 rfl).take (k * 3)
      rw [flat_take GLt.len] at hv1
      refine ow_appendV hS 0 rfl hv1 Try.underlying22 tz_28 rfl (tmS rfl rfl) (tmS rfl (congrArg (fun q => Value.slice q k cr) cutA_zero)) lt_one ⟨by decide, by rw [flat_length GLt.len, List.length_take]; omega⟩ (by simp only [maxLen]; omega) (by omega) ?_
      clear hS; intro A4 c4 w hA4 hC4 hS
      refine hK _ _ ?_; clear hK K
      refine rg_step 11 rfl (by kernel_rfl) (want_0) (oks_drop hS 3 rfl) ?_; intro K hK
      have hv2 := view_cutS (c := cr) (sz := 3) (viewV hS.ok 3 rfl) (by rw [hfl]; omega) (k + 1)
      rw [flat_drop GLt.len] at hv2
      refine ow_appendV hS 0 rfl hv2 Try.underlying22 tz_28 rfl (tmS rfl rfl) (tmS rfl rfl) lt_one ⟨by decide, by rw [flat_length GLt.len, List.length_drop]; omega⟩ (by simp only [maxLen]; omega) (by omega) ?_
      clear hS; intro A5 c5 w hA5 hC5 hS
      refine hK _ _ ?_; clear hK K
      refine rg_take 12 rfl rfl (by kernel_rfl) (by kernel_rfl) (by kernel_rfl) (want_0) (fun w hok => x_fa 1 Try.underlying40 rfl rfl ts_22 (tmP rfl rfl)) ?_
      refine rg_step 13 rfl (by kernel_rfl) (want_0) (oks_drop hS 3 rfl) ?_; intro K hK
      first
       | refine ow_store hS 2 rfl ts_22 (tmP rfl rfl) (tmS rfl rfl) rfl rfl ?_
       | refine ow_storeX hS 2 rfl ts_22 (tmP rfl rfl) (tmS rfl rfl) rfl (by simp; omega) ?_
      clear hS; intro w hS
      try replace hS := St.nm (M' := [.row _ _ _ _ _, .blk _ _ [_, _, _], .blk _ _ [_, _, _], .vw _ _]) hS rfl
      refine hK _ _ ?_; clear hK K
      refine rg_done (oks_drop hS 3 rfl) (by kernel_rfl) ?_
      refine then_n (hK2 _ _ ?_); clear hK2 K2
      refine wp_seq_k ?_; intro K7 hK7
      refine wlit ?_
      refine wl_v (x_loadA (cs := [_, _, _]) Try.underlying40 rfl ts_40 (tmP rfl rfl) (rangeB hS.ok 2 rfl rfl)) ?_
      refine wl_e rfl ?_; intro K hK
      refine ow_storeA hS 1 rfl ts_40 (tmP rfl rfl) (tmA rfl rfl) rfl rfl rfl ?_
      clear hS; intro w hS
      try replace hS := St.nm (M' := [.row _ _ _ _ _, .blk _ _ [_, _, _], .blk _ _ [_, _, _], .vw _ _]) hS rfl
      refine hK _ _ ?_; clear hK K
      refine wl_nil ?_
      refine then_n (hK7 _ _ ?_); clear hK7 K7
      refine wp_ret ?_
      refine ret1 rfl (.cell rfl rfl (load_rowB (cs := [_, _, _]) hS.ok 1 rfl Try.underlying40 rfl ts_40 rfl)) ?_
      have h2 : New w0 w (.row (.slice A5 (0 + k + (m - (k + 1))) c5) 28 3 (0 + k + (m - (k + 1))) (flat GLt.V (ls.take k) ++ flat GLt.V (ls.drop (k + 1)))) := hS.new 0 rfl rfl
      have hcp := row_cap (hS.rowOk 0 rfl) (by omega)
      have hqk : 0 + k + (m - (k + 1)) = m - 1 := by omega
      rw [hqk] at hcp
      rw [← flat_append, hqk] at h2
      refine ⟨A5, c5, ?_, hcp, h2, hS.kp⟩
      rw [hqk]
  · intro K hK
    first
     | refine ow_v (x_load Try.underlying22 rfl (tmP rfl rfl) (cellB hS.ok 1 rfl rfl)) ?_
     | refine ow_v (x_load Try.underlying22 rfl (tmP rfl rfl) (cellB hS.ok 1 rfl (getm (by omega)))) ?_
    refine hK _ _ ?_; clear hK K
    refine rg_take 4 rfl rfl (by kernel_rfl) (by kernel_rfl) (by kernel_rfl) (want_0) (fun w hok => x_sliceH Try.underlying22 ts_28 (tmS rfl rfl) (tmI rfl rfl) (by omega)) ?_
    refine rg_step2 0 7 rfl rfl (by kernel_rfl) (want_0) (want_0) (oks_drop hS 2 rfl) ?_ ?_
    · intro K hK
      refine ow_build0 hS Try.underlying22 tz_28 rfl rfl ?_
      clear hS; intro g1_0 w hg1_0 hS
      refine hK _ _ ?_; clear hK K
      refine rg_step2 5 7 rfl rfl (by kernel_rfl) (want_0) (want_0) (oks_drop hS 3 rfl) ?_ ?_
      · intro K hK
        have hv1 := (viewV hS.ok 3 rfl).take (k * 3)
        rw [flat_take GLt.len] at hv1
        refine ow_appendV hS 0 rfl hv1 Try.underlying22 tz_28 rfl (tmS rfl rfl) (tmS rfl (congrArg (fun q => Value.slice q k cr) cutA_zero)) lt_one ⟨by decide, by rw [flat_length GLt.len, List.length_take]; omega⟩ (by simp only [maxLen]; omega) (by omega) ?_
        clear hS; intro A4 c4 w hA4 hC4 hS
        refine hK _ _ ?_; clear hK K
        refine rg_step 7 rfl (by kernel_rfl) (want_0) (oks_drop hS 3 rfl) ?_; intro K hK
        first
         | refine ow_v (x_load Try.underlying22 rfl (tmP rfl rfl) (cellB hS.ok 2 rfl rfl)) ?_
         | refine ow_v (x_load Try.underlying22 rfl (tmP rfl rfl) (cellB hS.ok 2 rfl (getm (by omega)))) ?_
        refine hK _ _ ?_; clear hK K
        refine rg_take 10 rfl rfl (by kernel_rfl) (by kernel_rfl) (by kernel_rfl) (want_0) (fun w hok => x_sliceL Try.underlying22 ts_28 (tmS rfl rfl) (tmI rfl rfl) (by omega)) ?_
        refine rg_step 11 rfl (by kernel_rfl) (want_0) (oks_drop hS 3 rfl) ?_; intro K hK
        have hv2 := view_cutS (c := cr) (sz := 3) (viewV hS.ok 3 rfl) (by rw [hfl]; omega) (k + 1)
        rw [flat_drop GLt.len] at hv2
        refine ow_appendV hS 0 rfl hv2 Try.underlying22 tz_28 rfl (tmS rfl rfl) (tmS rfl rfl) lt_one ⟨by decide, by rw [flat_length GLt.len, List.length_drop]; omega⟩ (by simp only [maxLen]; omega) (by omega) ?_
        clear hS; intro A5 c5 w hA5 hC5 hS
        refine hK _ _ ?_; clear hK K
        refine rg_take 12 rfl rfl (by kernel_rfl) (by kernel_rfl) (by kernel_rfl) (want_0) (fun w hok => x_fa 1 Try.underlying40 rfl rfl ts_22 (tmP rfl rfl)) ?_
        refine rg_step 13 rfl (by kernel_rfl) (want_0) (oks_drop hS 3 rfl) ?_; intro K hK
        first
         | refine ow_store hS 2 rfl ts_22 (tmP rfl rfl) (tmS rfl rfl) rfl rfl ?_
         | refine ow_storeX hS 2 rfl ts_22 (tmP rfl rfl) (tmS rfl rfl) rfl (by simp; omega) ?_
        clear hS; intro w hS
        try replace hS := St.nm (M' := [.row _ _ _ _ _, .blk _ _ [_, _, _], .blk _ _ [_, _, _], .vw _ _]) hS rfl
        refine hK _ _ ?_; clear hK K
        refine rg_done (oks_drop hS 3 rfl) (by kernel_rfl) ?_
        refine then_n (hK2 _ _ ?_); clear hK2 K2
        refine wp_seq_k ?_; intro K9 hK9
        refine wlit ?_
        refine wl_v (x_loadA (cs := [_, _, _]) Try.underlying40 rfl ts_40 (tmP rfl rfl) (rangeB hS.ok 2 rfl rfl)) ?_
        refine wl_e rfl ?_; intro K hK
        refine ow_storeA hS 1 rfl ts_40 (tmP rfl rfl) (tmA rfl rfl) rfl rfl rfl ?_
        clear hS; intro w hS
        try replace hS := St.nm (M' := [.row _ _ _ _ _, .blk _ _ [_, _, _], .blk _ _ [_, _, _], .vw _ _]) hS rfl
        refine hK _ _ ?_; clear hK K
        refine wl_nil ?_
        refine then_n (hK9 _ _ ?_); clear hK9 K9
        refine wp_ret ?_
        refine ret1 rfl (.cell rfl rfl (load_rowB (cs := [_, _, _]) hS.ok 1 rfl Try.underlying40 rfl ts_40 rfl)) ?_
        have h2 : New w0 w (.row (.slice A5 (0 + k + (m - (k + 1))) c5) 28 3 (0 + k + (m - (k + 1))) (flat GLt.V (ls.take k) ++ flat GLt.V (ls.drop (k + 1)))) := hS.new 0 rfl rfl
        have hcp := row_cap (hS.rowOk 0 rfl) (by omega)
        have hqk : 0 + k + (m - (k + 1)) = m - 1 := by omega
        rw [hqk] at hcp
        rw [← flat_append, hqk] at h2
        refine ⟨A5, c5, ?_, hcp, h2, hS.kp⟩
        rw [hqk]
      · intro K hK
        first
         | refine ow_v (x_load Try.underlying22 rfl (tmP rfl rfl) (cellB hS.ok 2 rfl rfl)) ?_
         | refine ow_v (x_load Try.underlying22 rfl (tmP rfl rfl) (cellB hS.ok 2 rfl (getm (by omega)))) ?_
        refine hK _ _ ?_; clear hK K
        refine rg_take 10 rfl rfl (by kernel_rfl) (by kernel_rfl) (by kernel_rfl) (want_0) (fun w hok => x_sliceL Try.underlying22 ts_28 (tmS rfl rfl) (tmI rfl rfl) (by omega)) ?_
        refine rg_step 5 rfl (by kernel_rfl) (want_0) (oks_drop hS 3 rfl) ?_; intro K hK
        have hv1 := (viewV hS.ok 3 rfl).take (k * 3)
        rw [flat_take GLt.len] at hv1
        refine ow_appendV hS 0 rfl hv1 Try.underlying22 tz_28 rfl (tmS rfl rfl) (tmS rfl (congrArg (fun q => Value.slice q k cr) cutA_zero)) lt_one ⟨by decide, by rw [flat_length GLt.len, List.length_take]; omega⟩ (by simp only [maxLen]; omega) (by omega) ?_
        clear hS; intro A4 c4 w hA4 hC4 hS
        refine hK _ _ ?_; clear hK K
        refine rg_step 11 rfl (by kernel_rfl) (want_0) (oks_drop hS 3 rfl) ?_; intro K hK
        have hv2 := view_cutS (c := cr) (sz := 3) (viewV hS.ok 3 rfl) (by rw [hfl]; omega) (k + 1)
        rw [flat_drop GLt.len] at hv2
        refine ow_appendV hS 0 rfl hv2 Try.underlying22 tz_28 rfl (tmS rfl rfl) (tmS rfl rfl) lt_one ⟨by decide, by rw [flat_length GLt.len, List.length_drop]; omega⟩ (by simp only [maxLen]; omega) (by omega) ?_
        clear hS; intro A5 c5 w hA5 hC5 hS
        refine hK _ _ ?_; clear hK K
        refine rg_take 12 rfl rfl (by kernel_rfl) (by kernel_rfl) (by kernel_rfl) (want_0) (fun w hok => x_fa 1 Try.underlying40 rfl rfl ts_22 (tmP rfl rfl)) ?_
        refine rg_step 13 rfl (by kernel_rfl) (want_0) (oks_drop hS 3 rfl) ?_; intro K hK
        first
         | refine ow_store hS 2 rfl ts_22 (tmP rfl rfl) (tmS rfl rfl) rfl rfl ?_
         | refine ow_storeX hS 2 rfl ts_22 (tmP rfl rfl) (tmS rfl rfl) rfl (by simp; omega) ?_
        clear hS; intro w hS
        try replace hS := St.nm (M' := [.row _ _ _ _ _, .blk _ _ [_, _, _], .blk _ _ [_, _, _], .vw _ _]) hS rfl
        refine hK _ _ ?_; clear hK K
        refine rg_done (oks_drop hS 3 rfl) (by kernel_rfl) ?_
        refine then_n (hK2 _ _ ?_); clear hK2 K2
        refine wp_seq_k ?_; intro K11 hK11
        refine wlit ?_
        refine wl_v (x_loadA (cs := [_, _, _]) Try.underlying40 rfl ts_40 (tmP rfl rfl) (rangeB hS.ok 2 rfl rfl)) ?_
        refine wl_e rfl ?_; intro K hK
        refine ow_storeA hS 1 rfl ts_40 (tmP rfl rfl) (tmA rfl rfl) rfl rfl rfl ?_
        clear hS; intro w hS
        try replace hS := St.nm (M' := [.row _ _ _ _ _, .blk _ _ [_, _, _], .blk _ _ [_, _, _], .vw _ _]) hS rfl
        refine hK _ _ ?_; clear hK K
        refine wl_nil ?_
        refine then_n (hK11 _ _ ?_); clear hK11 K11
        refine wp_ret ?_
        refine ret1 rfl (.cell rfl rfl (load_rowB (cs := [_, _, _]) hS.ok 1 rfl Try.underlying40 rfl ts_40 rfl)) ?_
        have h2 : New w0 w (.row (.slice A5 (0 + k + (m - (k + 1))) c5) 28 3 (0 + k + (m - (k + 1))) (flat GLt.V (ls.take k) ++ flat GLt.V (ls.drop (k + 1)))) := hS.new 0 rfl rfl
        have hcp := row_cap (hS.rowOk 0 rfl) (by omega)
        have hqk : 0 + k + (m - (k + 1)) = m - 1 := by omega
        rw [hqk] at hcp
        rw [← flat_append, hqk] at h2
        refine ⟨A5, c5, ?_, hcp, h2, hS.kp⟩
        rw [hqk]
    · intro K hK
      first
       | refine ow_v (x_load Try.underlying22 rfl (tmP rfl rfl) (cellB hS.ok 1 rfl rfl)) ?_
       | refine ow_v (x_load Try.underlying22 rfl (tmP rfl rfl) (cellB hS.ok 1 rfl (getm (by omega)))) ?_
      refine hK _ _ ?_; clear hK K
      refine rg_take 10 rfl rfl (by kernel_rfl) (by kernel_rfl) (by kernel_rfl) (want_0) (fun w hok => x_sliceL Try.underlying22 ts_28 (tmS rfl rfl) (tmI rfl rfl) (by omega)) ?_
      refine rg_step 0 rfl (by kernel_rfl) (want_0) (oks_drop hS 2 rfl) ?_; intro K hK
      refine ow_build0 hS Try.underlying22 tz_28 rfl rfl ?_
      clear hS; intro g1_0 w hg1_0 hS
      refine hK _ _ ?_; clear hK K
      refine rg_step 5 rfl (by kernel_rfl) (want_0) (oks_drop hS 3 rfl) ?_; intro K hK
      have hv1 := (viewV hS.ok 3 rfl).take (k * 3)
      rw [flat_take GLt.len] at hv1
      refine ow_appendV hS 0 rfl hv1 Try.underlying22 tz_28 rfl (tmS rfl rfl) (tmS rfl (congrArg (fun q => Value.slice q k cr) cutA_zero)) lt_one ⟨by decide, by rw [flat_length GLt.len, List.length_take]; omega⟩ (by simp only [maxLen]; omega) (by omega) ?_
      clear hS; intro A4 c4 w hA4 hC4 hS
      refine hK _ _ ?_; clear hK K
      refine rg_step 11 rfl (by kernel_rfl) (want_0) (oks_drop hS 3 rfl) ?_; intro K hK
      have hv2 := view_cutS (c := cr) (sz := 3) (viewV hS.ok 3 rfl) (by rw [hfl]; omega) (k + 1)
      rw [flat_drop GLt.len] at hv2
      refine ow_appendV hS 0 rfl hv2 Try.underlying22 tz_28 rfl (tmS rfl rfl) (tmS rfl rfl) lt_one ⟨by decide, by rw [flat_length GLt.len, List.length_drop]; omega⟩ (by simp only [maxLen]; omega) (by omega) ?_
      clear hS; intro A5 c5 w hA5 hC5 hS
      refine hK _ _ ?_; clear hK K
      refine rg_take 12 rfl rfl (by kernel_rfl) (by kernel_rfl) (by kernel_rfl) (want_0) (fun w hok => x_fa 1 Try.underlying40 rfl rfl ts_22 (tmP rfl rfl)) ?_
      refine rg_step 13 rfl (by kernel_rfl) (want_0) (oks_drop hS 3 rfl) ?_; intro K hK
      first
       | refine ow_store hS 2 rfl ts_22 (tmP rfl rfl) (tmS rfl rfl) rfl rfl ?_
       | refine ow_storeX hS 2 rfl ts_22 (tmP rfl rfl) (tmS rfl rfl) rfl (by simp; omega) ?_
      clear hS; intro w hS
      try replace hS := St.nm (M' := [.row _ _ _ _ _, .blk _ _ [_, _, _], .blk _ _ [_, _, _], .vw _ _]) hS rfl
      refine hK _ _ ?_; clear hK K
      refine rg_done (oks_drop hS 3 rfl) (by kernel_rfl) ?_
      refine then_n (hK2 _ _ ?_); clear hK2 K2
      refine wp_seq_k ?_; intro K13 hK13
      refine wlit ?_
      refine wl_v (x_loadA (cs := [_, _, _]) Try.underlying40 rfl ts_40 (tmP rfl rfl) (rangeB hS.ok 2 rfl rfl)) ?_
      refine wl_e rfl ?_; intro K hK
      refine ow_storeA hS 1 rfl ts_40 (tmP rfl rfl) (tmA rfl rfl) rfl rfl rfl ?_
      clear hS; intro w hS
      try replace hS := St.nm (M' := [.row _ _ _ _ _, .blk _ _ [_, _, _], .blk _ _ [_, _, _], .vw _ _]) hS rfl
      refine hK _ _ ?_; clear hK K
      refine wl_nil ?_
      refine then_n (hK13 _ _ ?_); clear hK13 K13
      refine wp_ret ?_
      refine ret1 rfl (.cell rfl rfl (load_rowB (cs := [_, _, _]) hS.ok 1 rfl Try.underlying40 rfl ts_40 rfl)) ?_
      have h2 : New w0 w (.row (.slice A5 (0 + k + (m - (k + 1))) c5) 28 3 (0 + k + (m - (k + 1))) (flat GLt.V (ls.take k) ++ flat GLt.V (ls.drop (k + 1)))) := hS.new 0 rfl rfl
      have hcp := row_cap (hS.rowOk 0 rfl) (by omega)
      have hqk : 0 + k + (m - (k + 1)) = m - 1 := by omega
      rw [hqk] at hcp
      rw [← flat_append, hqk] at h2
      refine ⟨A5, c5, ?_, hcp, h2, hS.kp⟩
      rw [hqk]
  · intro K hK
    first
     | refine ow_v (x_load Try.underlying22 rfl (tmP rfl rfl) (cellB hS.ok 1 rfl rfl)) ?_
     | refine ow_v (x_load Try.underlying22 rfl (tmP rfl rfl) (cellB hS.ok 1 rfl (getm (by omega)))) ?_
    refine hK _ _ ?_; clear hK K
    refine rg_take 10 rfl rfl (by kernel_rfl) (by kernel_rfl) (by kernel_rfl) (want_0) (fun w hok => x_sliceL Try.underlying22 ts_28 (tmS rfl rfl) (tmI rfl rfl) (by omega)) ?_
    refine rg_step2 0 2 rfl rfl (by kernel_rfl) (want_0) (want_0) (oks_drop hS 2 rfl) ?_ ?_
    · intro K hK
      refine ow_build0 hS Try.underlying22 tz_28 rfl rfl ?_
      clear hS; intro g1_0 w hg1_0 hS
      refine hK _ _ ?_; clear hK K
      refine rg_step 2 rfl (by kernel_rfl) (want_0) (oks_drop hS 3 rfl) ?_; intro K hK
      first
       | refine ow_v (x_load Try.underlying22 rfl (tmP rfl rfl) (cellB hS.ok 2 rfl rfl)) ?_
       | refine ow_v (x_load Try.underlying22 rfl (tmP rfl rfl) (cellB hS.ok 2 rfl (getm (by omega)))) ?_
      refine hK _ _ ?_; clear hK K
      refine rg_take 4 rfl rfl (by kernel_rfl) (by kernel_rfl) (by kernel_rfl) (want_0) (fun w hok => x_sliceH Try.underlying22 ts_28 (tmS rfl rfl) (tmI rfl rfl) (by omega)) ?_
      refine rg_step 5 rfl (by kernel_rfl) (want_0) (oks_drop hS 3 rfl) ?_; intro K hK
      have hv1 := (viewV hS.ok 3 rfl).take (k * 3)
      rw [flat_take GLt.len] at hv1
      refine ow_appendV hS 0 rfl hv1 Try.underlying22 tz_28 rfl (tmS rfl rfl) (tmS rfl (congrArg (fun q => Value.slice q k cr) cutA_zero)) lt_one ⟨by decide, by rw [flat_length GLt.len, List.length_take]; omega⟩ (by simp only [maxLen]; omega) (by omega) ?_
      clear hS; intro A4 c4 w hA4 hC4 hS
      refine hK _ _ ?_; clear hK K
      refine rg_step 11 rfl (by kernel_rfl) (want_0) (oks_drop hS 3 rfl) ?_; intro K hK
      have hv2 := view_cutS (c := cr) (sz := 3) (viewV hS.ok 3 rfl) (by rw [hfl]; omega) (k + 1)
      rw [flat_drop GLt.len] at hv2
      refine ow_appendV hS 0 rfl hv2 Try.underlying22 tz_28 rfl (tmS rfl rfl) (tmS rfl rfl) lt_one ⟨by decide, by rw [flat_length GLt.len, List.length_drop]; omega⟩ (by simp only [maxLen]; omega) (by omega) ?_
      clear hS; intro A5 c5 w hA5 hC5 hS
      refine hK _ _ ?_; clear hK K
      refine rg_take 12 rfl rfl (by kernel_rfl) (by kernel_rfl) (by kernel_rfl) (want_0) (fun w hok => x_fa 1 Try.underlying40 rfl rfl ts_22 (tmP rfl rfl)) ?_
      refine rg_step 13 rfl (by kernel_rfl) (want_0) (oks_drop hS 3 rfl) ?_; intro K hK
      first
       | refine ow_store hS 2 rfl ts_22 (tmP rfl rfl) (tmS rfl rfl) rfl rfl ?_
       | refine ow_storeX hS 2 rfl ts_22 (tmP rfl rfl) (tmS rfl rfl) rfl (by simp; omega) ?_
      clear hS; intro w hS
      try replace hS := St.nm (M' := [.row _ _ _ _ _, .blk _ _ [_, _, _], .blk _ _ [_, _, _], .vw _ _]) hS rfl
      refine hK _ _ ?_; clear hK K
      refine rg_done (oks_drop hS 3 rfl) (by kernel_rfl) ?_
      refine then_n (hK2 _ _ ?_); clear hK2 K2
      refine wp_seq_k ?_; intro K15 hK15
      refine wlit ?_
      refine wl_v (x_loadA (cs := [_, _, _]) Try.underlying40 rfl ts_40 (tmP rfl rfl) (rangeB hS.ok 2 rfl rfl)) ?_
      refine wl_e rfl ?_; intro K hK
      refine ow_storeA hS 1 rfl ts_40 (tmP rfl rfl) (tmA rfl rfl) rfl rfl rfl ?_
      clear hS; intro w hS
      try replace hS := St.nm (M' := [.row _ _ _ _ _, .blk _ _ [_, _, _], .blk _ _ [_, _, _], .vw _ _]) hS rfl
      refine hK _ _ ?_; clear hK K
      refine wl_nil ?_
      refine then_n (hK15 _ _ ?_); clear hK15 K15
      refine wp_ret ?_
      refine ret1 rfl (.cell rfl rfl (load_rowB (cs := [_, _, _]) hS.ok 1 rfl Try.underlying40 rfl ts_40 rfl)) ?_
      have h2 : New w0 w (.row (.slice A5 (0 + k + (m - (k + 1))) c5) 28 3 (0 + k + (m - (k + 1))) (flat GLt.V (ls.take k) ++ flat GLt.V (ls.drop (k + 1)))) := hS.new 0 rfl rfl
      have hcp := row_cap (hS.rowOk 0 rfl) (by omega)
      have hqk : 0 + k + (m - (k + 1)) = m - 1 := by omega
      rw [hqk] at hcp
      rw [← flat_append, hqk] at h2
      refine ⟨A5, c5, ?_, hcp, h2, hS.kp⟩
      rw [hqk]
    · intro K hK
      first
       | refine ow_v (x_load Try.underlying22 rfl (tmP rfl rfl) (cellB hS.ok 1 rfl rfl)) ?_
       | refine ow_v (x_load Try.underlying22 rfl (tmP rfl rfl) (cellB hS.ok 1 rfl (getm (by omega)))) ?_
      refine hK _ _ ?_; clear hK K
      refine rg_take 4 rfl rfl (by kernel_rfl) (by kernel_rfl) (by kernel_rfl) (want_0) (fun w hok => x_sliceH Try.underlying22 ts_28 (tmS rfl rfl) (tmI rfl rfl) (by omega)) ?_
      refine rg_step 0 rfl (by kernel_rfl) (want_0) (oks_drop hS 2 rfl) ?_; intro K hK
      refine ow_build0 hS Try.underlying22 tz_28 rfl rfl ?_
      clear hS; intro g1_0 w hg1_0 hS
      refine hK _ _ ?_; clear hK K
      refine rg_step 5 rfl (by kernel_rfl) (want_0) (oks_drop hS 3 rfl) ?_; intro K hK
      have hv1 := (viewV hS.ok 3 rfl).take (k * 3)
      rw [flat_take GLt.len] at hv1
      refine ow_appendV hS 0 rfl hv1 Try.underlying22 tz_28 rfl (tmS rfl rfl) (tmS rfl (congrArg (fun q => Value.slice q k cr) cutA_zero)) lt_one ⟨by decide, by rw [flat_length GLt.len, List.length_take]; omega⟩ (by simp only [maxLen]; omega) (by omega) ?_
      clear hS; intro A4 c4 w hA4 hC4 hS
      refine hK _ _ ?_; clear hK K
      refine rg_step 11 rfl (by kernel_rfl) (want_0) (oks_drop hS 3 rfl) ?_; intro K hK
      have hv2 := view_cutS (c := cr) (sz := 3) (viewV hS.ok 3 rfl) (by rw [hfl]; omega) (k + 1)
      rw [flat_drop GLt.len] at hv2
      refine ow_appendV hS 0 rfl hv2 Try.underlying22 tz_28 rfl (tmS rfl rfl) (tmS rfl rfl) lt_one ⟨by decide, by rw [flat_length GLt.len, List.length_drop]; omega⟩ (by simp only [maxLen]; omega) (by omega) ?_
      clear hS; intro A5 c5 w hA5 hC5 hS
      refine hK _ _ ?_; clear hK K
      refine rg_take 12 rfl rfl (by kernel_rfl) (by kernel_rfl) (by kernel_rfl) (want_0) (fun w hok => x_fa 1 Try.underlying40 rfl rfl ts_22 (tmP rfl rfl)) ?_
      refine rg_step 13 rfl (by kernel_rfl) (want_0) (oks_drop hS 3 rfl) ?_; intro K hK
      first
       | refine ow_store hS 2 rfl ts_22 (tmP rfl rfl) (tmS rfl rfl) rfl rfl ?_
       | refine ow_storeX hS 2 rfl ts_22 (tmP rfl rfl) (tmS rfl rfl) rfl (by simp; omega) ?_
      clear hS; intro w hS
      try replace hS := St.nm (M' := [.row _ _ _ _ _, .blk _ _ [_, _, _], .blk _ _ [_, _, _], .vw _ _]) hS rfl
      refine hK _ _ ?_; clear hK K
      refine rg_done (oks_drop hS 3 rfl) (by kernel_rfl) ?_
      refine then_n (hK2 _ _ ?_); clear hK2 K2
      refine wp_seq_k ?_; intro K17 hK17
      refine wlit ?_
      refine wl_v (x_loadA (cs := [_, _, _]) Try.underlying40 rfl ts_40 (tmP rfl rfl) (rangeB hS.ok 2 rfl rfl)) ?_
      refine wl_e rfl ?_; intro K hK
      refine ow_storeA hS 1 rfl ts_40 (tmP rfl rfl) (tmA rfl rfl) rfl rfl rfl ?_
      clear hS; intro w hS
      try replace hS := St.nm (M' := [.row _ _ _ _ _, .blk _ _ [_, _, _], .blk _ _ [_, _, _], .vw _ _]) hS rfl
      refine hK _ _ ?_; clear hK K
      refine wl_nil ?_
      refine then_n (hK17 _ _ ?_); clear hK17 K17
      refine wp_ret ?_
      refine ret1 rfl (.cell rfl rfl (load_rowB (cs := [_, _, _]) hS.ok 1 rfl Try.underlying40 rfl ts_40 rfl)) ?_
      have h2 : New w0 w (.row (.slice A5 (0 + k + (m - (k + 1))) c5) 28 3 (0 + k + (m - (k + 1))) (flat GLt.V (ls.take k) ++ flat GLt.V (ls.drop (k + 1)))) := hS.new 0 rfl rfl
      have hcp := row_cap (hS.rowOk 0 rfl) (by omega)
      have hqk : 0 + k + (m - (k + 1)) = m - 1 := by omega
      rw [hqk] at hcp
      rw [← flat_append, hqk] at h2
      refine ⟨A5, c5, ?_, hcp, h2, hS.kp⟩
      rw [hqk]
def RSendP (most : Int) (L : List GLt) (lost : Nat) (x : GLt) (L' : List GLt) (lost' : Nat) (z : Int) : Prop :=
  ((L.length : Int) < most ∧ L' = L ++ [x] ∧ lost' = lost ∧ z = 0) ∨ (¬ (L.length : Int) < most ∧ L' = L ∧ lost' = lost + 1 ∧ z = 23)
set_option maxRecDepth 100000 in
set_option maxHeartbeats 4000000 in
theorem rsend_c (most : Int) (lost : Nat) (R : Option Addr) (m cr : Nat) (ls : List GLt) (x : GLt) (w0 : World) (hv : View w0 w0.heap.size R (flat GLt.V ls)) (hm : ls.length = m) (hm4 : m ≤ 1000) (hcr : m ≤ cr) (hlost : lost ≤ 1000000) :
    Calls Try.prog 16 #[.agg #[.int .i64 most, .slice R m cr, .int .i64 (lost : Int)], .agg #[.int .i64 x.node, .bool x.back, .slice x.b.a x.b.l.length x.b.c]] w0 fun e w' => ∃ R' m' cr' ls' lost' z, e = .returned (.tuple #[.agg #[.int .i64 most, .slice R' m' cr', .int .i64 ((lost' : Nat) : Int)], .int .i64 z]) ∧ ls'.length = m' ∧ m' ≤ cr' ∧ RSendP most ls lost x ls' lost' z ∧ (New w0 w' (.row (.slice R' m' cr') 28 3 m' (flat GLt.V ls')) ∨ Ent.row (.slice R' m' cr') 28 3 m' (flat GLt.V ls') = .row (.slice R m cr) 28 3 m (flat GLt.V ls)) ∧ Kp [] w0 w' := by
  have hS := (St.sv w0).vcons rfl hv
  have hfl := flat_length (enc := GLt.V) (l := ls) GLt.len
  refine ent (n := 26) Try.func16 rfl rfl ?_
  refine wp_seq_k ?_; intro K1 hK1
  refine wlit ?_
  refine wl_e rfl ?_; intro K hK
  refine ow_box hS (tmA rfl rfl) rfl ?_
  clear hS; intro g0_0 w hg0_0 hS
  refine hK _ _ ?_; clear hK K
  refine wl_e rfl ?_; intro K hK
  refine ow_box hS (tmA rfl rfl) rfl ?_
  clear hS; intro g0_1 w hg0_1 hS
  refine hK _ _ ?_; clear hK K
  refine wl_e rfl ?_; intro K hK
  refine ow_alloc hS tz_40 rfl ?_
  clear hS; intro g0_2 w hg0_2 hS
  refine hK _ _ ?_; clear hK K
  refine wl_v (x_assign (ev_cN 0)) ?_
  refine wl_nil ?_
  refine then_n (hK1 _ _ ?_); clear hK1 K1
  refine wp_seq_k ?_; intro K2 hK2
  refine wp_seq_k ?_; intro K3 hK3
  refine wlit ?_
  refine wl_v (x_fa 1 Try.underlying40 rfl rfl ts_22 (tmP rfl rfl)) ?_
  first
   | refine wl_v (x_load Try.underlying22 rfl (tmP rfl rfl) (cellB hS.ok 2 rfl rfl)) ?_
   | refine wl_v (x_load Try.underlying22 rfl (tmP rfl rfl) (cellB hS.ok 2 rfl (getm (by omega)))) ?_
  refine wl_v (x_len Try.underlying22 (tmS rfl rfl)) ?_
  refine wl_v (x_fa 0 Try.underlying40 rfl rfl ts_3 (tmP rfl rfl)) ?_
  first
   | refine wl_v (x_load Try.underlying3 rfl (tmP rfl rfl) (cellB hS.ok 2 rfl rfl)) ?_
   | refine wl_v (x_load Try.underlying3 rfl (tmP rfl rfl) (cellB hS.ok 2 rfl (getm (by omega)))) ?_
  refine wl_v (x_geq (tmI rfl rfl) (tmI rfl rfl)) ?_
  refine wl_nil ?_
  refine then_n (hK3 _ _ ?_); clear hK3 K3
  refine cnd (tm rfl) (fun hc0 => ?_) (fun hc0 => ?_)
  · try (exfalso; first | with_reducible exact absurd hc0 Bool.false_ne_true | with_reducible exact absurd hc0.symm Bool.false_ne_true | (simp only [nrm] at hc0; omega) | (simp at hc0; done))
    all_goals
     try simp only [nrm] at hc0
     have hnot : ¬ (m : Int) < most := by first | omega | (simp only [nrm] at hc0; omega)
     refine wp_seq_k ?_; intro K4 hK4
     refine wlit ?_
     refine wl_v (x_fa 2 Try.underlying40 rfl rfl ts_3 (tmP rfl rfl)) ?_
     first
      | refine wl_v (x_load Try.underlying3 rfl (tmP rfl rfl) (cellB hS.ok 2 rfl rfl)) ?_
      | refine wl_v (x_load Try.underlying3 rfl (tmP rfl rfl) (cellB hS.ok 2 rfl (getm (by omega)))) ?_
     first
      | refine wl_v (x_addN (tmI rfl rfl) (ev_cN 1) (fit_i64 (by omega))) ?_
      | refine wl_v (x_addI (tmI rfl rfl) (ev_cN 1) (IntWalk.i64_in _ (by omega))) ?_
      | refine wl_v (x_add (tmI rfl rfl) (ev_cN 1)) ?_
     refine wl_v (x_fa 2 Try.underlying40 rfl rfl ts_3 (tmP rfl rfl)) ?_
     refine wl_e rfl ?_; intro K hK
     first
      | refine ow_store hS 2 rfl ts_3 (tmP rfl rfl) (tmI rfl rfl) rfl rfl ?_
      | refine ow_storeX hS 2 rfl ts_3 (tmP rfl rfl) (tmI rfl rfl) rfl (by simp; omega) ?_
     clear hS; intro w hS
     try replace hS := St.nm (M' := [.blk _ _ [_, _, _], .blk _ _ [_, _, _], .blk _ _ [_, _, _], .vw _ _]) hS rfl
     refine hK _ _ ?_; clear hK K
     refine wl_nil ?_
     refine then_n (hK4 _ _ ?_); clear hK4 K4
     refine wp_seq_k ?_; intro K5 hK5
     refine wlit ?_
     refine wl_v (x_loadA (cs := [_, _, _]) Try.underlying40 rfl ts_40 (tmP rfl rfl) (rangeB hS.ok 2 rfl rfl)) ?_
     refine wl_e rfl ?_; intro K hK
     refine ow_storeA hS 0 rfl ts_40 (tmP rfl rfl) (tmA rfl rfl) rfl rfl rfl ?_
     clear hS; intro w hS
     try replace hS := St.nm (M' := [.blk _ _ [_, _, _], .blk _ _ [_, _, _], .blk _ _ [_, _, _], .vw _ _]) hS rfl
     refine hK _ _ ?_; clear hK K
     refine wl_v (x_assign (ev_cN 23)) ?_
     refine wl_nil ?_
     refine then_n (hK5 _ _ ?_); clear hK5 K5
     refine wp_ret ?_
     refine then_r ?_
     refine ret2 rfl (.cell rfl rfl (load_rowB (cs := [_, _, _]) hS.ok 0 rfl Try.underlying40 rfl ts_40 rfl)) (.tmp rfl (show _ = Value.int _ _ from rfl)) ?_
     first
       | exact ⟨R, m, cr, ls, lost + 1, 23, rfl, hm, hcr, .inr ⟨by rw [hm]; exact hnot, rfl, rfl, rfl⟩, .inr rfl, hS.kp⟩
       | (have hcp := row_cap (hS.rowOk (no_label_rowg4_0) rfl) (by omega)
          have h2 : New w0 w (.row (.slice (some ⟨g4_6, 0, none⟩) (0 + m + 1) cg4_6) 28 3 (0 + m + 1) (flat GLt.V ls ++ GLt.V x)) := hS.new (no_label_rowg4_0) rfl rfl
          have hm1 : 0 + m + 1 = m + 1 := by omega
          rw [hm1] at hcp
          rw [← flat_snoc, hm1] at h2
          refine ⟨some ⟨g4_6, 0, none⟩, m + 1, cg4_6, ls ++ [x], lost, 0, ?_, by rw [List.length_append, hm]; rfl, hcp, .inl ⟨by rw [hm]; exact hin, rfl, rfl, rfl⟩, .inl h2, hS.kp⟩
          rw [hm1]
          rfl)
  try (exfalso; first | with_reducible exact absurd hc0 Bool.false_ne_true | with_reducible exact absurd hc0.symm Bool.false_ne_true | (simp only [nrm] at hc0; omega) | (simp at hc0; done))
  all_goals
   try simp only [nrm] at hc0
   have hin : (m : Int) < most := by first | omega | (simp only [nrm] at hc0; omega)
   refine wp_skip ?_
   refine then_n (hK2 _ _ ?_); clear hK2 K2
   refine wp_seq_k ?_; intro K7 hK7
   --ents g0_0,g0_2,g0_1,vw
   replace hS := hS.pick [2, 0, 1, 3] rfl rfl
   try replace hS := St.nm (M' := [.blk _ _ [_, _, _], .blk _ _ [_, _, _], .blk _ _ [_, _, _], .vw _ _]) hS rfl
   refine rg_startk 1 hS mixed_ ?_
   clear hS; intro w hS
   refine rg_take 1 rfl rfl (by kernel_rfl) (by kernel_rfl) (by kernel_rfl) (want_0) (fun w hok => x_fa 1 Try.underlying40 rfl rfl ts_22 (tmP rfl rfl)) ?_
   refine rg_take 4 rfl rfl (by kernel_rfl) (by kernel_rfl) (by kernel_rfl) (want_0) (fun w hok => x_loadA (cs := [_, _, _]) Try.underlying28 rfl ts_28 (tmP rfl rfl) (rangeB hok 1 rfl rfl)) ?_
   refine rg_step3 0 2 5 rfl rfl rfl (by kernel_rfl) (want_0) (want_0) (want_0) (oks_drop hS 1 rfl) ?_ ?_ ?_
   · intro K hK
     refine ow_build0 hS Try.underlying22 tz_28 rfl rfl ?_
     clear hS; intro g4_0 w hg4_0 hS
     refine hK _ _ ?_; clear hK K
     refine rg_step2 2 5 rfl rfl (by kernel_rfl) (want_0) (want_0) (oks_drop hS 2 rfl) ?_ ?_
     · intro K hK
       first
        | refine ow_v (x_load Try.underlying22 rfl (tmP rfl rfl) (cellB hS.ok 1 rfl rfl)) ?_
        | refine ow_v (x_load Try.underlying22 rfl (tmP rfl rfl) (cellB hS.ok 1 rfl (getm (by omega)))) ?_
       refine hK _ _ ?_; clear hK K
       refine rg_step2 3 5 rfl rfl (by kernel_rfl) (want_0) (want_0) (oks_drop hS 2 rfl) ?_ ?_
       · intro K hK
         refine ow_appendV hS 0 rfl (viewV hS.ok 4 rfl) Try.underlying22 tz_28 rfl (tmS rfl rfl) (tmS rfl rfl) lt_one ⟨by decide, by rw [hfl]; omega⟩ (by simp only [maxLen]; omega) (by omega) ?_
         clear hS; intro A4 c4 w hA4 hC4 hS
         refine hK _ _ ?_; clear hK K
         refine rg_step 5 rfl (by kernel_rfl) (want_0) (oks_drop hS 2 rfl) ?_; intro K hK
         refine ow_build hS Try.underlying22 tz_28 (bc_takeL (tmA rfl rfl) <| bc_nil) rfl rfl (by kernel_rfl) ?_
         clear hS; intro g4_5 w hg4_5 hS
         refine hK _ _ ?_; clear hK K
         refine rg_step 6 rfl (by kernel_rfl) (want_0) (oks_drop hS 3 rfl) ?_; intro K hK
         (refine ow_append hS 1 0 rfl rfl Try.underlying22 tz_28 rfl (tmS rfl rfl) (tmS rfl rfl) rfl ⟨by decide, by decide, rfl⟩ (by simp only [maxLen]; omega) (by omega) ?_; clear hS; intro g4_6 cg4_6 w hS)
         refine hK _ _ ?_; clear hK K
         refine rg_take 7 rfl rfl (by kernel_rfl) (by kernel_rfl) (by kernel_rfl) (want_0) (fun w hok => x_fa 1 Try.underlying40 rfl rfl ts_22 (tmP rfl rfl)) ?_
         refine rg_step 8 rfl (by kernel_rfl) (want_0) (oks_drop hS 3 rfl) ?_; intro K hK
         first
          | refine ow_store hS 2 rfl ts_22 (tmP rfl rfl) (tmS rfl rfl) rfl rfl ?_
          | refine ow_storeX hS 2 rfl ts_22 (tmP rfl rfl) (tmS rfl rfl) rfl (by simp; omega) ?_
         clear hS; intro w hS
         try replace hS := St.nm (M' := [_, .row _ _ _ _ _, .blk _ _ [_, _, _], .blk _ _ [_, _, _], .blk _ _ [_, _, _], .vw _ _]) hS rfl
         refine hK _ _ ?_; clear hK K
         refine rg_done (oks_drop hS 3 rfl) (by kernel_rfl) ?_
         refine then_n (hK7 _ _ ?_); clear hK7 K7
         refine wp_seq_k ?_; intro K8 hK8
         refine wlit ?_
         refine wl_v (x_loadA (cs := [_, _, _]) Try.underlying40 rfl ts_40 (tmP rfl rfl) (rangeB hS.ok 2 rfl rfl)) ?_
         refine wl_e rfl ?_; intro K hK
         refine ow_storeA hS 3 rfl ts_40 (tmP rfl rfl) (tmA rfl rfl) rfl rfl rfl ?_
         clear hS; intro w hS
         try replace hS := St.nm (M' := [_, .row _ _ _ _ _, .blk _ _ [_, _, _], .blk _ _ [_, _, _], .blk _ _ [_, _, _], .vw _ _]) hS rfl
         refine hK _ _ ?_; clear hK K
         refine wl_v (x_assign (ev_cN 0)) ?_
         refine wl_nil ?_
         refine then_n (hK8 _ _ ?_); clear hK8 K8
         refine wp_ret ?_
         refine ret2 rfl (.cell rfl rfl (load_rowB (cs := [_, _, _]) hS.ok 3 rfl Try.underlying40 rfl ts_40 rfl)) (.tmp rfl (show _ = Value.int _ _ from rfl)) ?_
         first
           | exact ⟨R, m, cr, ls, lost + 1, 23, rfl, hm, hcr, .inr ⟨by rw [hm]; exact hnot, rfl, rfl, rfl⟩, .inr rfl, hS.kp⟩
           | (have hcp := row_cap (hS.rowOk 1 rfl) (by omega)
              have h2 : New w0 w (.row (.slice (some ⟨g4_6, 0, none⟩) (0 + m + 1) cg4_6) 28 3 (0 + m + 1) (flat GLt.V ls ++ GLt.V x)) := hS.new 1 rfl rfl
              have hm1 : 0 + m + 1 = m + 1 := by omega
              rw [hm1] at hcp
              rw [← flat_snoc, hm1] at h2
              refine ⟨some ⟨g4_6, 0, none⟩, m + 1, cg4_6, ls ++ [x], lost, 0, ?_, by rw [List.length_append, hm]; rfl, hcp, .inl ⟨by rw [hm]; exact hin, rfl, rfl, rfl⟩, .inl h2, hS.kp⟩
              rw [hm1]
              rfl)
       · intro K hK
         refine ow_build hS Try.underlying22 tz_28 (bc_takeL (tmA rfl rfl) <| bc_nil) rfl rfl (by kernel_rfl) ?_
         clear hS; intro g4_5 w hg4_5 hS
         refine hK _ _ ?_; clear hK K
         refine rg_step 3 rfl (by kernel_rfl) (want_0) (oks_drop hS 3 rfl) ?_; intro K hK
         refine ow_appendV hS 1 rfl (viewV hS.ok 5 rfl) Try.underlying22 tz_28 rfl (tmS rfl rfl) (tmS rfl rfl) lt_one ⟨by decide, by rw [hfl]; omega⟩ (by simp only [maxLen]; omega) (by omega) ?_
         clear hS; intro A4 c4 w hA4 hC4 hS
         refine hK _ _ ?_; clear hK K
         refine rg_step 6 rfl (by kernel_rfl) (want_0) (oks_drop hS 3 rfl) ?_; intro K hK
         (refine ow_append hS 1 0 rfl rfl Try.underlying22 tz_28 rfl (tmS rfl rfl) (tmS rfl rfl) rfl ⟨by decide, by decide, rfl⟩ (by simp only [maxLen]; omega) (by omega) ?_; clear hS; intro g4_6 cg4_6 w hS)
         refine hK _ _ ?_; clear hK K
         refine rg_take 7 rfl rfl (by kernel_rfl) (by kernel_rfl) (by kernel_rfl) (want_0) (fun w hok => x_fa 1 Try.underlying40 rfl rfl ts_22 (tmP rfl rfl)) ?_
         refine rg_step 8 rfl (by kernel_rfl) (want_0) (oks_drop hS 3 rfl) ?_; intro K hK
         first
          | refine ow_store hS 2 rfl ts_22 (tmP rfl rfl) (tmS rfl rfl) rfl rfl ?_
          | refine ow_storeX hS 2 rfl ts_22 (tmP rfl rfl) (tmS rfl rfl) rfl (by simp; omega) ?_
         clear hS; intro w hS
         try replace hS := St.nm (M' := [_, .row _ _ _ _ _, .blk _ _ [_, _, _], .blk _ _ [_, _, _], .blk _ _ [_, _, _], .vw _ _]) hS rfl
         refine hK _ _ ?_; clear hK K
         refine rg_done (oks_drop hS 3 rfl) (by kernel_rfl) ?_
         refine then_n (hK7 _ _ ?_); clear hK7 K7
         refine wp_seq_k ?_; intro K10 hK10
         refine wlit ?_
         refine wl_v (x_loadA (cs := [_, _, _]) Try.underlying40 rfl ts_40 (tmP rfl rfl) (rangeB hS.ok 2 rfl rfl)) ?_
         refine wl_e rfl ?_; intro K hK
         refine ow_storeA hS 3 rfl ts_40 (tmP rfl rfl) (tmA rfl rfl) rfl rfl rfl ?_
         clear hS; intro w hS
         try replace hS := St.nm (M' := [_, .row _ _ _ _ _, .blk _ _ [_, _, _], .blk _ _ [_, _, _], .blk _ _ [_, _, _], .vw _ _]) hS rfl
         refine hK _ _ ?_; clear hK K
         refine wl_v (x_assign (ev_cN 0)) ?_
         refine wl_nil ?_
         refine then_n (hK10 _ _ ?_); clear hK10 K10
         refine wp_ret ?_
         refine ret2 rfl (.cell rfl rfl (load_rowB (cs := [_, _, _]) hS.ok 3 rfl Try.underlying40 rfl ts_40 rfl)) (.tmp rfl (show _ = Value.int _ _ from rfl)) ?_
         first
           | exact ⟨R, m, cr, ls, lost + 1, 23, rfl, hm, hcr, .inr ⟨by rw [hm]; exact hnot, rfl, rfl, rfl⟩, .inr rfl, hS.kp⟩
           | (have hcp := row_cap (hS.rowOk 1 rfl) (by omega)
              have h2 : New w0 w (.row (.slice (some ⟨g4_6, 0, none⟩) (0 + m + 1) cg4_6) 28 3 (0 + m + 1) (flat GLt.V ls ++ GLt.V x)) := hS.new 1 rfl rfl
              have hm1 : 0 + m + 1 = m + 1 := by omega
              rw [hm1] at hcp
              rw [← flat_snoc, hm1] at h2
              refine ⟨some ⟨g4_6, 0, none⟩, m + 1, cg4_6, ls ++ [x], lost, 0, ?_, by rw [List.length_append, hm]; rfl, hcp, .inl ⟨by rw [hm]; exact hin, rfl, rfl, rfl⟩, .inl h2, hS.kp⟩
              rw [hm1]
              rfl)
     · intro K hK
       refine ow_build hS Try.underlying22 tz_28 (bc_takeL (tmA rfl rfl) <| bc_nil) rfl rfl (by kernel_rfl) ?_
       clear hS; intro g4_5 w hg4_5 hS
       refine hK _ _ ?_; clear hK K
       refine rg_step 2 rfl (by kernel_rfl) (want_0) (oks_drop hS 3 rfl) ?_; intro K hK
       first
        | refine ow_v (x_load Try.underlying22 rfl (tmP rfl rfl) (cellB hS.ok 2 rfl rfl)) ?_
        | refine ow_v (x_load Try.underlying22 rfl (tmP rfl rfl) (cellB hS.ok 2 rfl (getm (by omega)))) ?_
       refine hK _ _ ?_; clear hK K
       refine rg_step 3 rfl (by kernel_rfl) (want_0) (oks_drop hS 3 rfl) ?_; intro K hK
       refine ow_appendV hS 1 rfl (viewV hS.ok 5 rfl) Try.underlying22 tz_28 rfl (tmS rfl rfl) (tmS rfl rfl) lt_one ⟨by decide, by rw [hfl]; omega⟩ (by simp only [maxLen]; omega) (by omega) ?_
       clear hS; intro A4 c4 w hA4 hC4 hS
       refine hK _ _ ?_; clear hK K
       refine rg_step 6 rfl (by kernel_rfl) (want_0) (oks_drop hS 3 rfl) ?_; intro K hK
       (refine ow_append hS 1 0 rfl rfl Try.underlying22 tz_28 rfl (tmS rfl rfl) (tmS rfl rfl) rfl ⟨by decide, by decide, rfl⟩ (by simp only [maxLen]; omega) (by omega) ?_; clear hS; intro g4_6 cg4_6 w hS)
       refine hK _ _ ?_; clear hK K
       refine rg_take 7 rfl rfl (by kernel_rfl) (by kernel_rfl) (by kernel_rfl) (want_0) (fun w hok => x_fa 1 Try.underlying40 rfl rfl ts_22 (tmP rfl rfl)) ?_
       refine rg_step 8 rfl (by kernel_rfl) (want_0) (oks_drop hS 3 rfl) ?_; intro K hK
       first
        | refine ow_store hS 2 rfl ts_22 (tmP rfl rfl) (tmS rfl rfl) rfl rfl ?_
        | refine ow_storeX hS 2 rfl ts_22 (tmP rfl rfl) (tmS rfl rfl) rfl (by simp; omega) ?_
       clear hS; intro w hS
       try replace hS := St.nm (M' := [_, .row _ _ _ _ _, .blk _ _ [_, _, _], .blk _ _ [_, _, _], .blk _ _ [_, _, _], .vw _ _]) hS rfl
       refine hK _ _ ?_; clear hK K
       refine rg_done (oks_drop hS 3 rfl) (by kernel_rfl) ?_
       refine then_n (hK7 _ _ ?_); clear hK7 K7
       refine wp_seq_k ?_; intro K12 hK12
       refine wlit ?_
       refine wl_v (x_loadA (cs := [_, _, _]) Try.underlying40 rfl ts_40 (tmP rfl rfl) (rangeB hS.ok 2 rfl rfl)) ?_
       refine wl_e rfl ?_; intro K hK
       refine ow_storeA hS 3 rfl ts_40 (tmP rfl rfl) (tmA rfl rfl) rfl rfl rfl ?_
       clear hS; intro w hS
       try replace hS := St.nm (M' := [_, .row _ _ _ _ _, .blk _ _ [_, _, _], .blk _ _ [_, _, _], .blk _ _ [_, _, _], .vw _ _]) hS rfl
       refine hK _ _ ?_; clear hK K
       refine wl_v (x_assign (ev_cN 0)) ?_
       refine wl_nil ?_
       refine then_n (hK12 _ _ ?_); clear hK12 K12
       refine wp_ret ?_
       refine ret2 rfl (.cell rfl rfl (load_rowB (cs := [_, _, _]) hS.ok 3 rfl Try.underlying40 rfl ts_40 rfl)) (.tmp rfl (show _ = Value.int _ _ from rfl)) ?_
       first
         | exact ⟨R, m, cr, ls, lost + 1, 23, rfl, hm, hcr, .inr ⟨by rw [hm]; exact hnot, rfl, rfl, rfl⟩, .inr rfl, hS.kp⟩
         | (have hcp := row_cap (hS.rowOk 1 rfl) (by omega)
            have h2 : New w0 w (.row (.slice (some ⟨g4_6, 0, none⟩) (0 + m + 1) cg4_6) 28 3 (0 + m + 1) (flat GLt.V ls ++ GLt.V x)) := hS.new 1 rfl rfl
            have hm1 : 0 + m + 1 = m + 1 := by omega
            rw [hm1] at hcp
            rw [← flat_snoc, hm1] at h2
            refine ⟨some ⟨g4_6, 0, none⟩, m + 1, cg4_6, ls ++ [x], lost, 0, ?_, by rw [List.length_append, hm]; rfl, hcp, .inl ⟨by rw [hm]; exact hin, rfl, rfl, rfl⟩, .inl h2, hS.kp⟩
            rw [hm1]
            rfl)
   · intro K hK
     first
      | refine ow_v (x_load Try.underlying22 rfl (tmP rfl rfl) (cellB hS.ok 0 rfl rfl)) ?_
      | refine ow_v (x_load Try.underlying22 rfl (tmP rfl rfl) (cellB hS.ok 0 rfl (getm (by omega)))) ?_
     refine hK _ _ ?_; clear hK K
     refine rg_step2 0 5 rfl rfl (by kernel_rfl) (want_0) (want_0) (oks_drop hS 1 rfl) ?_ ?_
     · intro K hK
       refine ow_build0 hS Try.underlying22 tz_28 rfl rfl ?_
       clear hS; intro g4_0 w hg4_0 hS
       refine hK _ _ ?_; clear hK K
       refine rg_step2 3 5 rfl rfl (by kernel_rfl) (want_0) (want_0) (oks_drop hS 2 rfl) ?_ ?_
       · intro K hK
         refine ow_appendV hS 0 rfl (viewV hS.ok 4 rfl) Try.underlying22 tz_28 rfl (tmS rfl rfl) (tmS rfl rfl) lt_one ⟨by decide, by rw [hfl]; omega⟩ (by simp only [maxLen]; omega) (by omega) ?_
         clear hS; intro A4 c4 w hA4 hC4 hS
         refine hK _ _ ?_; clear hK K
         refine rg_step 5 rfl (by kernel_rfl) (want_0) (oks_drop hS 2 rfl) ?_; intro K hK
         refine ow_build hS Try.underlying22 tz_28 (bc_takeL (tmA rfl rfl) <| bc_nil) rfl rfl (by kernel_rfl) ?_
         clear hS; intro g4_5 w hg4_5 hS
         refine hK _ _ ?_; clear hK K
         refine rg_step 6 rfl (by kernel_rfl) (want_0) (oks_drop hS 3 rfl) ?_; intro K hK
         (refine ow_append hS 1 0 rfl rfl Try.underlying22 tz_28 rfl (tmS rfl rfl) (tmS rfl rfl) rfl ⟨by decide, by decide, rfl⟩ (by simp only [maxLen]; omega) (by omega) ?_; clear hS; intro g4_6 cg4_6 w hS)
         refine hK _ _ ?_; clear hK K
         refine rg_take 7 rfl rfl (by kernel_rfl) (by kernel_rfl) (by kernel_rfl) (want_0) (fun w hok => x_fa 1 Try.underlying40 rfl rfl ts_22 (tmP rfl rfl)) ?_
         refine rg_step 8 rfl (by kernel_rfl) (want_0) (oks_drop hS 3 rfl) ?_; intro K hK
         first
          | refine ow_store hS 2 rfl ts_22 (tmP rfl rfl) (tmS rfl rfl) rfl rfl ?_
          | refine ow_storeX hS 2 rfl ts_22 (tmP rfl rfl) (tmS rfl rfl) rfl (by simp; omega) ?_
         clear hS; intro w hS
         try replace hS := St.nm (M' := [_, .row _ _ _ _ _, .blk _ _ [_, _, _], .blk _ _ [_, _, _], .blk _ _ [_, _, _], .vw _ _]) hS rfl
         refine hK _ _ ?_; clear hK K
         refine rg_done (oks_drop hS 3 rfl) (by kernel_rfl) ?_
         refine then_n (hK7 _ _ ?_); clear hK7 K7
         refine wp_seq_k ?_; intro K14 hK14
         refine wlit ?_
         refine wl_v (x_loadA (cs := [_, _, _]) Try.underlying40 rfl ts_40 (tmP rfl rfl) (rangeB hS.ok 2 rfl rfl)) ?_
         refine wl_e rfl ?_; intro K hK
         refine ow_storeA hS 3 rfl ts_40 (tmP rfl rfl) (tmA rfl rfl) rfl rfl rfl ?_
         clear hS; intro w hS
         try replace hS := St.nm (M' := [_, .row _ _ _ _ _, .blk _ _ [_, _, _], .blk _ _ [_, _, _], .blk _ _ [_, _, _], .vw _ _]) hS rfl
         refine hK _ _ ?_; clear hK K
         refine wl_v (x_assign (ev_cN 0)) ?_
         refine wl_nil ?_
         refine then_n (hK14 _ _ ?_); clear hK14 K14
         refine wp_ret ?_
         refine ret2 rfl (.cell rfl rfl (load_rowB (cs := [_, _, _]) hS.ok 3 rfl Try.underlying40 rfl ts_40 rfl)) (.tmp rfl (show _ = Value.int _ _ from rfl)) ?_
         first
           | exact ⟨R, m, cr, ls, lost + 1, 23, rfl, hm, hcr, .inr ⟨by rw [hm]; exact hnot, rfl, rfl, rfl⟩, .inr rfl, hS.kp⟩
           | (have hcp := row_cap (hS.rowOk 1 rfl) (by omega)
              have h2 : New w0 w (.row (.slice (some ⟨g4_6, 0, none⟩) (0 + m + 1) cg4_6) 28 3 (0 + m + 1) (flat GLt.V ls ++ GLt.V x)) := hS.new 1 rfl rfl
              have hm1 : 0 + m + 1 = m + 1 := by omega
              rw [hm1] at hcp
              rw [← flat_snoc, hm1] at h2
              refine ⟨some ⟨g4_6, 0, none⟩, m + 1, cg4_6, ls ++ [x], lost, 0, ?_, by rw [List.length_append, hm]; rfl, hcp, .inl ⟨by rw [hm]; exact hin, rfl, rfl, rfl⟩, .inl h2, hS.kp⟩
              rw [hm1]
              rfl)
       · intro K hK
         refine ow_build hS Try.underlying22 tz_28 (bc_takeL (tmA rfl rfl) <| bc_nil) rfl rfl (by kernel_rfl) ?_
         clear hS; intro g4_5 w hg4_5 hS
         refine hK _ _ ?_; clear hK K
         refine rg_step 3 rfl (by kernel_rfl) (want_0) (oks_drop hS 3 rfl) ?_; intro K hK
         refine ow_appendV hS 1 rfl (viewV hS.ok 5 rfl) Try.underlying22 tz_28 rfl (tmS rfl rfl) (tmS rfl rfl) lt_one ⟨by decide, by rw [hfl]; omega⟩ (by simp only [maxLen]; omega) (by omega) ?_
         clear hS; intro A4 c4 w hA4 hC4 hS
         refine hK _ _ ?_; clear hK K
         refine rg_step 6 rfl (by kernel_rfl) (want_0) (oks_drop hS 3 rfl) ?_; intro K hK
         (refine ow_append hS 1 0 rfl rfl Try.underlying22 tz_28 rfl (tmS rfl rfl) (tmS rfl rfl) rfl ⟨by decide, by decide, rfl⟩ (by simp only [maxLen]; omega) (by omega) ?_; clear hS; intro g4_6 cg4_6 w hS)
         refine hK _ _ ?_; clear hK K
         refine rg_take 7 rfl rfl (by kernel_rfl) (by kernel_rfl) (by kernel_rfl) (want_0) (fun w hok => x_fa 1 Try.underlying40 rfl rfl ts_22 (tmP rfl rfl)) ?_
         refine rg_step 8 rfl (by kernel_rfl) (want_0) (oks_drop hS 3 rfl) ?_; intro K hK
         first
          | refine ow_store hS 2 rfl ts_22 (tmP rfl rfl) (tmS rfl rfl) rfl rfl ?_
          | refine ow_storeX hS 2 rfl ts_22 (tmP rfl rfl) (tmS rfl rfl) rfl (by simp; omega) ?_
         clear hS; intro w hS
         try replace hS := St.nm (M' := [_, .row _ _ _ _ _, .blk _ _ [_, _, _], .blk _ _ [_, _, _], .blk _ _ [_, _, _], .vw _ _]) hS rfl
         refine hK _ _ ?_; clear hK K
         refine rg_done (oks_drop hS 3 rfl) (by kernel_rfl) ?_
         refine then_n (hK7 _ _ ?_); clear hK7 K7
         refine wp_seq_k ?_; intro K16 hK16
         refine wlit ?_
         refine wl_v (x_loadA (cs := [_, _, _]) Try.underlying40 rfl ts_40 (tmP rfl rfl) (rangeB hS.ok 2 rfl rfl)) ?_
         refine wl_e rfl ?_; intro K hK
         refine ow_storeA hS 3 rfl ts_40 (tmP rfl rfl) (tmA rfl rfl) rfl rfl rfl ?_
         clear hS; intro w hS
         try replace hS := St.nm (M' := [_, .row _ _ _ _ _, .blk _ _ [_, _, _], .blk _ _ [_, _, _], .blk _ _ [_, _, _], .vw _ _]) hS rfl
         refine hK _ _ ?_; clear hK K
         refine wl_v (x_assign (ev_cN 0)) ?_
         refine wl_nil ?_
         refine then_n (hK16 _ _ ?_); clear hK16 K16
         refine wp_ret ?_
         refine ret2 rfl (.cell rfl rfl (load_rowB (cs := [_, _, _]) hS.ok 3 rfl Try.underlying40 rfl ts_40 rfl)) (.tmp rfl (show _ = Value.int _ _ from rfl)) ?_
         first
           | exact ⟨R, m, cr, ls, lost + 1, 23, rfl, hm, hcr, .inr ⟨by rw [hm]; exact hnot, rfl, rfl, rfl⟩, .inr rfl, hS.kp⟩
           | (have hcp := row_cap (hS.rowOk 1 rfl) (by omega)
              have h2 : New w0 w (.row (.slice (some ⟨g4_6, 0, none⟩) (0 + m + 1) cg4_6) 28 3 (0 + m + 1) (flat GLt.V ls ++ GLt.V x)) := hS.new 1 rfl rfl
              have hm1 : 0 + m + 1 = m + 1 := by omega
              rw [hm1] at hcp
              rw [← flat_snoc, hm1] at h2
              refine ⟨some ⟨g4_6, 0, none⟩, m + 1, cg4_6, ls ++ [x], lost, 0, ?_, by rw [List.length_append, hm]; rfl, hcp, .inl ⟨by rw [hm]; exact hin, rfl, rfl, rfl⟩, .inl h2, hS.kp⟩
              rw [hm1]
              rfl)
     · intro K hK
       refine ow_build hS Try.underlying22 tz_28 (bc_takeL (tmA rfl rfl) <| bc_nil) rfl rfl (by kernel_rfl) ?_
       clear hS; intro g4_5 w hg4_5 hS
       refine hK _ _ ?_; clear hK K
       refine rg_step 0 rfl (by kernel_rfl) (want_0) (oks_drop hS 2 rfl) ?_; intro K hK
       refine ow_build0 hS Try.underlying22 tz_28 rfl rfl ?_
       clear hS; intro g4_0 w hg4_0 hS
       refine hK _ _ ?_; clear hK K
       refine rg_step 3 rfl (by kernel_rfl) (want_0) (oks_drop hS 3 rfl) ?_; intro K hK
       refine ow_appendV hS 0 rfl (viewV hS.ok 5 rfl) Try.underlying22 tz_28 rfl (tmS rfl rfl) (tmS rfl rfl) lt_one ⟨by decide, by rw [hfl]; omega⟩ (by simp only [maxLen]; omega) (by omega) ?_
       clear hS; intro A4 c4 w hA4 hC4 hS
       refine hK _ _ ?_; clear hK K
       refine rg_step 6 rfl (by kernel_rfl) (want_0) (oks_drop hS 3 rfl) ?_; intro K hK
       (refine ow_append hS 0 1 rfl rfl Try.underlying22 tz_28 rfl (tmS rfl rfl) (tmS rfl rfl) rfl ⟨by decide, by decide, rfl⟩ (by simp only [maxLen]; omega) (by omega) ?_; clear hS; intro g4_6 cg4_6 w hS)
       refine hK _ _ ?_; clear hK K
       refine rg_take 7 rfl rfl (by kernel_rfl) (by kernel_rfl) (by kernel_rfl) (want_0) (fun w hok => x_fa 1 Try.underlying40 rfl rfl ts_22 (tmP rfl rfl)) ?_
       refine rg_step 8 rfl (by kernel_rfl) (want_0) (oks_drop hS 3 rfl) ?_; intro K hK
       first
        | refine ow_store hS 2 rfl ts_22 (tmP rfl rfl) (tmS rfl rfl) rfl rfl ?_
        | refine ow_storeX hS 2 rfl ts_22 (tmP rfl rfl) (tmS rfl rfl) rfl (by simp; omega) ?_
       clear hS; intro w hS
       try replace hS := St.nm (M' := [.row _ _ _ _ _, _, .blk _ _ [_, _, _], .blk _ _ [_, _, _], .blk _ _ [_, _, _], .vw _ _]) hS rfl
       refine hK _ _ ?_; clear hK K
       refine rg_done (oks_drop hS 3 rfl) (by kernel_rfl) ?_
       refine then_n (hK7 _ _ ?_); clear hK7 K7
       refine wp_seq_k ?_; intro K18 hK18
       refine wlit ?_
       refine wl_v (x_loadA (cs := [_, _, _]) Try.underlying40 rfl ts_40 (tmP rfl rfl) (rangeB hS.ok 2 rfl rfl)) ?_
       refine wl_e rfl ?_; intro K hK
       refine ow_storeA hS 3 rfl ts_40 (tmP rfl rfl) (tmA rfl rfl) rfl rfl rfl ?_
       clear hS; intro w hS
       try replace hS := St.nm (M' := [.row _ _ _ _ _, _, .blk _ _ [_, _, _], .blk _ _ [_, _, _], .blk _ _ [_, _, _], .vw _ _]) hS rfl
       refine hK _ _ ?_; clear hK K
       refine wl_v (x_assign (ev_cN 0)) ?_
       refine wl_nil ?_
       refine then_n (hK18 _ _ ?_); clear hK18 K18
       refine wp_ret ?_
       refine ret2 rfl (.cell rfl rfl (load_rowB (cs := [_, _, _]) hS.ok 3 rfl Try.underlying40 rfl ts_40 rfl)) (.tmp rfl (show _ = Value.int _ _ from rfl)) ?_
       first
         | exact ⟨R, m, cr, ls, lost + 1, 23, rfl, hm, hcr, .inr ⟨by rw [hm]; exact hnot, rfl, rfl, rfl⟩, .inr rfl, hS.kp⟩
         | (have hcp := row_cap (hS.rowOk 0 rfl) (by omega)
            have h2 : New w0 w (.row (.slice (some ⟨g4_6, 0, none⟩) (0 + m + 1) cg4_6) 28 3 (0 + m + 1) (flat GLt.V ls ++ GLt.V x)) := hS.new 0 rfl rfl
            have hm1 : 0 + m + 1 = m + 1 := by omega
            rw [hm1] at hcp
            rw [← flat_snoc, hm1] at h2
            refine ⟨some ⟨g4_6, 0, none⟩, m + 1, cg4_6, ls ++ [x], lost, 0, ?_, by rw [List.length_append, hm]; rfl, hcp, .inl ⟨by rw [hm]; exact hin, rfl, rfl, rfl⟩, .inl h2, hS.kp⟩
            rw [hm1]
            rfl)
   · intro K hK
     refine ow_build hS Try.underlying22 tz_28 (bc_takeL (tmA rfl rfl) <| bc_nil) rfl rfl (by kernel_rfl) ?_
     clear hS; intro g4_5 w hg4_5 hS
     refine hK _ _ ?_; clear hK K
     refine rg_step2 0 2 rfl rfl (by kernel_rfl) (want_0) (want_0) (oks_drop hS 2 rfl) ?_ ?_
     · intro K hK
       refine ow_build0 hS Try.underlying22 tz_28 rfl rfl ?_
       clear hS; intro g4_0 w hg4_0 hS
       refine hK _ _ ?_; clear hK K
       refine rg_step 2 rfl (by kernel_rfl) (want_0) (oks_drop hS 3 rfl) ?_; intro K hK
       first
        | refine ow_v (x_load Try.underlying22 rfl (tmP rfl rfl) (cellB hS.ok 2 rfl rfl)) ?_
        | refine ow_v (x_load Try.underlying22 rfl (tmP rfl rfl) (cellB hS.ok 2 rfl (getm (by omega)))) ?_
       refine hK _ _ ?_; clear hK K
       refine rg_step 3 rfl (by kernel_rfl) (want_0) (oks_drop hS 3 rfl) ?_; intro K hK
       refine ow_appendV hS 0 rfl (viewV hS.ok 5 rfl) Try.underlying22 tz_28 rfl (tmS rfl rfl) (tmS rfl rfl) lt_one ⟨by decide, by rw [hfl]; omega⟩ (by simp only [maxLen]; omega) (by omega) ?_
       clear hS; intro A4 c4 w hA4 hC4 hS
       refine hK _ _ ?_; clear hK K
       refine rg_step 6 rfl (by kernel_rfl) (want_0) (oks_drop hS 3 rfl) ?_; intro K hK
       (refine ow_append hS 0 1 rfl rfl Try.underlying22 tz_28 rfl (tmS rfl rfl) (tmS rfl rfl) rfl ⟨by decide, by decide, rfl⟩ (by simp only [maxLen]; omega) (by omega) ?_; clear hS; intro g4_6 cg4_6 w hS)
       refine hK _ _ ?_; clear hK K
       refine rg_take 7 rfl rfl (by kernel_rfl) (by kernel_rfl) (by kernel_rfl) (want_0) (fun w hok => x_fa 1 Try.underlying40 rfl rfl ts_22 (tmP rfl rfl)) ?_
       refine rg_step 8 rfl (by kernel_rfl) (want_0) (oks_drop hS 3 rfl) ?_; intro K hK
       first
        | refine ow_store hS 2 rfl ts_22 (tmP rfl rfl) (tmS rfl rfl) rfl rfl ?_
        | refine ow_storeX hS 2 rfl ts_22 (tmP rfl rfl) (tmS rfl rfl) rfl (by simp; omega) ?_
       clear hS; intro w hS
       try replace hS := St.nm (M' := [.row _ _ _ _ _, _, .blk _ _ [_, _, _], .blk _ _ [_, _, _], .blk _ _ [_, _, _], .vw _ _]) hS rfl
       refine hK _ _ ?_; clear hK K
       refine rg_done (oks_drop hS 3 rfl) (by kernel_rfl) ?_
       refine then_n (hK7 _ _ ?_); clear hK7 K7
       refine wp_seq_k ?_; intro K20 hK20
       refine wlit ?_
       refine wl_v (x_loadA (cs := [_, _, _]) Try.underlying40 rfl ts_40 (tmP rfl rfl) (rangeB hS.ok 2 rfl rfl)) ?_
       refine wl_e rfl ?_; intro K hK
       refine ow_storeA hS 3 rfl ts_40 (tmP rfl rfl) (tmA rfl rfl) rfl rfl rfl ?_
       clear hS; intro w hS
       try replace hS := St.nm (M' := [.row _ _ _ _ _, _, .blk _ _ [_, _, _], .blk _ _ [_, _, _], .blk _ _ [_, _, _], .vw _ _]) hS rfl
       refine hK _ _ ?_; clear hK K
       refine wl_v (x_assign (ev_cN 0)) ?_
       refine wl_nil ?_
       refine then_n (hK20 _ _ ?_); clear hK20 K20
       refine wp_ret ?_
       refine ret2 rfl (.cell rfl rfl (load_rowB (cs := [_, _, _]) hS.ok 3 rfl Try.underlying40 rfl ts_40 rfl)) (.tmp rfl (show _ = Value.int _ _ from rfl)) ?_
       first
         | exact ⟨R, m, cr, ls, lost + 1, 23, rfl, hm, hcr, .inr ⟨by rw [hm]; exact hnot, rfl, rfl, rfl⟩, .inr rfl, hS.kp⟩
         | (have hcp := row_cap (hS.rowOk 0 rfl) (by omega)
            have h2 : New w0 w (.row (.slice (some ⟨g4_6, 0, none⟩) (0 + m + 1) cg4_6) 28 3 (0 + m + 1) (flat GLt.V ls ++ GLt.V x)) := hS.new 0 rfl rfl
            have hm1 : 0 + m + 1 = m + 1 := by omega
            rw [hm1] at hcp
            rw [← flat_snoc, hm1] at h2
            refine ⟨some ⟨g4_6, 0, none⟩, m + 1, cg4_6, ls ++ [x], lost, 0, ?_, by rw [List.length_append, hm]; rfl, hcp, .inl ⟨by rw [hm]; exact hin, rfl, rfl, rfl⟩, .inl h2, hS.kp⟩
            rw [hm1]
            rfl)
     · intro K hK
       first
        | refine ow_v (x_load Try.underlying22 rfl (tmP rfl rfl) (cellB hS.ok 1 rfl rfl)) ?_
        | refine ow_v (x_load Try.underlying22 rfl (tmP rfl rfl) (cellB hS.ok 1 rfl (getm (by omega)))) ?_
       refine hK _ _ ?_; clear hK K
       refine rg_step 0 rfl (by kernel_rfl) (want_0) (oks_drop hS 2 rfl) ?_; intro K hK
       refine ow_build0 hS Try.underlying22 tz_28 rfl rfl ?_
       clear hS; intro g4_0 w hg4_0 hS
       refine hK _ _ ?_; clear hK K
       refine rg_step 3 rfl (by kernel_rfl) (want_0) (oks_drop hS 3 rfl) ?_; intro K hK
       refine ow_appendV hS 0 rfl (viewV hS.ok 5 rfl) Try.underlying22 tz_28 rfl (tmS rfl rfl) (tmS rfl rfl) lt_one ⟨by decide, by rw [hfl]; omega⟩ (by simp only [maxLen]; omega) (by omega) ?_
       clear hS; intro A4 c4 w hA4 hC4 hS
       refine hK _ _ ?_; clear hK K
       refine rg_step 6 rfl (by kernel_rfl) (want_0) (oks_drop hS 3 rfl) ?_; intro K hK
       (refine ow_append hS 0 1 rfl rfl Try.underlying22 tz_28 rfl (tmS rfl rfl) (tmS rfl rfl) rfl ⟨by decide, by decide, rfl⟩ (by simp only [maxLen]; omega) (by omega) ?_; clear hS; intro g4_6 cg4_6 w hS)
       refine hK _ _ ?_; clear hK K
       refine rg_take 7 rfl rfl (by kernel_rfl) (by kernel_rfl) (by kernel_rfl) (want_0) (fun w hok => x_fa 1 Try.underlying40 rfl rfl ts_22 (tmP rfl rfl)) ?_
       refine rg_step 8 rfl (by kernel_rfl) (want_0) (oks_drop hS 3 rfl) ?_; intro K hK
       first
        | refine ow_store hS 2 rfl ts_22 (tmP rfl rfl) (tmS rfl rfl) rfl rfl ?_
        | refine ow_storeX hS 2 rfl ts_22 (tmP rfl rfl) (tmS rfl rfl) rfl (by simp; omega) ?_
       clear hS; intro w hS
       try replace hS := St.nm (M' := [.row _ _ _ _ _, _, .blk _ _ [_, _, _], .blk _ _ [_, _, _], .blk _ _ [_, _, _], .vw _ _]) hS rfl
       refine hK _ _ ?_; clear hK K
       refine rg_done (oks_drop hS 3 rfl) (by kernel_rfl) ?_
       refine then_n (hK7 _ _ ?_); clear hK7 K7
       refine wp_seq_k ?_; intro K22 hK22
       refine wlit ?_
       refine wl_v (x_loadA (cs := [_, _, _]) Try.underlying40 rfl ts_40 (tmP rfl rfl) (rangeB hS.ok 2 rfl rfl)) ?_
       refine wl_e rfl ?_; intro K hK
       refine ow_storeA hS 3 rfl ts_40 (tmP rfl rfl) (tmA rfl rfl) rfl rfl rfl ?_
       clear hS; intro w hS
       try replace hS := St.nm (M' := [.row _ _ _ _ _, _, .blk _ _ [_, _, _], .blk _ _ [_, _, _], .blk _ _ [_, _, _], .vw _ _]) hS rfl
       refine hK _ _ ?_; clear hK K
       refine wl_v (x_assign (ev_cN 0)) ?_
       refine wl_nil ?_
       refine then_n (hK22 _ _ ?_); clear hK22 K22
       refine wp_ret ?_
       refine ret2 rfl (.cell rfl rfl (load_rowB (cs := [_, _, _]) hS.ok 3 rfl Try.underlying40 rfl ts_40 rfl)) (.tmp rfl (show _ = Value.int _ _ from rfl)) ?_
       first
         | exact ⟨R, m, cr, ls, lost + 1, 23, rfl, hm, hcr, .inr ⟨by rw [hm]; exact hnot, rfl, rfl, rfl⟩, .inr rfl, hS.kp⟩
         | (have hcp := row_cap (hS.rowOk 0 rfl) (by omega)
            have h2 : New w0 w (.row (.slice (some ⟨g4_6, 0, none⟩) (0 + m + 1) cg4_6) 28 3 (0 + m + 1) (flat GLt.V ls ++ GLt.V x)) := hS.new 0 rfl rfl
            have hm1 : 0 + m + 1 = m + 1 := by omega
            rw [hm1] at hcp
            rw [← flat_snoc, hm1] at h2
            refine ⟨some ⟨g4_6, 0, none⟩, m + 1, cg4_6, ls ++ [x], lost, 0, ?_, by rw [List.length_append, hm]; rfl, hcp, .inl ⟨by rw [hm]; exact hin, rfl, rfl, rfl⟩, .inl h2, hS.kp⟩
            rw [hm1]
            rfl)
set_option maxRecDepth 100000 in
set_option maxHeartbeats 4000000 in
theorem rclear_c (most : Int) (lost : Nat) (R : Option Addr) (m cr : Nat) (ls : List GLt) (node : Int) (w0 : World) (hv : View w0 w0.heap.size R (flat GLt.V ls)) (hm : ls.length = m) (hm4 : m ≤ 1000) (hcr : m ≤ cr) (hlost : lost ≤ 1000000) :
    Calls Try.prog 17 #[.agg #[.int .i64 most, .slice R m cr, .int .i64 (lost : Int)], .int .i64 node] w0 fun e w' => ∃ R' m' cr' n, m' = (keepL node ls).length ∧ n + m' = m ∧ e = .returned (.tuple #[.agg #[.int .i64 most, .slice R' m' cr', .int .i64 ((lost + n : Nat) : Int)], .int .i64 ((n : Nat) : Int)]) ∧ m' ≤ cr' ∧ New w0 w' (.row (.slice R' m' cr') 28 3 m' (flat GLt.V (keepL node ls))) ∧ Kp [] w0 w' := by
  have hS := (St.sv w0).vcons rfl hv
  refine ent (n := 47) Try.func17 rfl rfl ?_
  refine wp_seq_k ?_; intro K1 hK1
  refine wlit ?_
  refine wl_e rfl ?_; intro K hK
  refine ow_box hS (tmA rfl rfl) rfl ?_
  clear hS; intro g0_0 w hg0_0 hS
  refine hK _ _ ?_; clear hK K
  refine wl_e rfl ?_; intro K hK
  refine ow_alloc hS tz_40 rfl ?_
  clear hS; intro g0_1 w hg0_1 hS
  refine hK _ _ ?_; clear hK K
  refine wl_v (x_assign (ev_cN 0)) ?_
  refine wl_nil ?_
  refine then_n (hK1 _ _ ?_); clear hK1 K1
  refine wp_seq_k ?_; intro K2 hK2
  refine wlit ?_
  refine wl_v (x_assign ev_c) ?_
  refine wl_nil ?_
  refine then_n (hK2 _ _ ?_); clear hK2 K2
  refine wp_seq_k ?_; intro K3 hK3
  refine wp_seq_k ?_; intro K4 hK4
  refine wlit ?_
  refine wl_v (x_assign (ev_cN 0)) ?_
  refine wl_nil ?_
  refine then_n (hK4 _ _ ?_); clear hK4 K4
  refine wp_block ?_
  have hS := hS.nilrow 28 3
  refine lp [6, 7, 9, 10, 11, 12, 13, 14, 15, 16, 17, 18, 19, 20, 21, 22, 23, 24, 25, 26, 27, 28, 29, 30, 31] (fun mz g w => ∃ (k : Nat), ∃ (A' : Option Addr), ∃ (q : Nat), ∃ (c' : Nat), mz = m - k ∧ g 7 = .int .i64 (k : Int) ∧ g 6 = .slice A' q c' ∧ St [] w0 [.row (.slice A' q c') 28 3 q (flat GLt.V (keepL node (ls.take k))), .blk g0_1 40 [.int .i64 0, .slice none 0 0, .int .i64 0], .blk g0_0 40 [.int .i64 most, .slice R m cr, .int .i64 (lost : Int)], .vw R (flat GLt.V ls)] w ∧ (k ≤ m) ∧ (q = (keepL node (ls.take k)).length)) ?_ ?_
  · exact ⟨_, 0, none, 0, 0, rfl, (by first | rfl | go_num | exact congrArg (Value.int _) (by first | omega | (simp; done) | (simp; omega))), (by first | rfl | go_num | exact congrArg (Value.int _) (by first | omega | (simp; done) | (simp; omega))), hS, (by omega), (by first | rfl | (rw [hsn, List.length_append, ← hq]; rfl) | (rw [hsn]; exact hq))⟩
  · clear hS; intro mz g w hI
    obtain ⟨k, A', q, c', rfl, hs7, hs6, hS, hk, hq⟩ := hI
    refine fr_know (d := 7) hs7 ?_; clear hs7
    refine fr_know (d := 6) hs6 ?_; clear hs6
    refine wp_seq_k ?_; intro K5 hK5
    refine wp_seq_k ?_; intro K6 hK6
    refine wlit ?_
    refine wl_v (x_move (tmI rfl rfl)) ?_
    refine wl_v (x_fa 1 Try.underlying40 rfl rfl ts_22 (tmP rfl rfl)) ?_
    first
     | refine wl_v (x_load Try.underlying22 rfl (tmP rfl rfl) (cellB hS.ok 2 rfl rfl)) ?_
     | refine wl_v (x_load Try.underlying22 rfl (tmP rfl rfl) (cellB hS.ok 2 rfl (getm (by omega)))) ?_
    refine wl_v (x_len Try.underlying22 (tmS rfl rfl)) ?_
    refine wl_v (x_lss (tmI rfl rfl) (tmI rfl rfl)) ?_
    refine wl_nil ?_
    refine then_n (hK6 _ _ ?_); clear hK6 K6
    refine cnd (tm rfl) (fun hc0 => ?_) (fun hc0 => ?_)
    · try (exfalso; first | with_reducible exact absurd hc0 Bool.false_ne_true | with_reducible exact absurd hc0.symm Bool.false_ne_true | (simp only [nrm] at hc0; omega) | (simp at hc0; done))
      all_goals
       try simp only [nrm] at hc0
       obtain ⟨b0, o0, rfl⟩ := view_some hv (by rw [flat_length GLt.len]; omega)
       refine wp_skip ?_
       refine then_n (hK5 _ _ ?_); clear hK5 K5
       refine wp_seq_k ?_; intro K7 hK7
       refine wp_block ?_
       refine wp_seq_k ?_; intro K8 hK8
       refine wlit ?_
       refine wl_v (x_fa 1 Try.underlying40 rfl rfl ts_22 (tmP rfl rfl)) ?_
       first
        | refine wl_v (x_load Try.underlying22 rfl (tmP rfl rfl) (cellB hS.ok 2 rfl rfl)) ?_
        | refine wl_v (x_load Try.underlying22 rfl (tmP rfl rfl) (cellB hS.ok 2 rfl (getm (by omega)))) ?_
       refine wl_v (x_move (tmI rfl rfl)) ?_
       refine wl_v (x_ixs Try.underlying22 ts_28 (tmS rfl rfl) (tmI rfl rfl) (by omega)) ?_
       refine wl_v (x_fa 0 Try.underlying28 rfl rfl ts_3 (tmP rfl rfl)) ?_
       first
        | refine wl_v (x_load Try.underlying3 rfl (tmP rfl rfl) (cellR hS.ok 0 rfl rfl)) ?_
        | refine wl_v (x_load Try.underlying3 rfl (tmP rfl rfl) (cellR hS.ok 0 rfl (getm (by omega)))) ?_
        | refine wl_v (x_load Try.underlying3 rfl (tmP rfl rfl) (cellRs hS.ok 0 rfl (fun _ => rfl) rfl (by omega) rfl)) ?_
        | refine wl_v (x_load Try.underlying3 rfl (tmP rfl rfl) (cellV hS.ok 3 rfl rfl)) ?_
        | refine wl_v (x_load Try.underlying3 rfl (tmP rfl rfl) (cellV hS.ok 3 rfl (getm (by omega)))) ?_
        | refine wl_v (x_load Try.underlying3 rfl (tmP rfl rfl) (cellVs hS.ok 3 rfl (fun _ => rfl) rfl (by omega) rfl)) ?_
       refine wl_v (x_move (tmI rfl rfl)) ?_
       refine wl_v (x_neq (tmI rfl rfl) (tmI rfl rfl)) ?_
       refine wl_nil ?_
       refine then_n (hK8 _ _ ?_); clear hK8 K8
       refine cnd (tm rfl) (fun hc1 => ?_) (fun hc1 => ?_)
       · try (exfalso; first | with_reducible exact absurd hc1 Bool.false_ne_true | with_reducible exact absurd hc1.symm Bool.false_ne_true | (simp only [nrm] at hc1; omega) | (simp at hc1; done))
         all_goals
          try simp only [nrm] at hc1
          have hsn := keepL_snoc node ls k (by omega)
          have hmk := keepL_le node (ls.take k)
          rw [← hq, List.length_take] at hmk
          rw [if_neg (by simpa using hc1)] at hsn
          refine wlit ?_
          refine wl_v (x_move (tmS rfl rfl)) ?_
          refine wl_v (x_fa 1 Try.underlying40 rfl rfl ts_22 (tmP rfl rfl)) ?_
          first
           | refine wl_v (x_load Try.underlying22 rfl (tmP rfl rfl) (cellB hS.ok 2 rfl rfl)) ?_
           | refine wl_v (x_load Try.underlying22 rfl (tmP rfl rfl) (cellB hS.ok 2 rfl (getm (by omega)))) ?_
          refine wl_v (x_move (tmI rfl rfl)) ?_
          refine wl_v (x_ixs Try.underlying22 ts_28 (tmS rfl rfl) (tmI rfl rfl) (by omega)) ?_
          first
           | refine wl_v (x_loadA Try.underlying28 rfl (by exact ts_28) (tmP rfl rfl) (rangeRs hS.ok 0 rfl (fun _ => rfl) (by omega))) ?_
           | refine wl_v (x_loadA Try.underlying28 rfl (by exact ts_28) (tmP rfl rfl) (rangeVs hS.ok 3 rfl (fun _ => rfl) (by omega))) ?_
          refine wl_e rfl ?_; intro K hK
          refine ow_build hS Try.underlying22 tz_28 (bc_takeL (tmA rfl rfl) <| bc_nil) rfl rfl (by kernel_rfl) ?_
          clear hS; intro g6_6 w hg6_6 hS
          refine hK _ _ ?_; clear hK K
          refine wl_e rfl ?_; intro K hK
          (refine ow_append hS 1 0 rfl rfl Try.underlying22 tz_28 rfl (tmS rfl rfl) (tmS rfl rfl) rfl ⟨by decide, by decide, rfl⟩ (by simp only [maxLen]; omega) (by omega) ?_; clear hS; intro g6_7 cg6_7 w hS)
          refine hK _ _ ?_; clear hK K
          refine wl_v (x_assign (tmS rfl rfl)) ?_
          refine wl_nil ?_
          refine inb_n ?_
          refine then_n (hK7 _ _ ?_); clear hK7 K7
          refine wlit ?_
          refine wl_v (x_move (tmI rfl rfl)) ?_
          first
           | refine wl_v (x_addN (tmI rfl rfl) (ev_cN 1) (fit_i64 (by omega))) ?_
           | refine wl_v (x_addI (tmI rfl rfl) (ev_cN 1) (IntWalk.i64_in _ (by omega))) ?_
           | refine wl_v (x_add (tmI rfl rfl) (ev_cN 1)) ?_
          refine wl_v (x_assign (tmI rfl rfl)) ?_
          refine wl_nil ?_
          first
           | exact then_n ⟨_, _, rfl, (by show _ < _; omega), (by repeat (first | exact agree_self | exact agree_refl | refine agree_upd rfl ?_ | refine agree_mix rfl ?_)), k + 1, _, _, _, rfl, (by first | rfl | go_num | exact congrArg (Value.int _) (by first | omega | (simp; done) | (simp; omega))), (by first | rfl | go_num | exact congrArg (Value.int _) (by first | omega | (simp; done) | (simp; omega))), (by rw [hsn, flat_snoc]; exact hS.pick [1, 2, 3, 4] rfl rfl), (by omega), (by first | rfl | (rw [hsn, List.length_append, ← hq]; rfl) | (rw [hsn]; exact hq))⟩
           | exact then_n ⟨_, _, rfl, (by show _ < _; omega), (by repeat (first | exact agree_self | exact agree_refl | refine agree_upd rfl ?_ | refine agree_mix rfl ?_)), k + 1, _, _, _, rfl, (by first | rfl | go_num | exact congrArg (Value.int _) (by first | omega | (simp; done) | (simp; omega))), (by first | rfl | go_num | exact congrArg (Value.int _) (by first | omega | (simp; done) | (simp; omega))), (by rw [hsn]; exact hS.pick [1, 2, 3, 4] rfl rfl), (by omega), (by first | rfl | (rw [hsn, List.length_append, ← hq]; rfl) | (rw [hsn]; exact hq))⟩
       try (exfalso; first | with_reducible exact absurd hc1 Bool.false_ne_true | with_reducible exact absurd hc1.symm Bool.false_ne_true | (simp only [nrm] at hc1; omega) | (simp at hc1; done))
       all_goals
        try simp only [nrm] at hc1
        have hsn := keepL_snoc node ls k (by omega)
        rw [if_pos (by simpa using hc1)] at hsn
        refine wp_skip ?_
        refine inb_n ?_
        refine then_n (hK7 _ _ ?_); clear hK7 K7
        refine wlit ?_
        refine wl_v (x_move (tmI rfl rfl)) ?_
        first
         | refine wl_v (x_addN (tmI rfl rfl) (ev_cN 1) (fit_i64 (by omega))) ?_
         | refine wl_v (x_addI (tmI rfl rfl) (ev_cN 1) (IntWalk.i64_in _ (by omega))) ?_
         | refine wl_v (x_add (tmI rfl rfl) (ev_cN 1)) ?_
        refine wl_v (x_assign (tmI rfl rfl)) ?_
        refine wl_nil ?_
        first
         | exact then_n ⟨_, _, rfl, (by show _ < _; omega), (by repeat (first | exact agree_self | exact agree_refl | refine agree_upd rfl ?_ | refine agree_mix rfl ?_)), k + 1, _, _, _, rfl, (by first | rfl | go_num | exact congrArg (Value.int _) (by first | omega | (simp; done) | (simp; omega))), (by first | rfl | go_num | exact congrArg (Value.int _) (by first | omega | (simp; done) | (simp; omega))), (by rw [hsn, flat_snoc]; exact hS.pick [0, 1, 2, 3] rfl rfl), (by omega), (by first | rfl | (rw [hsn, List.length_append, ← hq]; rfl) | (rw [hsn]; exact hq))⟩
         | exact then_n ⟨_, _, rfl, (by show _ < _; omega), (by repeat (first | exact agree_self | exact agree_refl | refine agree_upd rfl ?_ | refine agree_mix rfl ?_)), k + 1, _, _, _, rfl, (by first | rfl | go_num | exact congrArg (Value.int _) (by first | omega | (simp; done) | (simp; omega))), (by first | rfl | go_num | exact congrArg (Value.int _) (by first | omega | (simp; done) | (simp; omega))), (by rw [hsn]; exact hS.pick [0, 1, 2, 3] rfl rfl), (by omega), (by first | rfl | (rw [hsn, List.length_append, ← hq]; rfl) | (rw [hsn]; exact hq))⟩
    try (exfalso; first | with_reducible exact absurd hc0 Bool.false_ne_true | with_reducible exact absurd hc0.symm Bool.false_ne_true | (simp only [nrm] at hc0; omega) | (simp at hc0; done))
    all_goals
     try simp only [nrm] at hc0
     refine wp_exit ?_
     refine then_x ?_; clear hK5 K5
     refine then_x ?_
     refine inb_x ?_
     refine then_n (hK3 _ _ ?_); clear hK3 K3
     refine wp_seq_k ?_; intro K9 hK9
     obtain rfl : k = m := by omega
     have hmk := keepL_le node ls
     rw [List.take_of_length_le (by omega)] at hS hq
     have hcp := row_cap (hS.rowOk 0 rfl) (by omega)
     refine wlit ?_
     refine wl_v (x_fa 1 Try.underlying40 rfl rfl ts_22 (tmP rfl rfl)) ?_
     first
      | refine wl_v (x_load Try.underlying22 rfl (tmP rfl rfl) (cellB hS.ok 2 rfl rfl)) ?_
      | refine wl_v (x_load Try.underlying22 rfl (tmP rfl rfl) (cellB hS.ok 2 rfl (getm (by omega)))) ?_
     refine wl_v (x_len Try.underlying22 (tmS rfl rfl)) ?_
     refine wl_v (x_move (tmS rfl rfl)) ?_
     refine wl_v (x_len Try.underlying22 (tmS rfl rfl)) ?_
     first
      | refine wl_v (x_subN (tmI rfl rfl) (tmI rfl rfl) (fit_i64 (by omega)) (by omega)) ?_
      | refine wl_v (x_subI (tmI rfl rfl) (tmI rfl rfl) (IntWalk.i64_in _ (by omega))) ?_
      | refine wl_v (x_sub (tmI rfl rfl) (tmI rfl rfl)) ?_
     refine wl_v (x_assign (tmI rfl rfl)) ?_
     refine wl_nil ?_
     refine then_n (hK9 _ _ ?_); clear hK9 K9
     refine wp_seq_k ?_; intro K10 hK10
     refine wlit ?_
     refine wl_v (x_fa 0 Try.underlying40 rfl rfl ts_3 (tmP rfl rfl)) ?_
     first
      | refine wl_v (x_load Try.underlying3 rfl (tmP rfl rfl) (cellB hS.ok 2 rfl rfl)) ?_
      | refine wl_v (x_load Try.underlying3 rfl (tmP rfl rfl) (cellB hS.ok 2 rfl (getm (by omega)))) ?_
     refine wl_v (x_move (tmS rfl rfl)) ?_
     refine wl_v (x_fa 2 Try.underlying40 rfl rfl ts_3 (tmP rfl rfl)) ?_
     first
      | refine wl_v (x_load Try.underlying3 rfl (tmP rfl rfl) (cellB hS.ok 2 rfl rfl)) ?_
      | refine wl_v (x_load Try.underlying3 rfl (tmP rfl rfl) (cellB hS.ok 2 rfl (getm (by omega)))) ?_
     refine wl_v (x_move (tmI rfl rfl)) ?_
     first
      | refine wl_v (x_addN (tmI rfl rfl) (tmI rfl rfl) (fit_i64 (by omega))) ?_
      | refine wl_v (x_addI (tmI rfl rfl) (tmI rfl rfl) (IntWalk.i64_in _ (by omega))) ?_
      | refine wl_v (x_add (tmI rfl rfl) (tmI rfl rfl)) ?_
     refine wl_v (x_build (bc_take (tmI rfl rfl) <| bc_take (tmS rfl rfl) <| bc_take (tmI rfl rfl) <| bc_nil) (by kernel_rfl)) ?_
     refine wl_v (x_move (tmI rfl rfl)) ?_
     refine wl_e rfl ?_; intro K hK
     refine ow_storeA hS 1 rfl ts_40 (tmP rfl rfl) (tmA rfl rfl) rfl rfl rfl ?_
     clear hS; intro w hS
     try replace hS := St.nm (M' := [.row _ _ _ _ _, .blk _ _ [_, _, _], .blk _ _ [_, _, _], .vw _ _]) hS rfl
     refine hK _ _ ?_; clear hK K
     refine wl_v (x_assign (tmI rfl rfl)) ?_
     refine wl_nil ?_
     refine then_n (hK10 _ _ ?_); clear hK10 K10
     refine wp_ret ?_
     refine ret2 rfl (.cell rfl rfl (load_rowB (cs := [_, _, _]) hS.ok 1 rfl Try.underlying40 rfl ts_40 rfl)) (.tmp rfl (show _ = Value.int _ _ from rfl)) ?_
     refine ⟨A', q, c', k - q, hq, by omega, ?_, hcp, hS.new 0 rfl rfl, hS.kp⟩
     rfl
theorem rangeW {w : World} {M : List Ent} (hok : ∀ x ∈ M, x.ok w) {b p o : Nat} {xs cs : List Value} (i : Nat) (hM : M[i]? = some (.vw (some ⟨b, p, none⟩) xs)) (hv : (xs.drop o).take cs.length = cs) : w.rangeAt b (p + o) cs := by
  intro j v hj
  have hl : j < cs.length := by
    rcases Nat.lt_or_ge j cs.length with h1 | h1
    · exact h1
    · rw [List.getElem?_eq_none h1] at hj; cases hj
  rw [← hv, List.getElem?_take, if_pos hl, List.getElem?_drop] at hj
  rw [Nat.add_assoc]
  exact cellV hok i hM hj
theorem cutL_strip {ls rl : List GLt} (k : Nat) (h : ls.map strip = rl.map strip) : (cutL ls k).map strip = (cutL rl k).map strip := by
  unfold cutL
  rw [List.map_append, List.map_append, List.map_take, List.map_drop, List.map_take, List.map_drop, h]
theorem Aws.left {w : World} {M N : List Ent} {ls : List GLt} (h : Aws w (blks (M ++ N)) ls) : Aws w (blks M) ls := h.few fun b hb => by
  rw [blks_append]
  exact List.mem_append_left _ hb
theorem AwsT.use {w w' : World} {M M' N : List Ent} {ls ls' : List GLt} (hA : AwsT (blks M) w w' M' ls ls') (h : Aws w (blks (M ++ N)) ls) (hok : ∀ e ∈ N, e.ok w) : Aws w' (blks (M' ++ N)) ls' := by
  rw [blks_append] at h ⊢
  refine hA _ (fun b hb => ?_) h
  obtain ⟨e, he, heb⟩ := mem_blks hb
  exact Ent.ok_lt (hok e he) heb
theorem strip_len {ls rl : List GLt} {n : Nat} (h : ls.map strip = rl.map strip) (hr : ∀ r ∈ rl, r.b.l.length ≤ n) : ∀ r ∈ ls, r.b.l.length ≤ n := fun r hr' => by
  have h1 : strip r ∈ rl.map strip := by rw [← h]; exact List.mem_map_of_mem hr'
  obtain ⟨y, hy, he⟩ := List.mem_map.1 h1
  have h2 : y.b.l = r.b.l := congrArg (fun s => s.2.2) he
  rw [← h2]
  exact hr y hy
theorem send_same {most : Int} {ls ls2 rl rl2 : List GLt} {lost lost2 lost3 : Nat} {s : Sp} {x : GLt} {z z2 : Int} (h : SendP most (ls.map strip) lost s (ls2.map strip) lost2 z) (k : RSendP most rl lost x rl2 lost3 z2) (hls : ls.map strip = rl.map strip) (hs : s = strip x) :
    ls2.map strip = rl2.map strip ∧ lost2 = lost3 ∧ z = z2 ∧ lost2 + rl2.length ≤ lost + rl.length + 1 ∧ rl2.length ≤ rl.length + 1 ∧ ∀ r ∈ rl2, r ∈ rl ∨ r = x := by
  have hl : ls.length = rl.length := by simpa using congrArg List.length hls
  subst hs
  unfold SendP at h
  unfold RSendP at k
  rw [List.length_map, hl, hls] at h
  rcases h with ⟨h1, h2, h3, h4⟩ | ⟨h1, h2, h3, h4⟩ <;> rcases k with ⟨k1, k2, k3, k4⟩ | ⟨k1, k2, k3, k4⟩
  · refine ⟨by rw [h2, k2, List.map_append]; rfl, by omega, by omega, ?_, ?_, ?_⟩
    · rw [k2, List.length_append, List.length_singleton]; omega
    · rw [k2, List.length_append, List.length_singleton]; omega
    · rw [k2]; intro r hr
      rcases List.mem_append.1 hr with hr | hr
      · exact .inl hr
      · exact .inr (List.mem_singleton.1 hr)
  · exact absurd h1 k1
  · exact absurd k1 h1
  · refine ⟨by rw [h2, k2], by omega, by omega, by rw [k2]; omega, by rw [k2]; omega, ?_⟩
    rw [k2]; exact fun r hr => .inl hr
end Go.Proofs.Ytijeegfmfpamkaa
