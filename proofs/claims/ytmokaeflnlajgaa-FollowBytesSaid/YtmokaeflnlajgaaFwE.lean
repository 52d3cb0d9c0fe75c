
/- follow: the reference's Bytes; is, light, to. Conditions: bounds. -/
import Derived.Test.YtmokaeflnlajgaaFwD
namespace Go.Proofs.Ytmokaeflnlajgaa
open Go.ChangeShapes Go.WideShapes Go.ChangeAt Go.RowKit
theorem St.torow {F : List Nat} {w0 w : World} {M : List Ent} (h : St F w0 M w) (i : Nat) {g : Nat} {e : TypeId} {l : List Value} (n s : Nat) (hM : M[i]? = some (.blk g e l)) (hl : l.length = n * s) (hn : n ≤ maxLen) : St F w0 (M.set i (.row (.slice (some ⟨g, 0, none⟩) n n) e s n l)) w := by
  have hA : Arr w g e l := h.ok _ (mem_of_get hM)
  refine h.set_ hM rfl (Kp.refl _ _) ?_ rfl fun g' hg => .inl hg
  exact ⟨hl, .inr ⟨g, n, l.toArray, rfl, Nat.zero_le _, hA, Nat.le_refl _, hn, by simpa using hl, by rw [← hl]; simp⟩⟩
set_option maxRecDepth 100000 in
set_option maxHeartbeats 8000000 in
theorem rfbytes_c (kn num : Nat) (L : Option Addr) (n c : Nat) (rows : List Row3) (w0 : World) (hv : View w0 w0.heap.size L (rows.map rowV)) (hV : Vws w0 rows) (hl : rows.length = n) (hf : frP (kn : Int) rows) (hnum : num ≤ 18446744073709551615) (hsum : (fbody rows).length ≤ 100000) :
    Calls Try.prog 13 #[.agg (fmV (kn : Int) num L n c).toArray] w0 fun e w' => ∃ G m cg, e = .returned (.slice G m cg) ∧ m = (fenc kn num rows n).length ∧ m ≤ cg ∧ New w0 w' (.row (.slice G m cg) 5 1 m ((fenc kn num rows n).map u8v)) ∧ Kp [] w0 w' := by
  have hc := hf.2
  rw [cntP_iff, hl] at hc
  have hkn : kn ≤ 3 := by omega
  have hn16 : n ≤ 16 := by omega
  have hb1 : be kn 1 = [kn] := by simp [be]; omega
  have hb2 : be n 1 = [n] := by simp [be]; omega
  have hf0 : (fenc kn num rows 0).map u8v = ([Value.int .u8 (kn : Int)] ++ (be num 8).map u8v) ++ [Value.int .u8 (n : Int)] := by simp [fenc, fhd, hb1, hb2, hl, fbody, u8v]
  have hS := (St.sv w0).vcons rfl hv
  refine ent (n := 43) Try.func13 rfl rfl ?_
  refine wp_seq_k ?_; intro K1 hK1
  refine wlit ?_
  refine wl_e rfl ?_; intro K hK
  refine ow_box hS (tmA rfl rfl) rfl ?_
  clear hS; intro g0_0 w hg0_0 hS
  refine hK _ _ ?_; clear hK K
  refine wl_v (x_assign ev_c) ?_
  refine wl_nil ?_
  refine then_n (hK1 _ _ ?_); clear hK1 K1
  refine wp_seq_k ?_; intro K2 hK2
  refine cutc [3, 5, 6, 7, 8, 9, 10, 11, 12, 13, 14, 15, 16, 17, 18] (fun g w => ∃ (G : Option Addr), ∃ (m cg : Nat), g 3 = .slice G m cg ∧ St [] w0 [.row (.slice G m cg) 5 1 m ((fenc kn num rows 0).map u8v), .blk g0_0 25 (fmV (kn : Int) num L n c), .vw L (rows.map rowV)] w ∧ ((fenc kn num rows 0).length = m)) ?_ ?_
  · skip
    refine rg_startk 0 hS mixed_ ?_
    clear hS; intro w hS
    refine rg_take 0 rfl rfl (by kernel_rfl) (by kernel_rfl) (by kernel_rfl) (want_0) (fun w hok => x_fa 0 Try.underlying25 rfl rfl ts_3 (tmP rfl rfl)) ?_
    first
     | refine rg_take 1 rfl rfl (by kernel_rfl) (by kernel_rfl) (by kernel_rfl) (want_0) (fun w hok => x_load Try.underlying3 rfl (tmP rfl rfl) (cellB hok 0 rfl rfl)) ?_
     | refine rg_take 1 rfl rfl (by kernel_rfl) (by kernel_rfl) (by kernel_rfl) (want_0) (fun w hok => x_load Try.underlying3 rfl (tmP rfl rfl) (cellB hok 0 rfl (getm (by omega)))) ?_
    first
     | refine rg_take 2 rfl rfl (by kernel_rfl) (by kernel_rfl) (by kernel_rfl) (want_0) (fun w hok => x_convN Try.underlying3 Try.underlying5 (tmI rfl rfl) (fit_u8 (by omega))) ?_
     | refine rg_take 2 rfl rfl (by kernel_rfl) (by kernel_rfl) (by kernel_rfl) (want_0) (fun w hok => x_convU Try.underlying3 Try.underlying5 (tmI rfl rfl) rfl) ?_
     | refine rg_take 2 rfl rfl (by kernel_rfl) (by kernel_rfl) (by kernel_rfl) (want_0) (fun w hok => x_conv Try.underlying3 Try.underlying5 (tmI rfl rfl)) ?_
    refine rg_take 4 rfl rfl (by kernel_rfl) (by kernel_rfl) (by kernel_rfl) (want_0) (fun w hok => x_fa 1 Try.underlying25 rfl rfl ts_22 (tmP rfl rfl)) ?_
    first
     | refine rg_take 5 rfl rfl (by kernel_rfl) (by kernel_rfl) (by kernel_rfl) (want_0) (fun w hok => x_load Try.underlying22 rfl (tmP rfl rfl) (cellB hok 0 rfl rfl)) ?_
     | refine rg_take 5 rfl rfl (by kernel_rfl) (by kernel_rfl) (by kernel_rfl) (want_0) (fun w hok => x_load Try.underlying22 rfl (tmP rfl rfl) (cellB hok 0 rfl (getm (by omega)))) ?_
    refine rg_take 8 rfl rfl (by kernel_rfl) (by kernel_rfl) (by kernel_rfl) (want_0) (fun w hok => x_fa 2 Try.underlying25 rfl rfl ts_23 (tmP rfl rfl)) ?_
    first
     | refine rg_take 9 rfl rfl (by kernel_rfl) (by kernel_rfl) (by kernel_rfl) (want_0) (fun w hok => x_load Try.underlying23 rfl (tmP rfl rfl) (cellB hok 0 rfl rfl)) ?_
     | refine rg_take 9 rfl rfl (by kernel_rfl) (by kernel_rfl) (by kernel_rfl) (want_0) (fun w hok => x_load Try.underlying23 rfl (tmP rfl rfl) (cellB hok 0 rfl (getm (by omega)))) ?_
    refine rg_take 10 rfl rfl (by kernel_rfl) (by kernel_rfl) (by kernel_rfl) (want_0) (fun w hok => x_len Try.underlying23 (tmS rfl rfl)) ?_
    first
     | refine rg_take 11 rfl rfl (by kernel_rfl) (by kernel_rfl) (by kernel_rfl) (want_0) (fun w hok => x_convN Try.underlying3 Try.underlying5 (tmI rfl rfl) (fit_u8 (by omega))) ?_
     | refine rg_take 11 rfl rfl (by kernel_rfl) (by kernel_rfl) (by kernel_rfl) (want_0) (fun w hok => x_convU Try.underlying3 Try.underlying5 (tmI rfl rfl) rfl) ?_
     | refine rg_take 11 rfl rfl (by kernel_rfl) (by kernel_rfl) (by kernel_rfl) (want_0) (fun w hok => x_conv Try.underlying3 Try.underlying5 (tmI rfl rfl)) ?_
    refine rg_step3 3 6 12 rfl rfl rfl (by kernel_rfl) (want_0) (want_0) (want_0) (oks_drop hS 0 rfl) ?_ ?_ ?_
    · intro K hK
      refine ow_build hS Try.underlying26 tz_5 (bc_take (tmI rfl rfl) <| bc_nil) rfl rfl (by kernel_rfl) ?_
      clear hS; intro g1_3 w hg1_3 hS
      refine hK _ _ ?_; clear hK K
      refine rg_step2 6 12 rfl rfl (by kernel_rfl) (want_0) (want_0) (oks_drop hS 1 rfl) ?_ ?_
      · intro K hK
        refine ow_call Try.func25 rfl rfl (evs_cons (tmI rfl rfl) <| evs_cons (ev_cN 8) <| evs_nil) (rbytes_c num 8 _ hnum (by omega)) ?_
        rintro e w ⟨ga, rfl, hn, hk⟩
        refine ⟨_, rfl, ?_⟩
        replace hS := hS.add hk hn -- +rowa
        clear hn hk
        refine hK _ _ ?_; clear hK K
        refine rg_step2 7 12 rfl rfl (by kernel_rfl) (want_0) (want_0) (oks_drop hS 2 rfl) ?_ ?_
        · intro K hK
          refine ow_appendV (hS.torow 1 1 1 rfl rfl (by decide)) 1 rfl (viewR hS.ok 0 rfl) Try.underlying26 tz_5 rfl (tmS rfl rfl) (tmS rfl rfl) (u8v_one _) ⟨by decide, by simp [be_length]⟩ (by simp only [maxLen]; omega) (by omega) ?_
          clear hS; intro g17 c17 w hA17 hC17 hS
          refine hK _ _ ?_; clear hK K
          refine rg_step 12 rfl (by kernel_rfl) (want_0) (oks_drop hS 2 rfl) ?_; intro K hK
          refine ow_build hS Try.underlying26 tz_5 (bc_take (tmI rfl rfl) <| bc_nil) rfl rfl (by kernel_rfl) ?_
          clear hS; intro g1_12 w hg1_12 hS
          refine hK _ _ ?_; clear hK K
          refine rg_step 13 rfl (by kernel_rfl) (want_0) (oks_drop hS 3 rfl) ?_; intro K hK
          refine ow_appendV hS 2 rfl (viewB hS.ok 0 rfl) Try.underlying26 tz_5 rfl (tmS rfl rfl) (tmS rfl rfl) (by intro u hu; obtain rfl := List.mem_singleton.1 hu; rfl) ⟨by decide, by rfl⟩ (by simp only [maxLen]; omega) (by omega) ?_
          clear hS; intro g113 c113 w hA113 hC113 hS
          refine hK _ _ ?_; clear hK K
          refine rg_take 14 rfl rfl (by kernel_rfl) (by kernel_rfl) (by kernel_rfl) (want_0) (fun w hok => x_assign (tmS rfl rfl)) ?_
          refine rg_done (oks_drop hS 3 rfl) (by kernel_rfl) ?_
          exact then_n ⟨_, rfl, (by repeat (first | exact agree_self | exact agree_refl | refine agree_upd rfl ?_ | refine agree_mix rfl ?_)), _, _, _, (by first | rfl | go_num | exact congrArg (Value.int _) (by first | omega | (simp; done) | (simp; omega))), (by rw [hf0]; exact hS.pick [2, 3, 4] rfl rfl), (by simp [fenc, fhd, be_length, fbody])⟩
        · intro K hK
          refine ow_build hS Try.underlying26 tz_5 (bc_take (tmI rfl rfl) <| bc_nil) rfl rfl (by kernel_rfl) ?_
          clear hS; intro g1_12 w hg1_12 hS
          refine hK _ _ ?_; clear hK K
          refine rg_step 7 rfl (by kernel_rfl) (want_0) (oks_drop hS 3 rfl) ?_; intro K hK
          refine ow_appendV (hS.torow 2 1 1 rfl rfl (by decide)) 2 rfl (viewR hS.ok 1 rfl) Try.underlying26 tz_5 rfl (tmS rfl rfl) (tmS rfl rfl) (u8v_one _) ⟨by decide, by simp [be_length]⟩ (by simp only [maxLen]; omega) (by omega) ?_
          clear hS; intro g17 c17 w hA17 hC17 hS
          refine hK _ _ ?_; clear hK K
          refine rg_step 13 rfl (by kernel_rfl) (want_0) (oks_drop hS 3 rfl) ?_; intro K hK
          refine ow_appendV hS 2 rfl (viewB hS.ok 0 rfl) Try.underlying26 tz_5 rfl (tmS rfl rfl) (tmS rfl rfl) (by intro u hu; obtain rfl := List.mem_singleton.1 hu; rfl) ⟨by decide, by rfl⟩ (by simp only [maxLen]; omega) (by omega) ?_
          clear hS; intro g113 c113 w hA113 hC113 hS
          refine hK _ _ ?_; clear hK K
          refine rg_take 14 rfl rfl (by kernel_rfl) (by kernel_rfl) (by kernel_rfl) (want_0) (fun w hok => x_assign (tmS rfl rfl)) ?_
          refine rg_done (oks_drop hS 3 rfl) (by kernel_rfl) ?_
          exact then_n ⟨_, rfl, (by repeat (first | exact agree_self | exact agree_refl | refine agree_upd rfl ?_ | refine agree_mix rfl ?_)), _, _, _, (by first | rfl | go_num | exact congrArg (Value.int _) (by first | omega | (simp; done) | (simp; omega))), (by rw [hf0]; exact hS.pick [2, 3, 4] rfl rfl), (by simp [fenc, fhd, be_length, fbody])⟩
      · intro K hK
        refine ow_build hS Try.underlying26 tz_5 (bc_take (tmI rfl rfl) <| bc_nil) rfl rfl (by kernel_rfl) ?_
        clear hS; intro g1_12 w hg1_12 hS
        refine hK _ _ ?_; clear hK K
        refine rg_step 6 rfl (by kernel_rfl) (want_0) (oks_drop hS 2 rfl) ?_; intro K hK
        refine ow_call Try.func25 rfl rfl (evs_cons (tmI rfl rfl) <| evs_cons (ev_cN 8) <| evs_nil) (rbytes_c num 8 _ hnum (by omega)) ?_
        rintro e w ⟨ga, rfl, hn, hk⟩
        refine ⟨_, rfl, ?_⟩
        replace hS := hS.add hk hn -- +rowa
        clear hn hk
        refine hK _ _ ?_; clear hK K
        refine rg_step 7 rfl (by kernel_rfl) (want_0) (oks_drop hS 3 rfl) ?_; intro K hK
        refine ow_appendV (hS.torow 2 1 1 rfl rfl (by decide)) 2 rfl (viewR hS.ok 0 rfl) Try.underlying26 tz_5 rfl (tmS rfl rfl) (tmS rfl rfl) (u8v_one _) ⟨by decide, by simp [be_length]⟩ (by simp only [maxLen]; omega) (by omega) ?_
        clear hS; intro g17 c17 w hA17 hC17 hS
        refine hK _ _ ?_; clear hK K
        refine rg_step 13 rfl (by kernel_rfl) (want_0) (oks_drop hS 3 rfl) ?_; intro K hK
        refine ow_appendV hS 2 rfl (viewB hS.ok 1 rfl) Try.underlying26 tz_5 rfl (tmS rfl rfl) (tmS rfl rfl) (by intro u hu; obtain rfl := List.mem_singleton.1 hu; rfl) ⟨by decide, by rfl⟩ (by simp only [maxLen]; omega) (by omega) ?_
        clear hS; intro g113 c113 w hA113 hC113 hS
        refine hK _ _ ?_; clear hK K
        refine rg_take 14 rfl rfl (by kernel_rfl) (by kernel_rfl) (by kernel_rfl) (want_0) (fun w hok => x_assign (tmS rfl rfl)) ?_
        refine rg_done (oks_drop hS 3 rfl) (by kernel_rfl) ?_
        exact then_n ⟨_, rfl, (by repeat (first | exact agree_self | exact agree_refl | refine agree_upd rfl ?_ | refine agree_mix rfl ?_)), _, _, _, (by first | rfl | go_num | exact congrArg (Value.int _) (by first | omega | (simp; done) | (simp; omega))), (by rw [hf0]; exact hS.pick [2, 3, 4] rfl rfl), (by simp [fenc, fhd, be_length, fbody])⟩
    · intro K hK
      refine ow_call Try.func25 rfl rfl (evs_cons (tmI rfl rfl) <| evs_cons (ev_cN 8) <| evs_nil) (rbytes_c num 8 _ hnum (by omega)) ?_
      rintro e w ⟨ga, rfl, hn, hk⟩
      refine ⟨_, rfl, ?_⟩
      replace hS := hS.add hk hn -- +rowa
      clear hn hk
      refine hK _ _ ?_; clear hK K
      refine rg_step2 3 12 rfl rfl (by kernel_rfl) (want_0) (want_0) (oks_drop hS 1 rfl) ?_ ?_
      · intro K hK
        refine ow_build hS Try.underlying26 tz_5 (bc_take (tmI rfl rfl) <| bc_nil) rfl rfl (by kernel_rfl) ?_
        clear hS; intro g1_3 w hg1_3 hS
        refine hK _ _ ?_; clear hK K
        refine rg_step2 7 12 rfl rfl (by kernel_rfl) (want_0) (want_0) (oks_drop hS 2 rfl) ?_ ?_
        · intro K hK
          refine ow_appendV (hS.torow 0 1 1 rfl rfl (by decide)) 0 rfl (viewR hS.ok 1 rfl) Try.underlying26 tz_5 rfl (tmS rfl rfl) (tmS rfl rfl) (u8v_one _) ⟨by decide, by simp [be_length]⟩ (by simp only [maxLen]; omega) (by omega) ?_
          clear hS; intro g17 c17 w hA17 hC17 hS
          refine hK _ _ ?_; clear hK K
          refine rg_step 12 rfl (by kernel_rfl) (want_0) (oks_drop hS 2 rfl) ?_; intro K hK
          refine ow_build hS Try.underlying26 tz_5 (bc_take (tmI rfl rfl) <| bc_nil) rfl rfl (by kernel_rfl) ?_
          clear hS; intro g1_12 w hg1_12 hS
          refine hK _ _ ?_; clear hK K
          refine rg_step 13 rfl (by kernel_rfl) (want_0) (oks_drop hS 3 rfl) ?_; intro K hK
          refine ow_appendV hS 1 rfl (viewB hS.ok 0 rfl) Try.underlying26 tz_5 rfl (tmS rfl rfl) (tmS rfl rfl) (by intro u hu; obtain rfl := List.mem_singleton.1 hu; rfl) ⟨by decide, by rfl⟩ (by simp only [maxLen]; omega) (by omega) ?_
          clear hS; intro g113 c113 w hA113 hC113 hS
          refine hK _ _ ?_; clear hK K
          refine rg_take 14 rfl rfl (by kernel_rfl) (by kernel_rfl) (by kernel_rfl) (want_0) (fun w hok => x_assign (tmS rfl rfl)) ?_
          refine rg_done (oks_drop hS 3 rfl) (by kernel_rfl) ?_
          exact then_n ⟨_, rfl, (by repeat (first | exact agree_self | exact agree_refl | refine agree_upd rfl ?_ | refine agree_mix rfl ?_)), _, _, _, (by first | rfl | go_num | exact congrArg (Value.int _) (by first | omega | (simp; done) | (simp; omega))), (by rw [hf0]; exact hS.pick [1, 3, 4] rfl rfl), (by simp [fenc, fhd, be_length, fbody])⟩
        · intro K hK
          refine ow_build hS Try.underlying26 tz_5 (bc_take (tmI rfl rfl) <| bc_nil) rfl rfl (by kernel_rfl) ?_
          clear hS; intro g1_12 w hg1_12 hS
          refine hK _ _ ?_; clear hK K
          refine rg_step 7 rfl (by kernel_rfl) (want_0) (oks_drop hS 3 rfl) ?_; intro K hK
          refine ow_appendV (hS.torow 1 1 1 rfl rfl (by decide)) 1 rfl (viewR hS.ok 2 rfl) Try.underlying26 tz_5 rfl (tmS rfl rfl) (tmS rfl rfl) (u8v_one _) ⟨by decide, by simp [be_length]⟩ (by simp only [maxLen]; omega) (by omega) ?_
          clear hS; intro g17 c17 w hA17 hC17 hS
          refine hK _ _ ?_; clear hK K
          refine rg_step 13 rfl (by kernel_rfl) (want_0) (oks_drop hS 3 rfl) ?_; intro K hK
          refine ow_appendV hS 1 rfl (viewB hS.ok 0 rfl) Try.underlying26 tz_5 rfl (tmS rfl rfl) (tmS rfl rfl) (by intro u hu; obtain rfl := List.mem_singleton.1 hu; rfl) ⟨by decide, by rfl⟩ (by simp only [maxLen]; omega) (by omega) ?_
          clear hS; intro g113 c113 w hA113 hC113 hS
          refine hK _ _ ?_; clear hK K
          refine rg_take 14 rfl rfl (by kernel_rfl) (by kernel_rfl) (by kernel_rfl) (want_0) (fun w hok => x_assign (tmS rfl rfl)) ?_
          refine rg_done (oks_drop hS 3 rfl) (by kernel_rfl) ?_
          exact then_n ⟨_, rfl, (by repeat (first | exact agree_self | exact agree_refl | refine agree_upd rfl ?_ | refine agree_mix rfl ?_)), _, _, _, (by first | rfl | go_num | exact congrArg (Value.int _) (by first | omega | (simp; done) | (simp; omega))), (by rw [hf0]; exact hS.pick [1, 3, 4] rfl rfl), (by simp [fenc, fhd, be_length, fbody])⟩
      · intro K hK
        refine ow_build hS Try.underlying26 tz_5 (bc_take (tmI rfl rfl) <| bc_nil) rfl rfl (by kernel_rfl) ?_
        clear hS; intro g1_12 w hg1_12 hS
        refine hK _ _ ?_; clear hK K
        refine rg_step 3 rfl (by kernel_rfl) (want_0) (oks_drop hS 2 rfl) ?_; intro K hK
        refine ow_build hS Try.underlying26 tz_5 (bc_take (tmI rfl rfl) <| bc_nil) rfl rfl (by kernel_rfl) ?_
        clear hS; intro g1_3 w hg1_3 hS
        refine hK _ _ ?_; clear hK K
        refine rg_step 7 rfl (by kernel_rfl) (want_0) (oks_drop hS 3 rfl) ?_; intro K hK
        refine ow_appendV (hS.torow 0 1 1 rfl rfl (by decide)) 0 rfl (viewR hS.ok 2 rfl) Try.underlying26 tz_5 rfl (tmS rfl rfl) (tmS rfl rfl) (u8v_one _) ⟨by decide, by simp [be_length]⟩ (by simp only [maxLen]; omega) (by omega) ?_
        clear hS; intro g17 c17 w hA17 hC17 hS
        refine hK _ _ ?_; clear hK K
        refine rg_step 13 rfl (by kernel_rfl) (want_0) (oks_drop hS 3 rfl) ?_; intro K hK
        refine ow_appendV hS 0 rfl (viewB hS.ok 1 rfl) Try.underlying26 tz_5 rfl (tmS rfl rfl) (tmS rfl rfl) (by intro u hu; obtain rfl := List.mem_singleton.1 hu; rfl) ⟨by decide, by rfl⟩ (by simp only [maxLen]; omega) (by omega) ?_
        clear hS; intro g113 c113 w hA113 hC113 hS
        refine hK _ _ ?_; clear hK K
        refine rg_take 14 rfl rfl (by kernel_rfl) (by kernel_rfl) (by kernel_rfl) (want_0) (fun w hok => x_assign (tmS rfl rfl)) ?_
        refine rg_done (oks_drop hS 3 rfl) (by kernel_rfl) ?_
        exact then_n ⟨_, rfl, (by repeat (first | exact agree_self | exact agree_refl | refine agree_upd rfl ?_ | refine agree_mix rfl ?_)), _, _, _, (by first | rfl | go_num | exact congrArg (Value.int _) (by first | omega | (simp; done) | (simp; omega))), (by rw [hf0]; exact hS.pick [0, 3, 4] rfl rfl), (by simp [fenc, fhd, be_length, fbody])⟩
    · intro K hK
      refine ow_build hS Try.underlying26 tz_5 (bc_take (tmI rfl rfl) <| bc_nil) rfl rfl (by kernel_rfl) ?_
      clear hS; intro g1_12 w hg1_12 hS
      refine hK _ _ ?_; clear hK K
      refine rg_step2 3 6 rfl rfl (by kernel_rfl) (want_0) (want_0) (oks_drop hS 1 rfl) ?_ ?_
      · intro K hK
        refine ow_build hS Try.underlying26 tz_5 (bc_take (tmI rfl rfl) <| bc_nil) rfl rfl (by kernel_rfl) ?_
        clear hS; intro g1_3 w hg1_3 hS
        refine hK _ _ ?_; clear hK K
        refine rg_step 6 rfl (by kernel_rfl) (want_0) (oks_drop hS 2 rfl) ?_; intro K hK
        refine ow_call Try.func25 rfl rfl (evs_cons (tmI rfl rfl) <| evs_cons (ev_cN 8) <| evs_nil) (rbytes_c num 8 _ hnum (by omega)) ?_
        rintro e w ⟨ga, rfl, hn, hk⟩
        refine ⟨_, rfl, ?_⟩
        replace hS := hS.add hk hn -- +rowa
        clear hn hk
        refine hK _ _ ?_; clear hK K
        refine rg_step 7 rfl (by kernel_rfl) (want_0) (oks_drop hS 3 rfl) ?_; intro K hK
        refine ow_appendV (hS.torow 1 1 1 rfl rfl (by decide)) 1 rfl (viewR hS.ok 0 rfl) Try.underlying26 tz_5 rfl (tmS rfl rfl) (tmS rfl rfl) (u8v_one _) ⟨by decide, by simp [be_length]⟩ (by simp only [maxLen]; omega) (by omega) ?_
        clear hS; intro g17 c17 w hA17 hC17 hS
        refine hK _ _ ?_; clear hK K
        refine rg_step 13 rfl (by kernel_rfl) (want_0) (oks_drop hS 3 rfl) ?_; intro K hK
        refine ow_appendV hS 1 rfl (viewB hS.ok 2 rfl) Try.underlying26 tz_5 rfl (tmS rfl rfl) (tmS rfl rfl) (by intro u hu; obtain rfl := List.mem_singleton.1 hu; rfl) ⟨by decide, by rfl⟩ (by simp only [maxLen]; omega) (by omega) ?_
        clear hS; intro g113 c113 w hA113 hC113 hS
        refine hK _ _ ?_; clear hK K
        refine rg_take 14 rfl rfl (by kernel_rfl) (by kernel_rfl) (by kernel_rfl) (want_0) (fun w hok => x_assign (tmS rfl rfl)) ?_
        refine rg_done (oks_drop hS 3 rfl) (by kernel_rfl) ?_
        exact then_n ⟨_, rfl, (by repeat (first | exact agree_self | exact agree_refl | refine agree_upd rfl ?_ | refine agree_mix rfl ?_)), _, _, _, (by first | rfl | go_num | exact congrArg (Value.int _) (by first | omega | (simp; done) | (simp; omega))), (by rw [hf0]; exact hS.pick [1, 3, 4] rfl rfl), (by simp [fenc, fhd, be_length, fbody])⟩
      · intro K hK
        refine ow_call Try.func25 rfl rfl (evs_cons (tmI rfl rfl) <| evs_cons (ev_cN 8) <| evs_nil) (rbytes_c num 8 _ hnum (by omega)) ?_
        rintro e w ⟨ga, rfl, hn, hk⟩
        refine ⟨_, rfl, ?_⟩
        replace hS := hS.add hk hn -- +rowa
        clear hn hk
        refine hK _ _ ?_; clear hK K
        refine rg_step 3 rfl (by kernel_rfl) (want_0) (oks_drop hS 2 rfl) ?_; intro K hK
        refine ow_build hS Try.underlying26 tz_5 (bc_take (tmI rfl rfl) <| bc_nil) rfl rfl (by kernel_rfl) ?_
        clear hS; intro g1_3 w hg1_3 hS
        refine hK _ _ ?_; clear hK K
        refine rg_step 7 rfl (by kernel_rfl) (want_0) (oks_drop hS 3 rfl) ?_; intro K hK
        refine ow_appendV (hS.torow 0 1 1 rfl rfl (by decide)) 0 rfl (viewR hS.ok 1 rfl) Try.underlying26 tz_5 rfl (tmS rfl rfl) (tmS rfl rfl) (u8v_one _) ⟨by decide, by simp [be_length]⟩ (by simp only [maxLen]; omega) (by omega) ?_
        clear hS; intro g17 c17 w hA17 hC17 hS
        refine hK _ _ ?_; clear hK K
        refine rg_step 13 rfl (by kernel_rfl) (want_0) (oks_drop hS 3 rfl) ?_; intro K hK
        refine ow_appendV hS 0 rfl (viewB hS.ok 2 rfl) Try.underlying26 tz_5 rfl (tmS rfl rfl) (tmS rfl rfl) (by intro u hu; obtain rfl := List.mem_singleton.1 hu; rfl) ⟨by decide, by rfl⟩ (by simp only [maxLen]; omega) (by omega) ?_
        clear hS; intro g113 c113 w hA113 hC113 hS
        refine hK _ _ ?_; clear hK K
        refine rg_take 14 rfl rfl (by kernel_rfl) (by kernel_rfl) (by kernel_rfl) (want_0) (fun w hok => x_assign (tmS rfl rfl)) ?_
        refine rg_done (oks_drop hS 3 rfl) (by kernel_rfl) ?_
        exact then_n ⟨_, rfl, (by repeat (first | exact agree_self | exact agree_refl | refine agree_upd rfl ?_ | refine agree_mix rfl ?_)), _, _, _, (by first | rfl | go_num | exact congrArg (Value.int _) (by first | omega | (simp; done) | (simp; omega))), (by rw [hf0]; exact hS.pick [0, 3, 4] rfl rfl), (by simp [fenc, fhd, be_length, fbody])⟩
  · clear hS; intro g w hI
    obtain ⟨G, m, cg, hs3, hS, hm0⟩ := hI
    refine fr_knowQ (d := 3) hs3 ?_; clear hs3
    refine then_n (hK2 _ _ ?_); clear hK2 K2
    refine wp_seq_k ?_; intro K4 hK4
    refine wp_seq_k ?_; intro K5 hK5
    refine wlit ?_
    refine wl_v (x_assign (ev_cN 0)) ?_
    refine wl_nil ?_
    refine then_n (hK5 _ _ ?_); clear hK5 K5
    refine wp_block ?_
    refine lp [3, 4, 19, 20, 21, 22, 23, 24, 25, 26, 27, 28, 29, 30, 31, 32, 33, 34, 35, 36, 37, 38, 39, 40, 41] (fun mz g w => ∃ (k : Nat), ∃ (G : Option Addr), ∃ (m cg : Nat), mz = n - k ∧ g 4 = .int .i64 (k : Int) ∧ g 3 = .slice G m cg ∧ St [] w0 [.row (.slice G m cg) 5 1 m ((fenc kn num rows k).map u8v), .blk g0_0 25 (fmV (kn : Int) num L n c), .vw L (rows.map rowV)] w ∧ (k ≤ n) ∧ ((fenc kn num rows k).length = m)) ?_ ?_
    · exact ⟨_, 0, _, _, _, rfl, (by first | rfl | go_num | exact congrArg (Value.int _) (by first | omega | (simp; done) | (simp; omega))), (by first | rfl | go_num | exact congrArg (Value.int _) (by first | omega | (simp; done) | (simp; omega))), hS, (by omega), (by first | (rw [fenc_snoc _ _ _ _ (by omega), List.length_append, List.length_append, be_length]; omega) | exact hm0)⟩
    · clear hS; intro mz g w hI
      obtain ⟨k, G, m, cg, rfl, hs4, hs3, hS, hk, hm⟩ := hI
      refine fr_know (d := 4) hs4 ?_; clear hs4
      refine fr_know (d := 3) hs3 ?_; clear hs3
      refine wp_seq_k ?_; intro K6 hK6
      refine wp_seq_k ?_; intro K7 hK7
      refine wlit ?_
      refine wl_v (x_move (tmI rfl rfl)) ?_
      refine wl_v (x_fa 2 Try.underlying25 rfl rfl ts_23 (tmP rfl rfl)) ?_
      first
       | refine wl_v (x_load Try.underlying23 rfl (tmP rfl rfl) (cellB hS.ok 1 rfl rfl)) ?_
       | refine wl_v (x_load Try.underlying23 rfl (tmP rfl rfl) (cellB hS.ok 1 rfl (getm (by omega)))) ?_
      refine wl_v (x_len Try.underlying23 (tmS rfl rfl)) ?_
      refine wl_v (x_lss (tmI rfl rfl) (tmI rfl rfl)) ?_
      refine wl_nil ?_
      refine then_n (hK7 _ _ ?_); clear hK7 K7
      refine cnd (tm rfl) (fun hc0 => ?_) (fun hc0 => ?_)
      · try (exfalso; first | with_reducible exact absurd hc0 Bool.false_ne_true | with_reducible exact absurd hc0.symm Bool.false_ne_true | (simp only [nrm] at hc0; omega) | (simp at hc0; done))
        all_goals
         try simp only [nrm] at hc0
         refine wp_skip ?_
         refine then_n (hK6 _ _ ?_); clear hK6 K6
         refine wp_seq_k ?_; intro K8 hK8
         refine wp_block ?_
         obtain ⟨b4, o4, rfl⟩ := view_some (viewV hS.ok 2 rfl) (by rw [List.length_map]; omega)
         have hxl := hf.1 _ (frow_mem (rows := rows) (k := k) (by omega))
         have hmle := fenc_le kn num rows k
         have hmle2 := fenc_le kn num rows (k + 1)
         rw [fenc_snoc _ _ _ _ (by omega), List.length_append, List.length_append, be_length] at hmle2
         refine rg_startk 1 hS mixed_ ?_
         clear hS; intro w hS
         refine rg_take 0 rfl rfl (by kernel_rfl) (by kernel_rfl) (by kernel_rfl) (want_0) (fun w hok => x_move (tmS rfl rfl)) ?_
         refine rg_take 1 rfl rfl (by kernel_rfl) (by kernel_rfl) (by kernel_rfl) (want_0) (fun w hok => x_fa 2 Try.underlying25 rfl rfl ts_23 (tmP rfl rfl)) ?_
         first
          | refine rg_take 2 rfl rfl (by kernel_rfl) (by kernel_rfl) (by kernel_rfl) (want_0) (fun w hok => x_load Try.underlying23 rfl (tmP rfl rfl) (cellB hok 0 rfl rfl)) ?_
          | refine rg_take 2 rfl rfl (by kernel_rfl) (by kernel_rfl) (by kernel_rfl) (want_0) (fun w hok => x_load Try.underlying23 rfl (tmP rfl rfl) (cellB hok 0 rfl (getm (by omega)))) ?_
         refine rg_take 3 rfl rfl (by kernel_rfl) (by kernel_rfl) (by kernel_rfl) (want_0) (fun w hok => x_move (tmI rfl rfl)) ?_
         refine rg_take 4 rfl rfl (by kernel_rfl) (by kernel_rfl) (by kernel_rfl) (want_0) (fun w hok => x_ixs1 Try.underlying23 ts_26 (tmS rfl rfl) (tmI rfl rfl) (by omega)) ?_
         refine rg_take 5 rfl rfl (by kernel_rfl) (by kernel_rfl) (by kernel_rfl) (want_0) (fun w hok => x_load (v := .slice (rows.getD k default).1 (rows.getD k default).2.1.length (rows.getD k default).2.2) Try.underlying26 rfl (tmP rfl rfl) (cellV hok 1 rfl (frow_at (by omega)))) ?_
         refine rg_take 6 rfl rfl (by kernel_rfl) (by kernel_rfl) (by kernel_rfl) (want_0) (fun w hok => x_len Try.underlying26 (tmS rfl rfl)) ?_
         first
          | refine rg_take 7 rfl rfl (by kernel_rfl) (by kernel_rfl) (by kernel_rfl) (want_0) (fun w hok => x_convN Try.underlying3 Try.underlying22 (tmI rfl rfl) (fit_u64 (by omega))) ?_
          | refine rg_take 7 rfl rfl (by kernel_rfl) (by kernel_rfl) (by kernel_rfl) (want_0) (fun w hok => x_convU Try.underlying3 Try.underlying22 (tmI rfl rfl) rfl) ?_
          | refine rg_take 7 rfl rfl (by kernel_rfl) (by kernel_rfl) (by kernel_rfl) (want_0) (fun w hok => x_conv Try.underlying3 Try.underlying22 (tmI rfl rfl)) ?_
         refine rg_take 10 rfl rfl (by kernel_rfl) (by kernel_rfl) (by kernel_rfl) (want_0) (fun w hok => x_fa 2 Try.underlying25 rfl rfl ts_23 (tmP rfl rfl)) ?_
         first
          | refine rg_take 11 rfl rfl (by kernel_rfl) (by kernel_rfl) (by kernel_rfl) (want_0) (fun w hok => x_load Try.underlying23 rfl (tmP rfl rfl) (cellB hok 0 rfl rfl)) ?_
          | refine rg_take 11 rfl rfl (by kernel_rfl) (by kernel_rfl) (by kernel_rfl) (want_0) (fun w hok => x_load Try.underlying23 rfl (tmP rfl rfl) (cellB hok 0 rfl (getm (by omega)))) ?_
         refine rg_take 12 rfl rfl (by kernel_rfl) (by kernel_rfl) (by kernel_rfl) (want_0) (fun w hok => x_move (tmI rfl rfl)) ?_
         refine rg_take 13 rfl rfl (by kernel_rfl) (by kernel_rfl) (by kernel_rfl) (want_0) (fun w hok => x_ixs1 Try.underlying23 ts_26 (tmS rfl rfl) (tmI rfl rfl) (by omega)) ?_
         refine rg_take 14 rfl rfl (by kernel_rfl) (by kernel_rfl) (by kernel_rfl) (want_0) (fun w hok => x_load (v := .slice (rows.getD k default).1 (rows.getD k default).2.1.length (rows.getD k default).2.2) Try.underlying26 rfl (tmP rfl rfl) (cellV hok 1 rfl (frow_at (by omega)))) ?_
         refine rg_step 8 rfl (by kernel_rfl) (want_0) (oks_drop hS 1 rfl) ?_; intro K hK
         refine ow_call Try.func25 rfl rfl (evs_cons (tmI rfl rfl) <| evs_cons (ev_cN 2) <| evs_nil) (rbytes_c (rows.getD k default).2.1.length 2 _ (by omega) (by omega)) ?_
         rintro e w ⟨gd, rfl, hn, hk2⟩
         refine ⟨_, rfl, ?_⟩
         replace hS := hS.add hk2 hn -- +rowd
         clear hn hk2
         refine hK _ _ ?_; clear hK K
         refine rg_step 9 rfl (by kernel_rfl) (want_0) (oks_drop hS 2 rfl) ?_; intro K hK
         refine ow_appendV hS 1 rfl (viewR hS.ok 0 rfl) Try.underlying26 tz_5 rfl (tmS rfl rfl) (tmS rfl rfl) (u8v_one _) ⟨by decide, by simp [be_length]⟩ (by simp only [maxLen]; omega) (by omega) ?_
         clear hS; intro gy cy w hAy hCy hS
         refine hK _ _ ?_; clear hK K
         refine rg_step 15 rfl (by kernel_rfl) (want_0) (oks_drop hS 2 rfl) ?_; intro K hK
         refine ow_appendV hS 1 rfl ((hV.kept hS.kp) _ (frow_mem (by omega))) Try.underlying26 tz_5 rfl (tmS rfl rfl) (tmS rfl rfl) (u8v_one _) ⟨by decide, by rw [List.length_map, Nat.mul_one]⟩ (by simp only [maxLen]; omega) (by omega) ?_
         clear hS; intro gz cz w hAz hCz hS
         refine hK _ _ ?_; clear hK K
         refine rg_take 16 rfl rfl (by kernel_rfl) (by kernel_rfl) (by kernel_rfl) (want_0) (fun w hok => x_assign (tmS rfl rfl)) ?_
         refine rg_done (oks_drop hS 2 rfl) (by kernel_rfl) ?_
         refine inb_n ?_
         refine then_n (hK8 _ _ ?_); clear hK8 K8
         refine wlit ?_
         refine wl_v (x_move (tmI rfl rfl)) ?_
         first
          | refine wl_v (x_addN (tmI rfl rfl) (ev_cN 1) (fit_i64 (by omega))) ?_
          | refine wl_v (x_addI (tmI rfl rfl) (ev_cN 1) (IntWalk.i64_in _ (by omega))) ?_
          | refine wl_v (x_add (tmI rfl rfl) (ev_cN 1)) ?_
         refine wl_v (x_assign (tmI rfl rfl)) ?_
         refine wl_nil ?_
         exact then_n ⟨_, _, rfl, (by show _ < _; omega), (by repeat (first | exact agree_self | exact agree_refl | refine agree_upd rfl ?_ | refine agree_mix rfl ?_)), k + 1, _, _, _, rfl, (by first | rfl | go_num | exact congrArg (Value.int _) (by first | omega | (simp; done) | (simp; omega))), (by first | rfl | go_num | exact congrArg (Value.int _) (by first | omega | (simp; done) | (simp; omega))), (by rw [fenc_snoc _ _ _ _ (by omega), List.map_append, List.map_append]; exact hS.pick [1, 2, 3] rfl rfl), (by omega), (by first | (rw [fenc_snoc _ _ _ _ (by omega), List.length_append, List.length_append, be_length]; omega) | exact hm0)⟩
      try (exfalso; first | with_reducible exact absurd hc0 Bool.false_ne_true | with_reducible exact absurd hc0.symm Bool.false_ne_true | (simp only [nrm] at hc0; omega) | (simp at hc0; done))
      all_goals
       try simp only [nrm] at hc0
       refine wp_exit ?_
       refine then_x ?_; clear hK6 K6
       refine then_x ?_
       refine inb_x ?_
       refine then_n (hK4 _ _ ?_); clear hK4 K4
       refine wp_seq_k ?_; intro K9 hK9
       refine wlit ?_
       refine wl_v (x_move (tmS rfl rfl)) ?_
       refine wl_v (x_assign (tmS rfl rfl)) ?_
       refine wl_nil ?_
       refine then_n (hK9 _ _ ?_); clear hK9 K9
       refine wp_ret ?_
       refine ret1 rfl (.tmp rfl (show _ = Value.slice _ _ _ from rfl)) ?_
       obtain rfl : n = k := by omega
       exact ⟨G, m, cg, rfl, hm.symm, row_cap (hS.rowOk 0 rfl) (by decide), hS.new 0 rfl rfl, hS.kp⟩
set_option maxRecDepth 100000 in
set_option maxHeartbeats 8000000 in
theorem fto_c (kind : Int) (num : Nat) (L : Option Addr) (n c : Nat) (w0 : World) : Calls Try.prog 9 #[.agg (fmV kind num L n c).toArray] w0 fun e w' => e = .returned (.agg (fmV kind num L n c).toArray) ∧ Kp [] w0 w' := by
  have hS := St.sv w0
  refine ent (n := 10) Try.func9 rfl rfl ?_
  refine wp_seq_k ?_; intro K1 hK1
  refine wlit ?_
  refine wl_e rfl ?_; intro K hK
  refine ow_box hS (tmA rfl rfl) rfl ?_
  clear hS; intro g0_0 w hg0_0 hS
  refine hK _ _ ?_; clear hK K
  refine wl_e rfl ?_; intro K hK
  refine ow_alloc hS tz_29 rfl ?_
  clear hS; intro g0_1 w hg0_1 hS
  refine hK _ _ ?_; clear hK K
  refine wl_nil ?_
  refine then_n (hK1 _ _ ?_); clear hK1 K1
  refine wp_seq_k ?_; intro K2 hK2
  refine wlit ?_
  refine wl_v (x_fa 0 Try.underlying25 rfl rfl ts_3 (tmP rfl rfl)) ?_
  first
   | refine wl_v (x_load Try.underlying3 rfl (tmP rfl rfl) (cellB hS.ok 1 rfl rfl)) ?_
   | refine wl_v (x_load Try.underlying3 rfl (tmP rfl rfl) (cellB hS.ok 1 rfl (getm (by omega)))) ?_
  refine wl_v (x_fa 1 Try.underlying25 rfl rfl ts_22 (tmP rfl rfl)) ?_
  first
   | refine wl_v (x_load Try.underlying22 rfl (tmP rfl rfl) (cellB hS.ok 1 rfl rfl)) ?_
   | refine wl_v (x_load Try.underlying22 rfl (tmP rfl rfl) (cellB hS.ok 1 rfl (getm (by omega)))) ?_
  refine wl_v (x_fa 2 Try.underlying25 rfl rfl ts_23 (tmP rfl rfl)) ?_
  first
   | refine wl_v (x_load Try.underlying23 rfl (tmP rfl rfl) (cellB hS.ok 1 rfl rfl)) ?_
   | refine wl_v (x_load Try.underlying23 rfl (tmP rfl rfl) (cellB hS.ok 1 rfl (getm (by omega)))) ?_
  refine wl_v (x_build (bc_take (tmI rfl rfl) <| bc_take (tmI rfl rfl) <| bc_take (tmS rfl rfl) <| bc_nil) (by kernel_rfl)) ?_
  refine wl_e rfl ?_; intro K hK
  refine ow_storeA hS 0 rfl ts_29 (tmP rfl rfl) (tmA rfl rfl) rfl rfl rfl ?_
  clear hS; intro w hS
  try replace hS := St.nm (M' := [.blk _ _ [_, _, _], .blk _ _ [_, _, _], _]) hS rfl
  refine hK _ _ ?_; clear hK K
  refine wl_nil ?_
  refine then_n (hK2 _ _ ?_); clear hK2 K2
  refine wp_ret ?_
  refine ret1 rfl (.cell rfl rfl (load_rowB (cs := [_, _, _]) hS.ok 0 rfl Try.underlying29 rfl ts_29 rfl)) ?_
  exact ⟨rfl, hS.kp⟩
set_option maxRecDepth 100000 in
set_option maxHeartbeats 8000000 in
theorem flight_c (kind : Int) (num : Nat) (L : Option Addr) (n c : Nat) (rows : List Row3) (w0 : World) (hv : View w0 w0.heap.size L (rows.map rowV)) (hl : rows.length = n) (hn : n ≤ 9223372036854775807) (hle : ∀ r ∈ rows, r.2.1.length ≤ 9223372036854775807) :
    Calls Try.prog 4 #[.agg (fmV kind num L n c).toArray] w0 fun e w' => ∃ b : Bool, e = .returned (.bool b) ∧ (b = true → n ≤ 30 ∧ (fbody rows).length ≤ 5000) ∧ Kp [] w0 w' := by
  have hS := (St.sv w0).vcons rfl hv
  refine ent (n := 33) Try.func4 rfl rfl ?_
  refine wp_seq_k ?_; intro K1 hK1
  refine wlit ?_
  refine wl_e rfl ?_; intro K hK
  refine ow_box hS (tmA rfl rfl) rfl ?_
  clear hS; intro g0_0 w hg0_0 hS
  refine hK _ _ ?_; clear hK K
  refine wl_v (x_assign ev_c) ?_
  refine wl_nil ?_
  refine then_n (hK1 _ _ ?_); clear hK1 K1
  refine wp_seq_k ?_; intro K2 hK2
  refine wlit ?_
  refine wl_v (x_assign (ev_cN 0)) ?_
  refine wl_nil ?_
  refine then_n (hK2 _ _ ?_); clear hK2 K2
  refine wp_seq_k ?_; intro K3 hK3
  refine wp_seq_k ?_; intro K4 hK4
  refine wlit ?_
  refine wl_v (x_assign (ev_cN 0)) ?_
  refine wl_nil ?_
  refine then_n (hK4 _ _ ?_); clear hK4 K4
  refine wp_block ?_
  refine lp [3, 4, 5, 6, 7, 8, 9, 10, 11, 12, 13, 14, 15, 16, 17, 18, 19, 20, 21, 22, 23, 24] (fun mz g w => ∃ (k s : Nat), mz = n - k ∧ g 4 = .int .i64 (k : Int) ∧ g 3 = .int .i64 (s : Int) ∧ St [] w0 [.blk g0_0 25 (fmV kind num L n c), .vw L (rows.map rowV)] w ∧ (k ≤ n ∧ k ≤ 30) ∧ (s ≤ 5000 * k) ∧ ((fbody (rows.take k)).length = 2 * k + s ∨ 5000 ≤ s)) ?_ ?_
  · exact ⟨_, 0, 0, rfl, (by first | rfl | go_num | exact congrArg (Value.int _) (by first | omega | (simp; done) | (simp; omega))), (by first | rfl | go_num | exact congrArg (Value.int _) (by first | omega | (simp; done) | (simp; omega))), hS, (by omega), (by omega), (by first | exact hsb2 | exact .inl rfl)⟩
  · clear hS; intro mz g w hI
    obtain ⟨k, s, rfl, hs4, hs3, hS, hk, hsl, hsb⟩ := hI
    refine fr_know (d := 4) hs4 ?_; clear hs4
    refine fr_know (d := 3) hs3 ?_; clear hs3
    refine wp_seq_k ?_; intro K5 hK5
    refine wp_seq_k ?_; intro K6 hK6
    refine wlit ?_
    refine wl_v (x_move (tmI rfl rfl)) ?_
    refine wl_v (x_fa 2 Try.underlying25 rfl rfl ts_23 (tmP rfl rfl)) ?_
    first
     | refine wl_v (x_load Try.underlying23 rfl (tmP rfl rfl) (cellB hS.ok 0 rfl rfl)) ?_
     | refine wl_v (x_load Try.underlying23 rfl (tmP rfl rfl) (cellB hS.ok 0 rfl (getm (by omega)))) ?_
    refine wl_v (x_len Try.underlying23 (tmS rfl rfl)) ?_
    refine wl_v (x_lss (tmI rfl rfl) (tmI rfl rfl)) ?_
    refine wl_v (x_move (tmB rfl rfl)) ?_
    refine gs_wl (tm (t := 10) rfl) (fun hg3_5 => ?_) (fun hg3_5 => ?_)
    · have hg3_5' := hg3_5; (try simp only [nrm] at hg3_5'); try (exfalso; first | with_reducible exact absurd hg3_5 Bool.false_ne_true | with_reducible exact absurd hg3_5.symm Bool.false_ne_true | omega | (simp at hg3_5; done))
      all_goals
       refine wl_gv (want_y rfl rfl rfl rfl (by rw [hg3_5]; rfl)) (x_move (tmI rfl rfl)) ?_
       refine wl_gv (want_y rfl rfl rfl rfl (by rw [hg3_5]; rfl)) (x_lss (tmI rfl rfl) (ev_cN 30)) ?_
       refine wl_v (x_pickT (tmB rfl rfl) hg3_5 (tmB rfl rfl)) ?_
       refine wl_nil ?_
       refine then_n (hK6 _ _ ?_); clear hK6 K6
       refine cnd (tm rfl) (fun hc0 => ?_) (fun hc0 => ?_)
       · try (exfalso; first | with_reducible exact absurd hc0 Bool.false_ne_true | with_reducible exact absurd hc0.symm Bool.false_ne_true | (simp only [nrm] at hc0; omega) | (simp at hc0; done))
         all_goals
          try simp only [nrm] at hc0
          refine wp_skip ?_
          refine then_n (hK5 _ _ ?_); clear hK5 K5
          refine wp_seq_k ?_; intro K7 hK7
          refine wp_block ?_
          obtain ⟨b4, o4, rfl⟩ := view_some (viewV hS.ok 1 rfl) (by rw [List.length_map]; omega)
          have hlk := hle _ (frow_mem (rows := rows) (k := k) (by omega))
          refine wlit ?_
          refine wl_v (x_move (tmI rfl rfl)) ?_
          refine wl_v (x_fa 2 Try.underlying25 rfl rfl ts_23 (tmP rfl rfl)) ?_
          first
           | refine wl_v (x_load Try.underlying23 rfl (tmP rfl rfl) (cellB hS.ok 0 rfl rfl)) ?_
           | refine wl_v (x_load Try.underlying23 rfl (tmP rfl rfl) (cellB hS.ok 0 rfl (getm (by omega)))) ?_
          refine wl_v (x_move (tmI rfl rfl)) ?_
          refine wl_v (x_ixs1 Try.underlying23 ts_26 (tmS rfl rfl) (tmI rfl rfl) (by omega)) ?_
          refine wl_v (x_load (v := .slice (rows.getD k default).1 (rows.getD k default).2.1.length (rows.getD k default).2.2) Try.underlying26 rfl (tmP rfl rfl) (cellV hS.ok 1 rfl (frow_at (by omega)))) ?_
          refine wl_v (x_len Try.underlying26 (tmS rfl rfl)) ?_
          first
           | refine wl_v (x_min (tmI rfl rfl) (ev_cN 5000)) ?_
           | refine wl_v (x_minI (tmI rfl rfl) (ev_cN 5000)) ?_
          first
           | refine wl_v (x_addN (tmI rfl rfl) (tmI rfl rfl) (fit_i64 (by omega))) ?_
           | refine wl_v (x_addI (tmI rfl rfl) (tmI rfl rfl) (IntWalk.i64_in _ (by omega))) ?_
           | refine wl_v (x_add (tmI rfl rfl) (tmI rfl rfl)) ?_
          refine wl_v (x_assign (tmI rfl rfl)) ?_
          refine wl_nil ?_
          refine inb_n ?_
          refine then_n (hK7 _ _ ?_); clear hK7 K7
          refine wlit ?_
          refine wl_v (x_move (tmI rfl rfl)) ?_
          first
           | refine wl_v (x_addN (tmI rfl rfl) (ev_cN 1) (fit_i64 (by omega))) ?_
           | refine wl_v (x_addI (tmI rfl rfl) (ev_cN 1) (IntWalk.i64_in _ (by omega))) ?_
           | refine wl_v (x_add (tmI rfl rfl) (ev_cN 1)) ?_
          refine wl_v (x_assign (tmI rfl rfl)) ?_
          refine wl_nil ?_
          have hsb2 : (fbody (rows.take (k + 1))).length = 2 * (k + 1) + (s + min (rows.getD k default).2.1.length 5000) ∨ 5000 ≤ s + min (rows.getD k default).2.1.length 5000 := by rw [fbody_snoc _ _ (by omega), List.length_append, fone_len]; omega
          exact then_n ⟨_, _, rfl, (by show _ < _; omega), (by repeat (first | exact agree_self | exact agree_refl | refine agree_upd rfl ?_ | refine agree_mix rfl ?_)), k + 1, s + min (rows.getD k default).2.1.length 5000, rfl, (by first | rfl | go_num | exact congrArg (Value.int _) (by first | omega | (simp; done) | (simp; omega))), (by first | rfl | go_num | exact congrArg (Value.int _) (by first | omega | (simp; done) | (simp; omega))), hS, (by omega), (by omega), (by first | exact hsb2 | exact .inl rfl)⟩
       try (exfalso; first | with_reducible exact absurd hc0 Bool.false_ne_true | with_reducible exact absurd hc0.symm Bool.false_ne_true | (simp only [nrm] at hc0; omega) | (simp at hc0; done))
       all_goals
        try simp only [nrm] at hc0
        refine wp_exit ?_
        refine then_x ?_; clear hK5 K5
        refine then_x ?_
        refine inb_x ?_
        refine then_n (hK3 _ _ ?_); clear hK3 K3
        refine wp_seq_k ?_; intro K8 hK8
        refine wlit ?_
        refine wl_v (x_fa 2 Try.underlying25 rfl rfl ts_23 (tmP rfl rfl)) ?_
        first
         | refine wl_v (x_load Try.underlying23 rfl (tmP rfl rfl) (cellB hS.ok 0 rfl rfl)) ?_
         | refine wl_v (x_load Try.underlying23 rfl (tmP rfl rfl) (cellB hS.ok 0 rfl (getm (by omega)))) ?_
        refine wl_v (x_len Try.underlying23 (tmS rfl rfl)) ?_
        refine wl_v (x_leq (tmI rfl rfl) (ev_cN 30)) ?_
        refine wl_v (x_move (tmB rfl rfl)) ?_
        refine gs_wl (tm (t := 29) rfl) (fun hg6_4 => ?_) (fun hg6_4 => ?_)
        · have hg6_4' := hg6_4; (try simp only [nrm] at hg6_4'); try (exfalso; first | with_reducible exact absurd hg6_4 Bool.false_ne_true | with_reducible exact absurd hg6_4.symm Bool.false_ne_true | omega | (simp at hg6_4; done))
          all_goals
           refine wl_gv (want_y rfl rfl rfl rfl (by rw [hg6_4]; rfl)) (x_move (tmI rfl rfl)) ?_
           refine wl_gv (want_y rfl rfl rfl rfl (by rw [hg6_4]; rfl)) (x_leq (tmI rfl rfl) (ev_cN 4000)) ?_
           refine wl_v (x_pickT (tmB rfl rfl) hg6_4 (tmB rfl rfl)) ?_
           refine wl_v (x_assign (tmB rfl rfl)) ?_
           refine wl_nil ?_
           refine then_n (hK8 _ _ ?_); clear hK8 K8
           refine wp_ret ?_
           refine ret1 rfl (.tmp rfl (show _ = Value.bool _ from rfl)) ?_
           refine ⟨_, rfl, fun hb => ?_, hS.kp⟩
           first
             | (cases hb; done)
             | (have hs4 : s ≤ 4000 := by have := of_decide_eq_true hb; omega
                obtain rfl : n = k := by omega
                rw [List.take_of_length_le (by omega)] at hsb
                exact ⟨by omega, by omega⟩)
        have hg6_4' := hg6_4; (try simp only [nrm] at hg6_4'); try (exfalso; first | with_reducible exact absurd hg6_4 Bool.false_ne_true | with_reducible exact absurd hg6_4.symm Bool.false_ne_true | omega | (simp at hg6_4; done))
        all_goals
         refine wl_s rfl (want_n rfl rfl rfl rfl (by rw [hg6_4]; rfl)) ?_
         refine wl_s rfl (want_n rfl rfl rfl rfl (by rw [hg6_4]; rfl)) ?_
         refine wl_v (x_pickF (tmB rfl rfl) hg6_4 ev_c) ?_
         refine wl_v (x_assign (tmB rfl rfl)) ?_
         refine wl_nil ?_
         refine then_n (hK8 _ _ ?_); clear hK8 K8
         refine wp_ret ?_
         refine ret1 rfl (.tmp rfl (show _ = Value.bool _ from rfl)) ?_
         refine ⟨_, rfl, fun hb => ?_, hS.kp⟩
         first
           | (cases hb; done)
           | (have hs4 : s ≤ 4000 := by have := of_decide_eq_true hb; omega
              obtain rfl : n = k := by omega
              rw [List.take_of_length_le (by omega)] at hsb
              exact ⟨by omega, by omega⟩)
    have hg3_5' := hg3_5; (try simp only [nrm] at hg3_5'); try (exfalso; first | with_reducible exact absurd hg3_5 Bool.false_ne_true | with_reducible exact absurd hg3_5.symm Bool.false_ne_true | omega | (simp at hg3_5; done))
    all_goals
     refine wl_s rfl (want_n rfl rfl rfl rfl (by rw [hg3_5]; rfl)) ?_
     refine wl_s rfl (want_n rfl rfl rfl rfl (by rw [hg3_5]; rfl)) ?_
     refine wl_v (x_pickF (tmB rfl rfl) hg3_5 ev_c) ?_
     refine wl_nil ?_
     refine then_n (hK6 _ _ ?_); clear hK6 K6
     refine cnd_f (tmB rfl rfl) rfl ?_
     refine wp_exit ?_
     refine then_x ?_; clear hK5 K5
     refine then_x ?_
     refine inb_x ?_
     refine then_n (hK3 _ _ ?_); clear hK3 K3
     refine wp_seq_k ?_; intro K9 hK9
     refine wlit ?_
     refine wl_v (x_fa 2 Try.underlying25 rfl rfl ts_23 (tmP rfl rfl)) ?_
     first
      | refine wl_v (x_load Try.underlying23 rfl (tmP rfl rfl) (cellB hS.ok 0 rfl rfl)) ?_
      | refine wl_v (x_load Try.underlying23 rfl (tmP rfl rfl) (cellB hS.ok 0 rfl (getm (by omega)))) ?_
     refine wl_v (x_len Try.underlying23 (tmS rfl rfl)) ?_
     refine wl_v (x_leq (tmI rfl rfl) (ev_cN 30)) ?_
     refine wl_v (x_move (tmB rfl rfl)) ?_
     refine gs_wl (tm (t := 29) rfl) (fun hg6_4 => ?_) (fun hg6_4 => ?_)
     · have hg6_4' := hg6_4; (try simp only [nrm] at hg6_4'); try (exfalso; first | with_reducible exact absurd hg6_4 Bool.false_ne_true | with_reducible exact absurd hg6_4.symm Bool.false_ne_true | omega | (simp at hg6_4; done))
       all_goals
        refine wl_gv (want_y rfl rfl rfl rfl (by rw [hg6_4]; rfl)) (x_move (tmI rfl rfl)) ?_
        refine wl_gv (want_y rfl rfl rfl rfl (by rw [hg6_4]; rfl)) (x_leq (tmI rfl rfl) (ev_cN 4000)) ?_
        refine wl_v (x_pickT (tmB rfl rfl) hg6_4 (tmB rfl rfl)) ?_
        refine wl_v (x_assign (tmB rfl rfl)) ?_
        refine wl_nil ?_
        refine then_n (hK9 _ _ ?_); clear hK9 K9
        refine wp_ret ?_
        refine ret1 rfl (.tmp rfl (show _ = Value.bool _ from rfl)) ?_
        refine ⟨_, rfl, fun hb => ?_, hS.kp⟩
        first
          | (cases hb; done)
          | (have hs4 : s ≤ 4000 := by have := of_decide_eq_true hb; omega
             obtain rfl : n = k := by omega
             rw [List.take_of_length_le (by omega)] at hsb
             exact ⟨by omega, by omega⟩)
     have hg6_4' := hg6_4; (try simp only [nrm] at hg6_4'); try (exfalso; first | with_reducible exact absurd hg6_4 Bool.false_ne_true | with_reducible exact absurd hg6_4.symm Bool.false_ne_true | omega | (simp at hg6_4; done))
     all_goals
      refine wl_s rfl (want_n rfl rfl rfl rfl (by rw [hg6_4]; rfl)) ?_
      refine wl_s rfl (want_n rfl rfl rfl rfl (by rw [hg6_4]; rfl)) ?_
      refine wl_v (x_pickF (tmB rfl rfl) hg6_4 ev_c) ?_
      refine wl_v (x_assign (tmB rfl rfl)) ?_
      refine wl_nil ?_
      refine then_n (hK9 _ _ ?_); clear hK9 K9
      refine wp_ret ?_
      refine ret1 rfl (.tmp rfl (show _ = Value.bool _ from rfl)) ?_
      refine ⟨_, rfl, fun hb => ?_, hS.kp⟩
      first
        | (cases hb; done)
        | (have hs4 : s ≤ 4000 := by have := of_decide_eq_true hb; omega
           obtain rfl : n = k := by omega
           rw [List.take_of_length_le (by omega)] at hsb
           exact ⟨by omega, by omega⟩)
section
variable {w0 w : World} {M : List Ent}
/-- A view that the argument holds lies in nothing of one's own. -/
theorem St.argv (h : St [] w0 M w) {A : Option Addr} {xs : List Value} (hv : View w0 w0.heap.size A xs) : St [] w0 (.vw A xs :: M) w := by
  have hok : (Ent.vw A xs).ok w0 := hv
  refine h.addv (Ent.ok_keep hok h.kp.size fun g hg => h.kp.block g (Ent.ok_lt hok hg) (by simp)) fun e he => ?_
  cases hr : e.ro with
  | true => exact .inl (by rw [hr]; rfl)
  | false =>
    cases hb : e.blk? with
    | none => exact .inr (.inr (.inl hb))
    | some b =>
      cases hb2 : (Ent.vw A xs).blk? with
      | none => exact .inr (.inl hb2)
      | some b2 =>
        refine .inr (.inr (.inr ?_))
        rw [hb, hb2]
        intro he2
        injection he2 with he2
        subst he2
        rcases h.own e he hr b2 hb with h1 | h1
        · cases h1
        · have := Ent.ok_lt hok hb2
          omega
end
set_option maxRecDepth 100000 in
set_option maxHeartbeats 8000000 in
theorem fis_c (kind : Int) (num : Nat) (L : Option Addr) (n c : Nat) (rows : List Row3) (L2 : Option Addr) (c2 : Nat) (rows2 : List Row3) (w0 : World) (hv : View w0 w0.heap.size L (rows.map rowV)) (hv2 : View w0 w0.heap.size L2 (rows2.map rowV)) (hV : Vws w0 rows) (hV2 : Vws w0 rows2) (hl : rows.length = n) (hn : n ≤ 300) (hle : ∀ r ∈ rows, r.2.1.length ≤ 100000) (hby : ∀ r ∈ rows, Bytes r.2.1) (heq : rows.map (·.2.1) = rows2.map (·.2.1)) :
    Calls Try.prog 8 #[.agg (fmV kind num L n c).toArray, .agg (fmV kind num L2 n c2).toArray] w0 fun e w' => e = .returned (.bool true) ∧ Kp [] w0 w' := by
  have hl2 : rows2.length = n := by have := congrArg List.length heq; rw [List.length_map, List.length_map] at this; omega
  have hS := ((St.sv w0).vcons rfl hv2).vcons rfl hv
  refine ent (n := 47) Try.func8 rfl rfl ?_
  refine wp_seq_k ?_; intro K1 hK1
  refine wlit ?_
  refine wl_e rfl ?_; intro K hK
  refine ow_box hS (tmA rfl rfl) rfl ?_
  clear hS; intro g0_0 w hg0_0 hS
  refine hK _ _ ?_; clear hK K
  refine wl_e rfl ?_; intro K hK
  refine ow_box hS (tmA rfl rfl) rfl ?_
  clear hS; intro g0_1 w hg0_1 hS
  refine hK _ _ ?_; clear hK K
  refine wl_v (x_assign ev_c) ?_
  refine wl_nil ?_
  refine then_n (hK1 _ _ ?_); clear hK1 K1
  refine wp_seq_k ?_; intro K2 hK2
  refine wp_seq_k ?_; intro K3 hK3
  refine wlit ?_
  refine wl_v (x_fa 0 Try.underlying29 rfl rfl ts_3 (tmP rfl rfl)) ?_
  first
   | refine wl_v (x_load Try.underlying3 rfl (tmP rfl rfl) (cellB hS.ok 1 rfl rfl)) ?_
   | refine wl_v (x_load Try.underlying3 rfl (tmP rfl rfl) (cellB hS.ok 1 rfl (getm (by omega)))) ?_
  refine wl_v (x_fa 0 Try.underlying25 rfl rfl ts_3 (tmP rfl rfl)) ?_
  first
   | refine wl_v (x_load Try.underlying3 rfl (tmP rfl rfl) (cellB hS.ok 0 rfl rfl)) ?_
   | refine wl_v (x_load Try.underlying3 rfl (tmP rfl rfl) (cellB hS.ok 0 rfl (getm (by omega)))) ?_
  refine wl_v (x_neq (tmI rfl rfl) (tmI rfl rfl)) ?_
  refine wl_v (x_move (tmB rfl rfl)) ?_
  refine gs_wl (tm (t := 11) rfl) (fun hg1_5 => ?_) (fun hg1_5 => ?_)
  · exfalso
    simp at hg1_5
  have hg1_5' := hg1_5; (try simp only [nrm] at hg1_5'); try (exfalso; first | with_reducible exact absurd hg1_5 Bool.false_ne_true | with_reducible exact absurd hg1_5.symm Bool.false_ne_true | omega | (simp at hg1_5; done))
  all_goals
   refine wl_gv (want_y rfl rfl rfl rfl (by rw [hg1_5]; rfl)) (x_fa 1 Try.underlying29 rfl rfl ts_22 (tmP rfl rfl)) ?_
   first
    | refine wl_gv (want_y rfl rfl rfl rfl (by rw [hg1_5]; rfl)) (x_load Try.underlying22 rfl (tmP rfl rfl) (cellB hS.ok 1 rfl rfl)) ?_
    | refine wl_gv (want_y rfl rfl rfl rfl (by rw [hg1_5]; rfl)) (x_load Try.underlying22 rfl (tmP rfl rfl) (cellB hS.ok 1 rfl (getm (by omega)))) ?_
   refine wl_gv (want_y rfl rfl rfl rfl (by rw [hg1_5]; rfl)) (x_fa 1 Try.underlying25 rfl rfl ts_22 (tmP rfl rfl)) ?_
   first
    | refine wl_gv (want_y rfl rfl rfl rfl (by rw [hg1_5]; rfl)) (x_load Try.underlying22 rfl (tmP rfl rfl) (cellB hS.ok 0 rfl rfl)) ?_
    | refine wl_gv (want_y rfl rfl rfl rfl (by rw [hg1_5]; rfl)) (x_load Try.underlying22 rfl (tmP rfl rfl) (cellB hS.ok 0 rfl (getm (by omega)))) ?_
   refine wl_gv (want_y rfl rfl rfl rfl (by rw [hg1_5]; rfl)) (x_neq (tmI rfl rfl) (tmI rfl rfl)) ?_
   refine wl_v (x_pickF (tmB rfl rfl) hg1_5 (tmB rfl rfl)) ?_
   refine wl_v (x_move (tmB rfl rfl)) ?_
   refine gs_wl (tm (t := 18) rfl) (fun hg1_12 => ?_) (fun hg1_12 => ?_)
   · exfalso
     simp at hg1_12
   have hg1_12' := hg1_12; (try simp only [nrm] at hg1_12'); try (exfalso; first | with_reducible exact absurd hg1_12 Bool.false_ne_true | with_reducible exact absurd hg1_12.symm Bool.false_ne_true | omega | (simp at hg1_12; done))
   all_goals
    refine wl_gv (want_y rfl rfl rfl rfl (by rw [hg1_12]; rfl)) (x_fa 2 Try.underlying29 rfl rfl ts_23 (tmP rfl rfl)) ?_
    first
     | refine wl_gv (want_y rfl rfl rfl rfl (by rw [hg1_12]; rfl)) (x_load Try.underlying23 rfl (tmP rfl rfl) (cellB hS.ok 1 rfl rfl)) ?_
     | refine wl_gv (want_y rfl rfl rfl rfl (by rw [hg1_12]; rfl)) (x_load Try.underlying23 rfl (tmP rfl rfl) (cellB hS.ok 1 rfl (getm (by omega)))) ?_
    refine wl_gv (want_y rfl rfl rfl rfl (by rw [hg1_12]; rfl)) (x_len Try.underlying23 (tmS rfl rfl)) ?_
    refine wl_gv (want_y rfl rfl rfl rfl (by rw [hg1_12]; rfl)) (x_fa 2 Try.underlying25 rfl rfl ts_23 (tmP rfl rfl)) ?_
    first
     | refine wl_gv (want_y rfl rfl rfl rfl (by rw [hg1_12]; rfl)) (x_load Try.underlying23 rfl (tmP rfl rfl) (cellB hS.ok 0 rfl rfl)) ?_
     | refine wl_gv (want_y rfl rfl rfl rfl (by rw [hg1_12]; rfl)) (x_load Try.underlying23 rfl (tmP rfl rfl) (cellB hS.ok 0 rfl (getm (by omega)))) ?_
    refine wl_gv (want_y rfl rfl rfl rfl (by rw [hg1_12]; rfl)) (x_len Try.underlying23 (tmS rfl rfl)) ?_
    refine wl_gv (want_y rfl rfl rfl rfl (by rw [hg1_12]; rfl)) (x_neq (tmI rfl rfl) (tmI rfl rfl)) ?_
    refine wl_v (x_pickF (tmB rfl rfl) hg1_12 (tmB rfl rfl)) ?_
    refine wl_nil ?_
    refine then_n (hK3 _ _ ?_); clear hK3 K3
    refine cnd (tm rfl) (fun hc0 => ?_) (fun hc0 => ?_)
    · exfalso
      simp at hc0
    try (exfalso; first | with_reducible exact absurd hc0 Bool.false_ne_true | with_reducible exact absurd hc0.symm Bool.false_ne_true | (simp only [nrm] at hc0; omega) | (simp at hc0; done))
    all_goals
     try simp only [nrm] at hc0
     refine wp_skip ?_
     refine then_n (hK2 _ _ ?_); clear hK2 K2
     refine wp_seq_k ?_; intro K4 hK4
     refine wp_seq_k ?_; intro K5 hK5
     refine wlit ?_
     refine wl_v (x_assign (ev_cN 0)) ?_
     refine wl_nil ?_
     refine then_n (hK5 _ _ ?_); clear hK5 K5
     refine wp_block ?_
     refine lp [4, 5, 27, 28, 29, 30, 31, 32, 33, 34, 35, 36, 37, 38, 39, 40, 41, 42, 43, 44, 45, 46] (fun mz g w => ∃ (k : Nat), mz = n - k ∧ g 5 = .int .i64 (k : Int) ∧ St [] w0 [.blk g0_1 25 (fmV kind num L2 n c2), .blk g0_0 29 (fmV kind num L n c), .vw L (rows.map rowV), .vw L2 (rows2.map rowV)] w ∧ (k ≤ n)) ?_ ?_
     · exact ⟨_, 0, rfl, (by first | rfl | go_num | exact congrArg (Value.int _) (by first | omega | (simp; done) | (simp; omega))), hS, (by omega)⟩
     · clear hS; intro mz g w hI
       obtain ⟨k, rfl, hs5, hS, hk⟩ := hI
       refine fr_know (d := 5) hs5 ?_; clear hs5
       refine wp_seq_k ?_; intro K6 hK6
       refine wp_seq_k ?_; intro K7 hK7
       refine wlit ?_
       refine wl_v (x_move (tmI rfl rfl)) ?_
       refine wl_v (x_fa 2 Try.underlying29 rfl rfl ts_23 (tmP rfl rfl)) ?_
       first
        | refine wl_v (x_load Try.underlying23 rfl (tmP rfl rfl) (cellB hS.ok 1 rfl rfl)) ?_
        | refine wl_v (x_load Try.underlying23 rfl (tmP rfl rfl) (cellB hS.ok 1 rfl (getm (by omega)))) ?_
       refine wl_v (x_len Try.underlying23 (tmS rfl rfl)) ?_
       refine wl_v (x_lss (tmI rfl rfl) (tmI rfl rfl)) ?_
       refine wl_nil ?_
       refine then_n (hK7 _ _ ?_); clear hK7 K7
       refine cnd (tm rfl) (fun hc1 => ?_) (fun hc1 => ?_)
       · try (exfalso; first | with_reducible exact absurd hc1 Bool.false_ne_true | with_reducible exact absurd hc1.symm Bool.false_ne_true | (simp only [nrm] at hc1; omega) | (simp at hc1; done))
         all_goals
          try simp only [nrm] at hc1
          refine wp_skip ?_
          refine then_n (hK6 _ _ ?_); clear hK6 K6
          refine wp_seq_k ?_; intro K8 hK8
          refine wp_block ?_
          refine wp_seq_k ?_; intro K9 hK9
          obtain ⟨b4, o4, rfl⟩ := view_some (viewV hS.ok 2 rfl) (by rw [List.length_map]; omega)
          obtain ⟨b5, o5, rfl⟩ := view_some (viewV hS.ok 3 rfl) (by rw [List.length_map]; omega)
          have hxl := hle _ (frow_mem (rows := rows) (k := k) (by omega))
          have hxb := hby _ (frow_mem (rows := rows) (k := k) (by omega))
          have hsame := rows_get heq (k := k) (by omega)
          have hva : View w0 w0.heap.size (rows.getD k default).1 ((rows.getD k default).2.1.map u8v) := hV _ (frow_mem (by omega))
          have hvb : View w0 w0.heap.size (rows2.getD k default).1 ((rows.getD k default).2.1.map u8v) := by rw [hsame]; exact hV2 _ (frow_mem (by omega))
          replace hS := hS.argv hva
          replace hS := hS.argv hvb
          refine rg_startk 0 hS mixed_ ?_
          clear hS; intro w hS
          refine rg_take 0 rfl rfl (by kernel_rfl) (by kernel_rfl) (by kernel_rfl) (want_0) (fun w hok => x_fa 2 Try.underlying29 rfl rfl ts_23 (tmP rfl rfl)) ?_
          first
           | refine rg_take 1 rfl rfl (by kernel_rfl) (by kernel_rfl) (by kernel_rfl) (want_0) (fun w hok => x_load Try.underlying23 rfl (tmP rfl rfl) (cellB hok 3 rfl rfl)) ?_
           | refine rg_take 1 rfl rfl (by kernel_rfl) (by kernel_rfl) (by kernel_rfl) (want_0) (fun w hok => x_load Try.underlying23 rfl (tmP rfl rfl) (cellB hok 3 rfl (getm (by omega)))) ?_
          refine rg_take 2 rfl rfl (by kernel_rfl) (by kernel_rfl) (by kernel_rfl) (want_0) (fun w hok => x_move (tmI rfl rfl)) ?_
          refine rg_take 3 rfl rfl (by kernel_rfl) (by kernel_rfl) (by kernel_rfl) (want_0) (fun w hok => x_ixs1 Try.underlying23 ts_26 (tmS rfl rfl) (tmI rfl rfl) (by omega)) ?_
          refine rg_take 4 rfl rfl (by kernel_rfl) (by kernel_rfl) (by kernel_rfl) (want_0) (fun w hok => x_load (v := .slice (rows.getD k default).1 (rows.getD k default).2.1.length (rows.getD k default).2.2) Try.underlying26 rfl (tmP rfl rfl) (cellV hok 4 rfl (frow_at (by omega)))) ?_
          refine rg_take 5 rfl rfl (by kernel_rfl) (by kernel_rfl) (by kernel_rfl) (want_0) (fun w hok => x_bstr Try.underlying26 Try.underlying5 Try.underlying9 (tmS rfl rfl) (viewV hok 1 rfl) hxb rfl) ?_
          refine rg_take 6 rfl rfl (by kernel_rfl) (by kernel_rfl) (by kernel_rfl) (want_0) (fun w hok => x_fa 2 Try.underlying25 rfl rfl ts_23 (tmP rfl rfl)) ?_
          first
           | refine rg_take 7 rfl rfl (by kernel_rfl) (by kernel_rfl) (by kernel_rfl) (want_0) (fun w hok => x_load Try.underlying23 rfl (tmP rfl rfl) (cellB hok 2 rfl rfl)) ?_
           | refine rg_take 7 rfl rfl (by kernel_rfl) (by kernel_rfl) (by kernel_rfl) (want_0) (fun w hok => x_load Try.underlying23 rfl (tmP rfl rfl) (cellB hok 2 rfl (getm (by omega)))) ?_
          refine rg_take 8 rfl rfl (by kernel_rfl) (by kernel_rfl) (by kernel_rfl) (want_0) (fun w hok => x_move (tmI rfl rfl)) ?_
          refine rg_take 9 rfl rfl (by kernel_rfl) (by kernel_rfl) (by kernel_rfl) (want_0) (fun w hok => x_ixs1 Try.underlying23 ts_26 (tmS rfl rfl) (tmI rfl rfl) (by omega)) ?_
          refine rg_take 10 rfl rfl (by kernel_rfl) (by kernel_rfl) (by kernel_rfl) (want_0) (fun w hok => x_load (v := .slice (rows2.getD k default).1 (rows.getD k default).2.1.length (rows2.getD k default).2.2) Try.underlying26 rfl (tmP rfl rfl) (cellV hok 5 rfl (by rw [hsame]; exact frow_at (rows := rows2) (k := k) (by omega)))) ?_
          refine rg_take 11 rfl rfl (by kernel_rfl) (by kernel_rfl) (by kernel_rfl) (want_0) (fun w hok => x_bstr Try.underlying26 Try.underlying5 Try.underlying9 (tmS rfl rfl) (viewV hok 0 rfl) hxb rfl) ?_
          refine rg_take 12 rfl rfl (by kernel_rfl) (by kernel_rfl) (by kernel_rfl) (want_0) (fun w hok => x_Gneq (tmG rfl rfl) (tmG rfl rfl) (by first | assumption | exact Bytes.nil | (repeat' (first | assumption | exact Bytes.nil | exact be_bytes _ _ | apply Bytes.append | apply Bytes.take | apply Bytes.drop | apply Bytes.replicate))) (by first | assumption | exact Bytes.nil | (repeat' (first | assumption | exact Bytes.nil | exact be_bytes _ _ | apply Bytes.append | apply Bytes.take | apply Bytes.drop | apply Bytes.replicate)))) ?_
          refine rg_done (oks_drop hS 0 rfl) (by kernel_rfl) ?_
          refine then_n (hK9 _ _ ?_); clear hK9 K9
          refine cnd (tm rfl) (fun hc2 => ?_) (fun hc2 => ?_)
          · exfalso
            simp at hc2
          try (exfalso; first | with_reducible exact absurd hc2 Bool.false_ne_true | with_reducible exact absurd hc2.symm Bool.false_ne_true | (simp only [nrm] at hc2; omega) | (simp at hc2; done))
          all_goals
           try simp only [nrm] at hc2
           refine wp_skip ?_
           refine inb_n ?_
           refine then_n (hK8 _ _ ?_); clear hK8 K8
           refine wlit ?_
           refine wl_v (x_move (tmI rfl rfl)) ?_
           first
            | refine wl_v (x_addN (tmI rfl rfl) (ev_cN 1) (fit_i64 (by omega))) ?_
            | refine wl_v (x_addI (tmI rfl rfl) (ev_cN 1) (IntWalk.i64_in _ (by omega))) ?_
            | refine wl_v (x_add (tmI rfl rfl) (ev_cN 1)) ?_
           refine wl_v (x_assign (tmI rfl rfl)) ?_
           refine wl_nil ?_
           exact then_n ⟨_, _, rfl, (by show _ < _; omega), (by repeat (first | exact agree_self | exact agree_refl | refine agree_upd rfl ?_ | refine agree_mix rfl ?_)), k + 1, rfl, (by first | rfl | go_num | exact congrArg (Value.int _) (by first | omega | (simp; done) | (simp; omega))), (hS.pick [2, 3, 4, 5] rfl rfl), (by omega)⟩
       try (exfalso; first | with_reducible exact absurd hc1 Bool.false_ne_true | with_reducible exact absurd hc1.symm Bool.false_ne_true | (simp only [nrm] at hc1; omega) | (simp at hc1; done))
       all_goals
        try simp only [nrm] at hc1
        refine wp_exit ?_
        refine then_x ?_; clear hK6 K6
        refine then_x ?_
        refine inb_x ?_
        refine then_n (hK4 _ _ ?_); clear hK4 K4
        refine wp_seq_k ?_; intro K10 hK10
        refine wlit ?_
        refine wl_v (x_assign ev_c) ?_
        refine wl_nil ?_
        refine then_n (hK10 _ _ ?_); clear hK10 K10
        refine wp_ret ?_
        refine ret1 rfl (.tmp rfl (show _ = Value.bool _ from rfl)) ?_
        exact ⟨rfl, hS.kp⟩
end Go.Proofs.Ytmokaeflnlajgaa
