
/- the reference's Rank, by contract. Conditions: none but bounds. -/
import Derived.Test.YtgfmjgfeiokcdaaHrD
namespace Go.Proofs.Ytgfmjgfeiokcdaa
open Go.RowKit
def scv (l : List Sc) : List Value := l.map fun p => .int .u64 ((p.2 : Nat) : Int)
theorem idv_len (l : List Sc) : (idv l).length = l.length := by unfold idv; rw [List.length_map]
theorem scv_len (l : List Sc) : (scv l).length = l.length := by unfold scv; rw [List.length_map]
theorem idv_get {l : List Sc} {i : Nat} (h : i < l.length) : (idv l)[i]? = some (.int .i64 (l.getD i default).1) := by
  unfold idv; rw [List.getElem?_map, List.getElem?_eq_getElem h, List.getD_eq_getElem?_getD, List.getElem?_eq_getElem h]; rfl
theorem scv_get {l : List Sc} {i : Nat} (h : i < l.length) : (scv l)[i]? = some (.int .u64 (((l.getD i default).2 : Nat) : Int)) := by
  unfold scv; rw [List.getElem?_map, List.getElem?_eq_getElem h, List.getD_eq_getElem?_getD, List.getElem?_eq_getElem h]; rfl
theorem idv_one (l : List Sc) : ∀ u ∈ idv l, u.oneCell' = true := by
  intro u hu
  obtain ⟨p, _, rfl⟩ := List.mem_map.1 hu
  rfl
theorem scv_one (l : List Sc) : ∀ u ∈ scv l, u.oneCell' = true := by
  intro u hu
  obtain ⟨p, _, rfl⟩ := List.mem_map.1 hu
  rfl
theorem ins_idv {R : List Sc} {x : Sc} {q : Nat} (h : plc R x R.length = q) : ([] ++ idv (R.take q)) ++ [.int .i64 x.1] ++ idv (R.drop q) = idv (ins R x) := by
  unfold ins idv
  rw [h, List.map_append, List.map_cons, List.nil_append, List.append_assoc]
  rfl
theorem ins_scv {R : List Sc} {x : Sc} {q : Nat} (h : plc R x R.length = q) : ([] ++ scv (R.take q)) ++ [.int .u64 ((x.2 : Nat) : Int)] ++ scv (R.drop q) = scv (ins R x) := by
  unfold ins scv
  rw [h, List.map_append, List.map_cons, List.nil_append, List.append_assoc]
  rfl
theorem vt_idv {w : World} {bd : Nat} {A : Option Addr} {R : List Sc} {c : Nat} (h : View w bd A (idv R)) (hc : R.length ≤ c) (q : Nat) : View w bd (cutA A 0 c 1) (idv (R.take q)) := by
  have h1 := h.cutA (c := c) (by rw [idv_len]; omega) 0 q
  rw [List.drop_zero] at h1
  unfold idv at h1 ⊢
  rw [List.map_take]; exact h1
theorem vd_idv {w : World} {bd : Nat} {A : Option Addr} {R : List Sc} {c : Nat} (h : View w bd A (idv R)) (hc : R.length ≤ c) (q : Nat) : View w bd (cutA A q c 1) (idv (R.drop q)) := by
  have h1 := h.cutA (c := c) (by rw [idv_len]; omega) q R.length
  unfold idv at h1 ⊢
  rw [List.take_of_length_le (by rw [List.length_drop, List.length_map]; omega)] at h1
  rw [List.map_drop]; exact h1
theorem vt_scv {w : World} {bd : Nat} {A : Option Addr} {R : List Sc} {c : Nat} (h : View w bd A (scv R)) (hc : R.length ≤ c) (q : Nat) : View w bd (cutA A 0 c 1) (scv (R.take q)) := by
  have h1 := h.cutA (c := c) (by rw [scv_len]; omega) 0 q
  rw [List.drop_zero] at h1
  unfold scv at h1 ⊢
  rw [List.map_take]; exact h1
theorem vd_scv {w : World} {bd : Nat} {A : Option Addr} {R : List Sc} {c : Nat} (h : View w bd A (scv R)) (hc : R.length ≤ c) (q : Nat) : View w bd (cutA A q c 1) (scv (R.drop q)) := by
  have h1 := h.cutA (c := c) (by rw [scv_len]; omega) q R.length
  unfold scv at h1 ⊢
  rw [List.take_of_length_le (by rw [List.length_drop, List.length_map]; omega)] at h1
  rw [List.map_drop]; exact h1
set_option maxRecDepth 100000 in
set_option maxHeartbeats 4000000 in
theorem rrank_c (k : Nat → Nat) (L : Option Addr) (nl cl : Nat) (l : List Mb) (B : Option Addr) (nb cb : Nat) (b : List Nat) (w0 : World) (hkb : Bytes (kL k)) (hvl : View w0 w0.heap.size L (flat mv l)) (hll : l.length = nl) (hnl : nl ≤ 12) (hok : ∀ p ∈ l, Mok p) (hv : View w0 w0.heap.size B (b.map u8v)) (hl : b.length = nb) (hb : Bytes b) (hn4 : nb ≤ 1000) :
    Calls Try.prog 9 #[.agg (kC k).toArray, .slice L nl cl, .slice B nb cb] w0 fun e w' => ∃ G ng cg, ng = (ranked k b l).length ∧ e = .returned (.slice G ng cg) ∧ New w0 w' (.row (.slice G ng cg) 3 1 ng (idv (ranked k b l))) ∧ Kp [] w0 w' := by
  have hS := ((St.sv w0).vcons rfl hv).vcons rfl hvl
  have hsc := fun p hp w hv => rscore_p k p hp B nb cb b w hkb hv hl hb hn4
  obtain ⟨f, hf⟩ : ∃ f, f = sco k b := ⟨_, rfl⟩
  have hf1 : ∀ p, (f p).1 = p.1 := fun p => by rw [hf]; rfl
  have hfl : ∀ p, (f p).2 < 18446744073709551616 := fun p => by rw [hf]; exact scF_lt k b _ _
  have hrk : ranked k b l = srt ((wgt l).map f) := by rw [hf]; rfl
  rw [hrk]
  rw [← hf] at hsc
  clear hf hrk
  refine ent (n := 97) Try.func9 rfl rfl ?_
  refine wp_seq_k ?_; intro K1 hK1
  refine wlit ?_
  refine wl_e rfl ?_; intro K hK
  refine ow_box hS (tmA rfl rfl) rfl ?_
  clear hS; intro g0_0 w hg0_0 hS
  refine hK _ _ ?_; clear hK K
  refine wl_v (x_assign ev_c) ?_
  refine wl_nil ?_
  refine then_n (hK1 _ _ ?_); clear hK1 K1
  refine wp_seq_k ?_; intro K2 hK2
  refine wlit ?_
  refine wl_v (x_assign ev_c) ?_
  refine wl_nil ?_
  refine then_n (hK2 _ _ ?_); clear hK2 K2
  refine wp_seq_k ?_; intro K3 hK3
  refine wlit ?_
  refine wl_v (x_assign ev_c) ?_
  refine wl_nil ?_
  refine then_n (hK3 _ _ ?_); clear hK3 K3
  refine wp_seq_k ?_; intro K4 hK4
  refine wp_seq_k ?_; intro K5 hK5
  refine wlit ?_
  refine wl_v (x_assign (ev_cN 0)) ?_
  refine wl_nil ?_
  refine then_n (hK5 _ _ ?_); clear hK5 K5
  refine wp_block ?_
  have hS := ((hS.nilrow 3 1).nilrow 32 1).pick [1, 0, 2, 3, 4] rfl rfl --ents rowo,rows,g0_0,vl,vw
  refine lp [7, 8, 9, 10, 11, 12, 13, 14, 15, 16, 17, 18, 19, 20, 21, 22, 23, 24, 25, 26, 27, 28, 29, 30, 31, 32, 33, 34, 35, 36, 37, 38, 39, 40, 41, 42, 43, 44, 45, 46, 47, 48, 49, 50, 51, 52, 53, 54, 55, 56, 57, 58, 59, 60, 61, 62, 63, 64, 65, 66, 67, 68, 69, 70, 71, 72, 73, 74, 75, 76, 77, 78, 79, 80, 81, 82, 83, 84, 85, 86, 87, 88, 89, 90, 91, 92, 93, 94, 95] (fun mz g w => ∃ (i : Nat), ∃ (A1 : Option Addr), ∃ (n1 c1 : Nat), ∃ (A2 : Option Addr), ∃ (c2 : Nat), ∃ (R : List Sc), mz = nl - i ∧ g 9 = .int .i64 (i : Int) ∧ g 7 = .slice A1 n1 c1 ∧ g 8 = .slice A2 n1 c2 ∧ St [] w0 [.row (.slice A1 n1 c1) 3 1 n1 (idv R), .row (.slice A2 n1 c2) 32 1 n1 (scv R), .blk g0_0 22 (kC k), .vw L (flat mv l), .vw B (b.map u8v)] w ∧ (i ≤ nl) ∧ (n1 = R.length) ∧ (R = srt ((wgt (l.take i)).map f)) ∧ (n1 ≤ i)) ?_ ?_
  · exact ⟨_, 0, none, 0, 0, none, 0, [], rfl, (by first | rfl | go_num | exact congrArg (Value.int _) (by first | omega | (simp; done) | (simp; omega))), (by first | rfl | go_num | exact congrArg (Value.int _) (by first | omega | (simp; done) | (simp; omega))), (by first | rfl | go_num | exact congrArg (Value.int _) (by first | omega | (simp; done) | (simp; omega))), hS, (by omega), (by first | exact hn1 | (rw [hil]; omega) | rfl), (by first | exact hSy | exact hSn | rfl), (by omega)⟩
  · clear hS; intro mz g w hI
    obtain ⟨i, A1, n1, c1, A2, c2, R, rfl, hs9, hs7, hs8, hS, hi, hn1, hR, hni⟩ := hI
    refine fr_know (d := 9) hs9 ?_; clear hs9
    refine fr_know (d := 7) (upd_ne rfl hs7) ?_; clear hs7
    refine fr_know (d := 8) (upd_ne rfl (upd_ne rfl hs8)) ?_; clear hs8
    refine wp_seq_k ?_; intro K6 hK6
    refine wp_seq_k ?_; intro K7 hK7
    refine wlit ?_
    refine wl_v (x_move (tmI rfl rfl)) ?_
    refine wl_v (x_move (tmS rfl rfl)) ?_
    refine wl_v (x_len Try.underlying23 (tmS rfl rfl)) ?_
    refine wl_v (x_lss (tmI rfl rfl) (tmI rfl rfl)) ?_
    refine wl_nil ?_
    refine then_n (hK7 _ _ ?_); clear hK7 K7
    refine cnd (tm rfl) (fun hc0 => ?_) (fun hc0 => ?_)
    · try (exfalso; first | with_reducible exact absurd hc0 Bool.false_ne_true | with_reducible exact absurd hc0.symm Bool.false_ne_true | (simp only [nrm] at hc0; omega) | (simp at hc0; done))
      all_goals
       try simp only [nrm] at hc0
       obtain ⟨b4, o4, rfl⟩ := view_some (viewV hS.ok 3 rfl) (by rw [flat_length mv_len]; omega)
       have hpm := hok _ (getD_mem (l := l) (i := i) (by omega))
       have hyes := wgt_yes (l := l) (i := i) (by omega)
       have hno := wgt_no (l := l) (i := i) (by omega)
       have hflp := hfl (l.getD i default)
       have hfp1 := hf1 (l.getD i default)
       refine wp_skip ?_
       refine then_n (hK6 _ _ ?_); clear hK6 K6
       refine wp_seq_k ?_; intro K8 hK8
       refine wp_block ?_
       refine wp_seq_k ?_; intro K9 hK9
       refine wp_seq_k ?_; intro K10 hK10
       refine wlit ?_
       refine wl_v (x_move (tmS rfl rfl)) ?_
       refine wl_v (x_move (tmI rfl rfl)) ?_
       refine wl_v (x_ixs Try.underlying23 ts_37 (tmS rfl rfl) (tmI rfl rfl) (by omega)) ?_
       refine wl_v (x_fa 1 Try.underlying37 rfl rfl ts_3 (tmP rfl rfl)) ?_
       first
        | refine wl_v (x_load Try.underlying3 rfl (tmP rfl rfl) (cellR hS.ok 0 rfl rfl)) ?_
        | refine wl_v (x_load Try.underlying3 rfl (tmP rfl rfl) (cellR hS.ok 0 rfl (getm (by omega)))) ?_
        | refine wl_v (x_load Try.underlying3 rfl (tmP rfl rfl) (cellRs hS.ok 0 rfl (fun _ => rfl) rfl (by omega) rfl)) ?_
        | refine wl_v (x_load Try.underlying3 rfl (tmP rfl rfl) (cellR hS.ok 1 rfl rfl)) ?_
        | refine wl_v (x_load Try.underlying3 rfl (tmP rfl rfl) (cellR hS.ok 1 rfl (getm (by omega)))) ?_
        | refine wl_v (x_load Try.underlying3 rfl (tmP rfl rfl) (cellRs hS.ok 1 rfl (fun _ => rfl) rfl (by omega) rfl)) ?_
        | refine wl_v (x_load Try.underlying3 rfl (tmP rfl rfl) (cellV hS.ok 3 rfl rfl)) ?_
        | refine wl_v (x_load Try.underlying3 rfl (tmP rfl rfl) (cellV hS.ok 3 rfl (getm (by omega)))) ?_
        | refine wl_v (x_load Try.underlying3 rfl (tmP rfl rfl) (cellVs hS.ok 3 rfl (fun _ => rfl) rfl (by omega) rfl)) ?_
        | refine wl_v (x_load Try.underlying3 rfl (tmP rfl rfl) (cellV hS.ok 4 rfl rfl)) ?_
        | refine wl_v (x_load Try.underlying3 rfl (tmP rfl rfl) (cellV hS.ok 4 rfl (getm (by omega)))) ?_
        | refine wl_v (x_load Try.underlying3 rfl (tmP rfl rfl) (cellVs hS.ok 4 rfl (fun _ => rfl) rfl (by omega) rfl)) ?_
       refine wl_v (x_leq (tmI rfl rfl) (ev_cN 0)) ?_
       refine wl_nil ?_
       refine then_n (hK10 _ _ ?_); clear hK10 K10
       refine cnd (tm rfl) (fun hc1 => ?_) (fun hc1 => ?_)
       · try (exfalso; first | with_reducible exact absurd hc1 Bool.false_ne_true | with_reducible exact absurd hc1.symm Bool.false_ne_true | (simp only [nrm] at hc1; omega) | (simp at hc1; done))
         all_goals
          try simp only [nrm] at hc1
          have hSn : R = srt ((wgt (l.take (i + 1))).map f) := by
            rw [hno (by first | omega | (simp at hc1; omega)), ← hR]
          refine wp_exit ?_
          refine then_x ?_; clear hK9 K9
          refine inb_x ?_
          refine then_n (hK8 _ _ ?_); clear hK8 K8
          refine wlit ?_
          refine wl_v (x_move (tmI rfl rfl)) ?_
          first
           | refine wl_v (x_addN (tmI rfl rfl) (ev_cN 1) (fit_i64 (by omega))) ?_
           | refine wl_v (x_addI (tmI rfl rfl) (ev_cN 1) (IntWalk.i64_in _ (by omega))) ?_
           | refine wl_v (x_add (tmI rfl rfl) (ev_cN 1)) ?_
          refine wl_v (x_assign (tmI rfl rfl)) ?_
          refine wl_nil ?_
          first
           | exact then_n ⟨_, _, rfl, (by show _ < _; omega), (by repeat (first | exact agree_self | exact agree_refl | refine agree_upd rfl ?_ | refine agree_mix rfl ?_)), i + 1, _, _, _, _, _, ins R x, rfl, (by first | rfl | go_num | exact congrArg (Value.int _) (by first | omega | (simp; done) | (simp; omega))), (by first | rfl | go_num | exact congrArg (Value.int _) (by first | omega | (simp; done) | (simp; omega))), (by first | rfl | go_num | exact congrArg (Value.int _) (by first | omega | (simp; done) | (simp; omega))), hS.pick [0, 1, 2, 3, 4] rfl rfl, (by omega), (by first | exact hn1 | (rw [hil]; omega) | rfl), (by first | exact hSy | exact hSn | rfl), (by omega)⟩
           | exact then_n ⟨_, _, rfl, (by show _ < _; omega), (by repeat (first | exact agree_self | exact agree_refl | refine agree_upd rfl ?_ | refine agree_mix rfl ?_)), i + 1, A1, n1, c1, A2, c2, R, rfl, (by first | rfl | go_num | exact congrArg (Value.int _) (by first | omega | (simp; done) | (simp; omega))), (by first | rfl | go_num | exact congrArg (Value.int _) (by first | omega | (simp; done) | (simp; omega))), (by first | rfl | go_num | exact congrArg (Value.int _) (by first | omega | (simp; done) | (simp; omega))), hS.pick [0, 1, 2, 3, 4] rfl rfl, (by omega), (by first | exact hn1 | (rw [hil]; omega) | rfl), (by first | exact hSy | exact hSn | rfl), (by omega)⟩
       try (exfalso; first | with_reducible exact absurd hc1 Bool.false_ne_true | with_reducible exact absurd hc1.symm Bool.false_ne_true | (simp only [nrm] at hc1; omega) | (simp at hc1; done))
       all_goals
        try simp only [nrm] at hc1
        have hSy : ins R (f (l.getD i default)) = srt ((wgt (l.take (i + 1))).map f) := by
          rw [hyes (by first | omega | (simp at hc1; omega)), List.map_append, List.map_singleton, srt_snoc, ← hR]
        have hil := ins_len R (f (l.getD i default))
        refine wp_skip ?_
        refine then_n (hK9 _ _ ?_); clear hK9 K9
        refine wp_seq_k ?_; intro K11 hK11
        refine rg_startk 0 hS mixed_ ?_
        clear hS; intro w hS
        refine rg_take 0 rfl rfl (by kernel_rfl) (by kernel_rfl) (by kernel_rfl) (want_0) (fun w hok => x_loadA (cs := [_, _, _, _, _, _, _, _, _, _, _, _, _, _, _, _]) Try.underlying22 rfl ts_22 (tmP rfl rfl) (rangeB hok 2 rfl rfl)) ?_
        refine rg_take 1 rfl rfl (by kernel_rfl) (by kernel_rfl) (by kernel_rfl) (want_0) (fun w hok => x_move (tmS rfl rfl)) ?_
        refine rg_take 2 rfl rfl (by kernel_rfl) (by kernel_rfl) (by kernel_rfl) (want_0) (fun w hok => x_move (tmI rfl rfl)) ?_
        refine rg_take 3 rfl rfl (by kernel_rfl) (by kernel_rfl) (by kernel_rfl) (want_0) (fun w hok => x_ixs Try.underlying23 ts_37 (tmS rfl rfl) (tmI rfl rfl) (by omega)) ?_
        first
         | refine rg_take 4 rfl rfl (by kernel_rfl) (by kernel_rfl) (by kernel_rfl) (want_0) (fun w hok => x_loadA Try.underlying37 rfl (by exact ts_37) (tmP rfl rfl) (rangeRs hok 0 rfl (fun _ => rfl) (by omega))) ?_
         | refine rg_take 4 rfl rfl (by kernel_rfl) (by kernel_rfl) (by kernel_rfl) (want_0) (fun w hok => x_loadA Try.underlying37 rfl (by exact ts_37) (tmP rfl rfl) (rangeRs hok 1 rfl (fun _ => rfl) (by omega))) ?_
         | refine rg_take 4 rfl rfl (by kernel_rfl) (by kernel_rfl) (by kernel_rfl) (want_0) (fun w hok => x_loadA Try.underlying37 rfl (by exact ts_37) (tmP rfl rfl) (rangeVs hok 3 rfl (fun _ => rfl) (by omega))) ?_
         | refine rg_take 4 rfl rfl (by kernel_rfl) (by kernel_rfl) (by kernel_rfl) (want_0) (fun w hok => x_loadA Try.underlying37 rfl (by exact ts_37) (tmP rfl rfl) (rangeVs hok 4 rfl (fun _ => rfl) (by omega))) ?_
        refine rg_take 5 rfl rfl (by kernel_rfl) (by kernel_rfl) (by kernel_rfl) (want_0) (fun w hok => x_move (tmS rfl rfl)) ?_
        refine rg_step 6 rfl (by kernel_rfl) (want_0) (oks_drop hS 0 rfl) ?_; intro K hK
        refine ow_call Try.func11 rfl rfl (evs_cons (tmA rfl rfl) <| evs_cons (tmA rfl rfl) <| evs_cons (tmS rfl rfl) <| evs_nil) (hsc (l.getD i default) hpm _ (viewV hS.ok 4 rfl)) ?_
        rintro e w ⟨rfl, hk⟩
        refine ⟨_, rfl, ?_⟩
        replace hS := hS.kept hk
        clear hk
        obtain ⟨x, hx⟩ : ∃ x, x = f (l.getD i default) := ⟨_, rfl⟩
        rw [← hx] at hSy hil hflp hfp1 ⊢
        subst hn1
        refine hK _ _ ?_; clear hK K
        refine rg_take 7 rfl rfl (by kernel_rfl) (by kernel_rfl) (by kernel_rfl) (want_0) (fun w hok => x_assign (tmI rfl rfl)) ?_
        refine rg_done (oks_drop hS 0 rfl) (by kernel_rfl) ?_
        refine then_n (hK11 _ _ ?_); clear hK11 K11
        refine wp_seq_k ?_; intro K12 hK12
        refine wlit ?_
        refine wl_v (x_move (tmS rfl rfl)) ?_
        refine wl_v (x_len Try.underlying27 (tmS rfl rfl)) ?_
        refine wl_v (x_assign (tmI rfl rfl)) ?_
        refine wl_nil ?_
        refine then_n (hK12 _ _ ?_); clear hK12 K12
        refine wp_seq_k ?_; intro K13 hK13
        refine wp_block ?_
        refine lp [11, 33, 34, 35, 36, 37, 38, 39, 40, 41, 42, 43, 44, 45, 46, 47, 48, 49, 50, 51, 52, 53, 54, 55, 56, 57, 58, 59, 60, 61, 62, 63, 64, 65, 66, 67] (fun mz g w => ∃ (q : Nat), mz = 2 * q ∧ g 11 = .int .i64 (q : Int) ∧ St [] w0 [.row (.slice A1 R.length c1) 3 1 R.length (idv R), .row (.slice A2 R.length c2) 32 1 R.length (scv R), .blk g0_0 22 (kC k), .vw (some ⟨b4, o4, none⟩) (flat mv l), .vw B (b.map u8v)] w ∧ (q ≤ R.length) ∧ (plc R x R.length = plc R x q)) ?_ ?_
        · exact ⟨_, R.length, rfl, (by first | rfl | go_num | exact congrArg (Value.int _) (by first | omega | (simp; done) | (simp; omega))), hS, (by omega), (by first | exact hp2 | rfl)⟩
        · clear hS; intro mz g w hI
          obtain ⟨q, rfl, hs11, hS, hq, hp⟩ := hI
          refine fr_know (d := 11) hs11 ?_; clear hs11
          refine wp_seq_k ?_; intro K14 hK14
          refine wp_seq_k ?_; intro K15 hK15
          refine cutc [33, 34, 35, 36, 37, 38, 39, 40, 41, 42, 43, 44, 45, 46, 47, 48, 49, 50, 51, 52, 53, 54, 55, 56, 57, 58, 59, 60, 61, 62, 63, 64, 65] (fun g w => ∃ (bq : Bool), g 65 = .bool bq ∧ St [] w0 [.row (.slice A1 R.length c1) 3 1 R.length (idv R), .row (.slice A2 R.length c2) 32 1 R.length (scv R), .blk g0_0 22 (kC k), .vw (some ⟨b4, o4, none⟩) (flat mv l), .vw B (b.map u8v)] w ∧ ((bq = true ↔ (0 < q ∧ Bf x (R.getD (q - 1) default))))) ?_ ?_
          · skip
            refine rg_startk 0 hS mixed_ ?_
            clear hS; intro w hS
            refine rg_take 0 rfl rfl (by kernel_rfl) (by kernel_rfl) (by kernel_rfl) (want_0) (fun w hok => x_move (tmI rfl rfl)) ?_
            refine rg_take 1 rfl rfl (by kernel_rfl) (by kernel_rfl) (by kernel_rfl) (want_0) (fun w hok => x_gtr (tmI rfl rfl) (ev_cN 0)) ?_
            refine rg_take 2 rfl rfl (by kernel_rfl) (by kernel_rfl) (by kernel_rfl) (want_0) (fun w hok => x_move (tmB rfl rfl)) ?_
            refine gs_rg (tm (t := 35) rfl) (fun hg9_2 => ?_) (fun hg9_2 => ?_)
            · have hg9_2' := hg9_2; (try simp only [nrm] at hg9_2'); try (exfalso; first | with_reducible exact absurd hg9_2 Bool.false_ne_true | with_reducible exact absurd hg9_2.symm Bool.false_ne_true | omega | (simp at hg9_2; done))
              all_goals
               obtain ⟨ga, rfl⟩ := row_some (hS.rowOk 0 rfl) (by omega)
               obtain ⟨gs, rfl⟩ := row_some (hS.rowOk 1 rfl) (by omega)
               obtain ⟨y, hy⟩ : ∃ y, y = R.getD (q - 1) default := ⟨_, rfl⟩
               have hyi := idv_get (l := R) (i := q - 1) (by omega)
               have hys := scv_get (l := R) (i := q - 1) (by omega)
               rw [← hy] at hyi hys
               refine rg_take 3 rfl rfl (by kernel_rfl) (by kernel_rfl) (by kernel_rfl) (want_y rfl rfl rfl rfl (by rw [hg9_2]; rfl)) (fun w hok => x_move (tmS rfl rfl)) ?_
               refine rg_take 4 rfl rfl (by kernel_rfl) (by kernel_rfl) (by kernel_rfl) (want_y rfl rfl rfl rfl (by rw [hg9_2]; rfl)) (fun w hok => x_move (tmI rfl rfl)) ?_
               first
                | refine rg_take 5 rfl rfl (by kernel_rfl) (by kernel_rfl) (by kernel_rfl) (want_y rfl rfl rfl rfl (by rw [hg9_2]; rfl)) (fun w hok => x_subN (tmI rfl rfl) (ev_cN 1) (fit_i64 (by omega)) (by omega)) ?_
                | refine rg_take 5 rfl rfl (by kernel_rfl) (by kernel_rfl) (by kernel_rfl) (want_y rfl rfl rfl rfl (by rw [hg9_2]; rfl)) (fun w hok => x_subI (tmI rfl rfl) (ev_cN 1) (IntWalk.i64_in _ (by omega))) ?_
                | refine rg_take 5 rfl rfl (by kernel_rfl) (by kernel_rfl) (by kernel_rfl) (want_y rfl rfl rfl rfl (by rw [hg9_2]; rfl)) (fun w hok => x_sub (tmI rfl rfl) (ev_cN 1)) ?_
               refine rg_take 6 rfl rfl (by kernel_rfl) (by kernel_rfl) (by kernel_rfl) (want_y rfl rfl rfl rfl (by rw [hg9_2]; rfl)) (fun w hok => x_ixs1 Try.underlying49 ts_32 (tmS rfl rfl) (tmI rfl rfl) (by omega)) ?_
               refine rg_take 7 rfl rfl (by kernel_rfl) (by kernel_rfl) (by kernel_rfl) (want_y rfl rfl rfl rfl (by rw [hg9_2]; rfl)) (fun w hok => x_load (v := .int .u64 ((y.2 : Nat) : Int)) Try.underlying32 rfl (tmP rfl rfl) (cellR hok 1 rfl hys)) ?_
               refine rg_take 8 rfl rfl (by kernel_rfl) (by kernel_rfl) (by kernel_rfl) (want_y rfl rfl rfl rfl (by rw [hg9_2]; rfl)) (fun w hok => x_move (tmI rfl rfl)) ?_
               refine rg_take 9 rfl rfl (by kernel_rfl) (by kernel_rfl) (by kernel_rfl) (want_y rfl rfl rfl rfl (by rw [hg9_2]; rfl)) (fun w hok => x_lss (tmI rfl rfl) (tmI rfl rfl)) ?_
               refine rg_take 10 rfl rfl (by kernel_rfl) (by kernel_rfl) (by kernel_rfl) (want_y rfl rfl rfl rfl (by rw [hg9_2]; rfl)) (fun w hok => x_move (tmB rfl rfl)) ?_
               refine gs_rg (tm (t := 43) rfl) (fun hg9_10 => ?_) (fun hg9_10 => ?_)
               · have hg9_10' := hg9_10; (try simp only [nrm] at hg9_10'); try (exfalso; first | with_reducible exact absurd hg9_10 Bool.false_ne_true | with_reducible exact absurd hg9_10.symm Bool.false_ne_true | omega | (simp at hg9_10; done))
                 all_goals
                  refine rg_skip 11 rfl rfl (by kernel_rfl) (by kernel_rfl) (by kernel_rfl) (want_n rfl rfl rfl rfl (by rw [hg9_10]; rfl)) ?_
                  refine rg_skip 12 rfl rfl (by kernel_rfl) (by kernel_rfl) (by kernel_rfl) (want_n rfl rfl rfl rfl (by rw [hg9_10]; rfl)) ?_
                  refine rg_skip 13 rfl rfl (by kernel_rfl) (by kernel_rfl) (by kernel_rfl) (want_n rfl rfl rfl rfl (by rw [hg9_10]; rfl)) ?_
                  refine rg_skip 14 rfl rfl (by kernel_rfl) (by kernel_rfl) (by kernel_rfl) (want_n rfl rfl rfl rfl (by rw [hg9_10]; rfl)) ?_
                  refine rg_skip 15 rfl rfl (by kernel_rfl) (by kernel_rfl) (by kernel_rfl) (want_n rfl rfl rfl rfl (by rw [hg9_10]; rfl)) ?_
                  refine rg_skip 16 rfl rfl (by kernel_rfl) (by kernel_rfl) (by kernel_rfl) (want_n rfl rfl rfl rfl (by rw [hg9_10]; rfl)) ?_
                  refine rg_skip 17 rfl rfl (by kernel_rfl) (by kernel_rfl) (by kernel_rfl) (want_n rfl rfl rfl rfl (by rw [hg9_10]; rfl)) ?_
                  refine rg_skip 18 rfl rfl (by kernel_rfl) (by kernel_rfl) (by kernel_rfl) (want_n rfl rfl rfl rfl (by rw [hg9_10]; rfl)) ?_
                  refine rg_skip 19 rfl rfl (by kernel_rfl) (by kernel_rfl) (by kernel_rfl) (want_u rfl rfl rfl rfl) ?_
                  refine rg_skip 20 rfl rfl (by kernel_rfl) (by kernel_rfl) (by kernel_rfl) (want_u rfl rfl rfl rfl) ?_
                  refine rg_skip 21 rfl rfl (by kernel_rfl) (by kernel_rfl) (by kernel_rfl) (want_u rfl rfl rfl rfl) ?_
                  refine rg_skip 22 rfl rfl (by kernel_rfl) (by kernel_rfl) (by kernel_rfl) (want_u rfl rfl rfl rfl) ?_
                  refine rg_skip 23 rfl rfl (by kernel_rfl) (by kernel_rfl) (by kernel_rfl) (want_u rfl rfl rfl rfl) ?_
                  refine rg_skip 24 rfl rfl (by kernel_rfl) (by kernel_rfl) (by kernel_rfl) (want_u rfl rfl rfl rfl) ?_
                  refine rg_skip 25 rfl rfl (by kernel_rfl) (by kernel_rfl) (by kernel_rfl) (want_u rfl rfl rfl rfl) ?_
                  refine rg_skip 26 rfl rfl (by kernel_rfl) (by kernel_rfl) (by kernel_rfl) (want_u rfl rfl rfl rfl) ?_
                  refine rg_skip 27 rfl rfl (by kernel_rfl) (by kernel_rfl) (by kernel_rfl) (want_u rfl rfl rfl rfl) ?_
                  refine rg_skip 28 rfl rfl (by kernel_rfl) (by kernel_rfl) (by kernel_rfl) (want_u rfl rfl rfl rfl) ?_
                  refine rg_skip 29 rfl rfl (by kernel_rfl) (by kernel_rfl) (by kernel_rfl) (want_u rfl rfl rfl rfl) ?_
                  refine rg_skip 30 rfl rfl (by kernel_rfl) (by kernel_rfl) (by kernel_rfl) (want_n rfl rfl rfl rfl (by rw [hg9_10]; rfl)) ?_
                  refine rg_take 31 rfl rfl (by kernel_rfl) (by kernel_rfl) (by kernel_rfl) (want_y rfl rfl rfl rfl (by rw [hg9_2]; rfl)) (fun w hok => x_pickT (tmB rfl rfl) hg9_10 ev_c) ?_
                  refine rg_take 32 rfl rfl (by kernel_rfl) (by kernel_rfl) (by kernel_rfl) (want_0) (fun w hok => x_pickT (tmB rfl rfl) hg9_2 (tmB rfl rfl)) ?_
                  refine rg_done (oks_drop hS 0 rfl) (by kernel_rfl) ?_
                  exact then_n ⟨_, rfl, (by repeat (first | exact agree_self | exact agree_refl | refine agree_upd rfl ?_ | refine agree_mix rfl ?_)), _, (by first | rfl | go_num | exact congrArg (Value.int _) (by first | omega | (simp; done) | (simp; omega))), hS, (by first | (rw [← hy]; unfold Bf; constructor <;> intro h <;> first | rfl | omega | (simp only [decide_eq_true_eq] at h; omega) | (simp only [decide_eq_true_eq]; omega) | (simp at h; done)) | (constructor <;> intro h <;> first | rfl | omega | (simp only [decide_eq_true_eq] at h; omega) | (simp only [decide_eq_true_eq]; omega) | (simp at h; done)))⟩
               have hg9_10' := hg9_10; (try simp only [nrm] at hg9_10'); try (exfalso; first | with_reducible exact absurd hg9_10 Bool.false_ne_true | with_reducible exact absurd hg9_10.symm Bool.false_ne_true | omega | (simp at hg9_10; done))
               all_goals
                refine rg_take 11 rfl rfl (by kernel_rfl) (by kernel_rfl) (by kernel_rfl) (want_y rfl rfl rfl rfl (by rw [hg9_10]; rfl)) (fun w hok => x_move (tmS rfl rfl)) ?_
                refine rg_take 12 rfl rfl (by kernel_rfl) (by kernel_rfl) (by kernel_rfl) (want_y rfl rfl rfl rfl (by rw [hg9_10]; rfl)) (fun w hok => x_move (tmI rfl rfl)) ?_
                first
                 | refine rg_take 13 rfl rfl (by kernel_rfl) (by kernel_rfl) (by kernel_rfl) (want_y rfl rfl rfl rfl (by rw [hg9_10]; rfl)) (fun w hok => x_subN (tmI rfl rfl) (ev_cN 1) (fit_i64 (by omega)) (by omega)) ?_
                 | refine rg_take 13 rfl rfl (by kernel_rfl) (by kernel_rfl) (by kernel_rfl) (want_y rfl rfl rfl rfl (by rw [hg9_10]; rfl)) (fun w hok => x_subI (tmI rfl rfl) (ev_cN 1) (IntWalk.i64_in _ (by omega))) ?_
                 | refine rg_take 13 rfl rfl (by kernel_rfl) (by kernel_rfl) (by kernel_rfl) (want_y rfl rfl rfl rfl (by rw [hg9_10]; rfl)) (fun w hok => x_sub (tmI rfl rfl) (ev_cN 1)) ?_
                refine rg_take 14 rfl rfl (by kernel_rfl) (by kernel_rfl) (by kernel_rfl) (want_y rfl rfl rfl rfl (by rw [hg9_10]; rfl)) (fun w hok => x_ixs1 Try.underlying49 ts_32 (tmS rfl rfl) (tmI rfl rfl) (by omega)) ?_
                refine rg_take 15 rfl rfl (by kernel_rfl) (by kernel_rfl) (by kernel_rfl) (want_y rfl rfl rfl rfl (by rw [hg9_10]; rfl)) (fun w hok => x_load (v := .int .u64 ((y.2 : Nat) : Int)) Try.underlying32 rfl (tmP rfl rfl) (cellR hok 1 rfl hys)) ?_
                refine rg_take 16 rfl rfl (by kernel_rfl) (by kernel_rfl) (by kernel_rfl) (want_y rfl rfl rfl rfl (by rw [hg9_10]; rfl)) (fun w hok => x_move (tmI rfl rfl)) ?_
                refine rg_take 17 rfl rfl (by kernel_rfl) (by kernel_rfl) (by kernel_rfl) (want_y rfl rfl rfl rfl (by rw [hg9_10]; rfl)) (fun w hok => x_eql (tmI rfl rfl) (tmI rfl rfl)) ?_
                refine rg_take 18 rfl rfl (by kernel_rfl) (by kernel_rfl) (by kernel_rfl) (want_y rfl rfl rfl rfl (by rw [hg9_10]; rfl)) (fun w hok => x_move (tmB rfl rfl)) ?_
                refine gs_rg (tm (t := 51) rfl) (fun hg9_18 => ?_) (fun hg9_18 => ?_)
                · have hg9_18' := hg9_18; (try simp only [nrm] at hg9_18'); try (exfalso; first | with_reducible exact absurd hg9_18 Bool.false_ne_true | with_reducible exact absurd hg9_18.symm Bool.false_ne_true | omega | (simp at hg9_18; done))
                  all_goals
                   refine rg_take 19 rfl rfl (by kernel_rfl) (by kernel_rfl) (by kernel_rfl) (want_y rfl rfl rfl rfl (by rw [hg9_18]; rfl)) (fun w hok => x_move (tmS rfl rfl)) ?_
                   refine rg_take 20 rfl rfl (by kernel_rfl) (by kernel_rfl) (by kernel_rfl) (want_y rfl rfl rfl rfl (by rw [hg9_18]; rfl)) (fun w hok => x_move (tmI rfl rfl)) ?_
                   first
                    | refine rg_take 21 rfl rfl (by kernel_rfl) (by kernel_rfl) (by kernel_rfl) (want_y rfl rfl rfl rfl (by rw [hg9_18]; rfl)) (fun w hok => x_subN (tmI rfl rfl) (ev_cN 1) (fit_i64 (by omega)) (by omega)) ?_
                    | refine rg_take 21 rfl rfl (by kernel_rfl) (by kernel_rfl) (by kernel_rfl) (want_y rfl rfl rfl rfl (by rw [hg9_18]; rfl)) (fun w hok => x_subI (tmI rfl rfl) (ev_cN 1) (IntWalk.i64_in _ (by omega))) ?_
                    | refine rg_take 21 rfl rfl (by kernel_rfl) (by kernel_rfl) (by kernel_rfl) (want_y rfl rfl rfl rfl (by rw [hg9_18]; rfl)) (fun w hok => x_sub (tmI rfl rfl) (ev_cN 1)) ?_
                   refine rg_take 22 rfl rfl (by kernel_rfl) (by kernel_rfl) (by kernel_rfl) (want_y rfl rfl rfl rfl (by rw [hg9_18]; rfl)) (fun w hok => x_ixs1 Try.underlying27 ts_3 (tmS rfl rfl) (tmI rfl rfl) (by omega)) ?_
                   refine rg_take 23 rfl rfl (by kernel_rfl) (by kernel_rfl) (by kernel_rfl) (want_y rfl rfl rfl rfl (by rw [hg9_18]; rfl)) (fun w hok => x_load (v := .int .i64 y.1) Try.underlying3 rfl (tmP rfl rfl) (cellR hok 0 rfl hyi)) ?_
                   refine rg_take 24 rfl rfl (by kernel_rfl) (by kernel_rfl) (by kernel_rfl) (want_y rfl rfl rfl rfl (by rw [hg9_18]; rfl)) (fun w hok => x_move (tmS rfl rfl)) ?_
                   refine rg_take 25 rfl rfl (by kernel_rfl) (by kernel_rfl) (by kernel_rfl) (want_y rfl rfl rfl rfl (by rw [hg9_18]; rfl)) (fun w hok => x_move (tmI rfl rfl)) ?_
                   refine rg_take 26 rfl rfl (by kernel_rfl) (by kernel_rfl) (by kernel_rfl) (want_y rfl rfl rfl rfl (by rw [hg9_18]; rfl)) (fun w hok => x_ixs Try.underlying23 ts_37 (tmS rfl rfl) (tmI rfl rfl) (by omega)) ?_
                   refine rg_take 27 rfl rfl (by kernel_rfl) (by kernel_rfl) (by kernel_rfl) (want_y rfl rfl rfl rfl (by rw [hg9_18]; rfl)) (fun w hok => x_fa 0 Try.underlying37 rfl rfl ts_3 (tmP rfl rfl)) ?_
                   first
                    | refine rg_take 28 rfl rfl (by kernel_rfl) (by kernel_rfl) (by kernel_rfl) (want_y rfl rfl rfl rfl (by rw [hg9_18]; rfl)) (fun w hok => x_load Try.underlying3 rfl (tmP rfl rfl) (cellR hok 0 rfl rfl)) ?_
                    | refine rg_take 28 rfl rfl (by kernel_rfl) (by kernel_rfl) (by kernel_rfl) (want_y rfl rfl rfl rfl (by rw [hg9_18]; rfl)) (fun w hok => x_load Try.underlying3 rfl (tmP rfl rfl) (cellR hok 0 rfl (getm (by omega)))) ?_
                    | refine rg_take 28 rfl rfl (by kernel_rfl) (by kernel_rfl) (by kernel_rfl) (want_y rfl rfl rfl rfl (by rw [hg9_18]; rfl)) (fun w hok => x_load Try.underlying3 rfl (tmP rfl rfl) (cellRs hok 0 rfl (fun _ => rfl) rfl (by omega) rfl)) ?_
                    | refine rg_take 28 rfl rfl (by kernel_rfl) (by kernel_rfl) (by kernel_rfl) (want_y rfl rfl rfl rfl (by rw [hg9_18]; rfl)) (fun w hok => x_load Try.underlying3 rfl (tmP rfl rfl) (cellR hok 1 rfl rfl)) ?_
                    | refine rg_take 28 rfl rfl (by kernel_rfl) (by kernel_rfl) (by kernel_rfl) (want_y rfl rfl rfl rfl (by rw [hg9_18]; rfl)) (fun w hok => x_load Try.underlying3 rfl (tmP rfl rfl) (cellR hok 1 rfl (getm (by omega)))) ?_
                    | refine rg_take 28 rfl rfl (by kernel_rfl) (by kernel_rfl) (by kernel_rfl) (want_y rfl rfl rfl rfl (by rw [hg9_18]; rfl)) (fun w hok => x_load Try.underlying3 rfl (tmP rfl rfl) (cellRs hok 1 rfl (fun _ => rfl) rfl (by omega) rfl)) ?_
                    | refine rg_take 28 rfl rfl (by kernel_rfl) (by kernel_rfl) (by kernel_rfl) (want_y rfl rfl rfl rfl (by rw [hg9_18]; rfl)) (fun w hok => x_load Try.underlying3 rfl (tmP rfl rfl) (cellV hok 3 rfl rfl)) ?_
                    | refine rg_take 28 rfl rfl (by kernel_rfl) (by kernel_rfl) (by kernel_rfl) (want_y rfl rfl rfl rfl (by rw [hg9_18]; rfl)) (fun w hok => x_load Try.underlying3 rfl (tmP rfl rfl) (cellV hok 3 rfl (getm (by omega)))) ?_
                    | refine rg_take 28 rfl rfl (by kernel_rfl) (by kernel_rfl) (by kernel_rfl) (want_y rfl rfl rfl rfl (by rw [hg9_18]; rfl)) (fun w hok => x_load Try.underlying3 rfl (tmP rfl rfl) (cellVs hok 3 rfl (fun _ => rfl) rfl (by omega) rfl)) ?_
                    | refine rg_take 28 rfl rfl (by kernel_rfl) (by kernel_rfl) (by kernel_rfl) (want_y rfl rfl rfl rfl (by rw [hg9_18]; rfl)) (fun w hok => x_load Try.underlying3 rfl (tmP rfl rfl) (cellV hok 4 rfl rfl)) ?_
                    | refine rg_take 28 rfl rfl (by kernel_rfl) (by kernel_rfl) (by kernel_rfl) (want_y rfl rfl rfl rfl (by rw [hg9_18]; rfl)) (fun w hok => x_load Try.underlying3 rfl (tmP rfl rfl) (cellV hok 4 rfl (getm (by omega)))) ?_
                    | refine rg_take 28 rfl rfl (by kernel_rfl) (by kernel_rfl) (by kernel_rfl) (want_y rfl rfl rfl rfl (by rw [hg9_18]; rfl)) (fun w hok => x_load Try.underlying3 rfl (tmP rfl rfl) (cellVs hok 4 rfl (fun _ => rfl) rfl (by omega) rfl)) ?_
                   refine rg_take 29 rfl rfl (by kernel_rfl) (by kernel_rfl) (by kernel_rfl) (want_y rfl rfl rfl rfl (by rw [hg9_18]; rfl)) (fun w hok => x_gtr (tmI rfl rfl) (tmI rfl rfl)) ?_
                   refine rg_take 30 rfl rfl (by kernel_rfl) (by kernel_rfl) (by kernel_rfl) (want_y rfl rfl rfl rfl (by rw [hg9_10]; rfl)) (fun w hok => x_pickT (tmB rfl rfl) hg9_18 (tmB rfl rfl)) ?_
                   refine rg_take 31 rfl rfl (by kernel_rfl) (by kernel_rfl) (by kernel_rfl) (want_y rfl rfl rfl rfl (by rw [hg9_2]; rfl)) (fun w hok => x_pickF (tmB rfl rfl) hg9_10 (tmB rfl rfl)) ?_
                   refine rg_take 32 rfl rfl (by kernel_rfl) (by kernel_rfl) (by kernel_rfl) (want_0) (fun w hok => x_pickT (tmB rfl rfl) hg9_2 (tmB rfl rfl)) ?_
                   refine rg_done (oks_drop hS 0 rfl) (by kernel_rfl) ?_
                   exact then_n ⟨_, rfl, (by repeat (first | exact agree_self | exact agree_refl | refine agree_upd rfl ?_ | refine agree_mix rfl ?_)), _, (by first | rfl | go_num | exact congrArg (Value.int _) (by first | omega | (simp; done) | (simp; omega))), hS, (by first | (rw [← hy]; unfold Bf; constructor <;> intro h <;> first | rfl | omega | (simp only [decide_eq_true_eq] at h; omega) | (simp only [decide_eq_true_eq]; omega) | (simp at h; done)) | (constructor <;> intro h <;> first | rfl | omega | (simp only [decide_eq_true_eq] at h; omega) | (simp only [decide_eq_true_eq]; omega) | (simp at h; done)))⟩
                have hg9_18' := hg9_18; (try simp only [nrm] at hg9_18'); try (exfalso; first | with_reducible exact absurd hg9_18 Bool.false_ne_true | with_reducible exact absurd hg9_18.symm Bool.false_ne_true | omega | (simp at hg9_18; done))
                all_goals
                 refine rg_skip 19 rfl rfl (by kernel_rfl) (by kernel_rfl) (by kernel_rfl) (want_n rfl rfl rfl rfl (by rw [hg9_18]; rfl)) ?_
                 refine rg_skip 20 rfl rfl (by kernel_rfl) (by kernel_rfl) (by kernel_rfl) (want_n rfl rfl rfl rfl (by rw [hg9_18]; rfl)) ?_
                 refine rg_skip 21 rfl rfl (by kernel_rfl) (by kernel_rfl) (by kernel_rfl) (want_n rfl rfl rfl rfl (by rw [hg9_18]; rfl)) ?_
                 refine rg_skip 22 rfl rfl (by kernel_rfl) (by kernel_rfl) (by kernel_rfl) (want_n rfl rfl rfl rfl (by rw [hg9_18]; rfl)) ?_
                 refine rg_skip 23 rfl rfl (by kernel_rfl) (by kernel_rfl) (by kernel_rfl) (want_n rfl rfl rfl rfl (by rw [hg9_18]; rfl)) ?_
                 refine rg_skip 24 rfl rfl (by kernel_rfl) (by kernel_rfl) (by kernel_rfl) (want_n rfl rfl rfl rfl (by rw [hg9_18]; rfl)) ?_
                 refine rg_skip 25 rfl rfl (by kernel_rfl) (by kernel_rfl) (by kernel_rfl) (want_n rfl rfl rfl rfl (by rw [hg9_18]; rfl)) ?_
                 refine rg_skip 26 rfl rfl (by kernel_rfl) (by kernel_rfl) (by kernel_rfl) (want_n rfl rfl rfl rfl (by rw [hg9_18]; rfl)) ?_
                 refine rg_skip 27 rfl rfl (by kernel_rfl) (by kernel_rfl) (by kernel_rfl) (want_n rfl rfl rfl rfl (by rw [hg9_18]; rfl)) ?_
                 refine rg_skip 28 rfl rfl (by kernel_rfl) (by kernel_rfl) (by kernel_rfl) (want_n rfl rfl rfl rfl (by rw [hg9_18]; rfl)) ?_
                 refine rg_skip 29 rfl rfl (by kernel_rfl) (by kernel_rfl) (by kernel_rfl) (want_n rfl rfl rfl rfl (by rw [hg9_18]; rfl)) ?_
                 refine rg_take 30 rfl rfl (by kernel_rfl) (by kernel_rfl) (by kernel_rfl) (want_y rfl rfl rfl rfl (by rw [hg9_10]; rfl)) (fun w hok => x_pickF (tmB rfl rfl) hg9_18 ev_c) ?_
                 refine rg_take 31 rfl rfl (by kernel_rfl) (by kernel_rfl) (by kernel_rfl) (want_y rfl rfl rfl rfl (by rw [hg9_2]; rfl)) (fun w hok => x_pickF (tmB rfl rfl) hg9_10 (tmB rfl rfl)) ?_
                 refine rg_take 32 rfl rfl (by kernel_rfl) (by kernel_rfl) (by kernel_rfl) (want_0) (fun w hok => x_pickT (tmB rfl rfl) hg9_2 (tmB rfl rfl)) ?_
                 refine rg_done (oks_drop hS 0 rfl) (by kernel_rfl) ?_
                 exact then_n ⟨_, rfl, (by repeat (first | exact agree_self | exact agree_refl | refine agree_upd rfl ?_ | refine agree_mix rfl ?_)), _, (by first | rfl | go_num | exact congrArg (Value.int _) (by first | omega | (simp; done) | (simp; omega))), hS, (by first | (rw [← hy]; unfold Bf; constructor <;> intro h <;> first | rfl | omega | (simp only [decide_eq_true_eq] at h; omega) | (simp only [decide_eq_true_eq]; omega) | (simp at h; done)) | (constructor <;> intro h <;> first | rfl | omega | (simp only [decide_eq_true_eq] at h; omega) | (simp only [decide_eq_true_eq]; omega) | (simp at h; done)))⟩
            have hg9_2' := hg9_2; (try simp only [nrm] at hg9_2'); try (exfalso; first | with_reducible exact absurd hg9_2 Bool.false_ne_true | with_reducible exact absurd hg9_2.symm Bool.false_ne_true | omega | (simp at hg9_2; done))
            all_goals
             refine rg_skip 3 rfl rfl (by kernel_rfl) (by kernel_rfl) (by kernel_rfl) (want_n rfl rfl rfl rfl (by rw [hg9_2]; rfl)) ?_
             refine rg_skip 4 rfl rfl (by kernel_rfl) (by kernel_rfl) (by kernel_rfl) (want_n rfl rfl rfl rfl (by rw [hg9_2]; rfl)) ?_
             refine rg_skip 5 rfl rfl (by kernel_rfl) (by kernel_rfl) (by kernel_rfl) (want_n rfl rfl rfl rfl (by rw [hg9_2]; rfl)) ?_
             refine rg_skip 6 rfl rfl (by kernel_rfl) (by kernel_rfl) (by kernel_rfl) (want_n rfl rfl rfl rfl (by rw [hg9_2]; rfl)) ?_
             refine rg_skip 7 rfl rfl (by kernel_rfl) (by kernel_rfl) (by kernel_rfl) (want_n rfl rfl rfl rfl (by rw [hg9_2]; rfl)) ?_
             refine rg_skip 8 rfl rfl (by kernel_rfl) (by kernel_rfl) (by kernel_rfl) (want_n rfl rfl rfl rfl (by rw [hg9_2]; rfl)) ?_
             refine rg_skip 9 rfl rfl (by kernel_rfl) (by kernel_rfl) (by kernel_rfl) (want_n rfl rfl rfl rfl (by rw [hg9_2]; rfl)) ?_
             refine rg_skip 10 rfl rfl (by kernel_rfl) (by kernel_rfl) (by kernel_rfl) (want_n rfl rfl rfl rfl (by rw [hg9_2]; rfl)) ?_
             refine rg_skip 11 rfl rfl (by kernel_rfl) (by kernel_rfl) (by kernel_rfl) (want_u rfl rfl rfl rfl) ?_
             refine rg_skip 12 rfl rfl (by kernel_rfl) (by kernel_rfl) (by kernel_rfl) (want_u rfl rfl rfl rfl) ?_
             refine rg_skip 13 rfl rfl (by kernel_rfl) (by kernel_rfl) (by kernel_rfl) (want_u rfl rfl rfl rfl) ?_
             refine rg_skip 14 rfl rfl (by kernel_rfl) (by kernel_rfl) (by kernel_rfl) (want_u rfl rfl rfl rfl) ?_
             refine rg_skip 15 rfl rfl (by kernel_rfl) (by kernel_rfl) (by kernel_rfl) (want_u rfl rfl rfl rfl) ?_
             refine rg_skip 16 rfl rfl (by kernel_rfl) (by kernel_rfl) (by kernel_rfl) (want_u rfl rfl rfl rfl) ?_
             refine rg_skip 17 rfl rfl (by kernel_rfl) (by kernel_rfl) (by kernel_rfl) (want_u rfl rfl rfl rfl) ?_
             refine rg_skip 18 rfl rfl (by kernel_rfl) (by kernel_rfl) (by kernel_rfl) (want_u rfl rfl rfl rfl) ?_
             refine rg_skip 19 rfl rfl (by kernel_rfl) (by kernel_rfl) (by kernel_rfl) (want_u rfl rfl rfl rfl) ?_
             refine rg_skip 20 rfl rfl (by kernel_rfl) (by kernel_rfl) (by kernel_rfl) (want_u rfl rfl rfl rfl) ?_
             refine rg_skip 21 rfl rfl (by kernel_rfl) (by kernel_rfl) (by kernel_rfl) (want_u rfl rfl rfl rfl) ?_
             refine rg_skip 22 rfl rfl (by kernel_rfl) (by kernel_rfl) (by kernel_rfl) (want_u rfl rfl rfl rfl) ?_
             refine rg_skip 23 rfl rfl (by kernel_rfl) (by kernel_rfl) (by kernel_rfl) (want_u rfl rfl rfl rfl) ?_
             refine rg_skip 24 rfl rfl (by kernel_rfl) (by kernel_rfl) (by kernel_rfl) (want_u rfl rfl rfl rfl) ?_
             refine rg_skip 25 rfl rfl (by kernel_rfl) (by kernel_rfl) (by kernel_rfl) (want_u rfl rfl rfl rfl) ?_
             refine rg_skip 26 rfl rfl (by kernel_rfl) (by kernel_rfl) (by kernel_rfl) (want_u rfl rfl rfl rfl) ?_
             refine rg_skip 27 rfl rfl (by kernel_rfl) (by kernel_rfl) (by kernel_rfl) (want_u rfl rfl rfl rfl) ?_
             refine rg_skip 28 rfl rfl (by kernel_rfl) (by kernel_rfl) (by kernel_rfl) (want_u rfl rfl rfl rfl) ?_
             refine rg_skip 29 rfl rfl (by kernel_rfl) (by kernel_rfl) (by kernel_rfl) (want_u rfl rfl rfl rfl) ?_
             refine rg_skip 30 rfl rfl (by kernel_rfl) (by kernel_rfl) (by kernel_rfl) (want_u rfl rfl rfl rfl) ?_
             refine rg_skip 31 rfl rfl (by kernel_rfl) (by kernel_rfl) (by kernel_rfl) (want_n rfl rfl rfl rfl (by rw [hg9_2]; rfl)) ?_
             refine rg_take 32 rfl rfl (by kernel_rfl) (by kernel_rfl) (by kernel_rfl) (want_0) (fun w hok => x_pickF (tmB rfl rfl) hg9_2 ev_c) ?_
             refine rg_done (oks_drop hS 0 rfl) (by kernel_rfl) ?_
             exact then_n ⟨_, rfl, (by repeat (first | exact agree_self | exact agree_refl | refine agree_upd rfl ?_ | refine agree_mix rfl ?_)), _, (by first | rfl | go_num | exact congrArg (Value.int _) (by first | omega | (simp; done) | (simp; omega))), hS, (by first | (rw [← hy]; unfold Bf; constructor <;> intro h <;> first | rfl | omega | (simp only [decide_eq_true_eq] at h; omega) | (simp only [decide_eq_true_eq]; omega) | (simp at h; done)) | (constructor <;> intro h <;> first | rfl | omega | (simp only [decide_eq_true_eq] at h; omega) | (simp only [decide_eq_true_eq]; omega) | (simp at h; done)))⟩
          · clear hS; intro g w hI
            obtain ⟨bq, hs65, hS, hbq⟩ := hI
            refine fr_knowQ (d := 65) hs65 ?_; clear hs65
            refine then_n (hK15 _ _ ?_); clear hK15 K15
            refine cnd (tm rfl) (fun hc2 => ?_) (fun hc2 => ?_)
            · try (exfalso; first | with_reducible exact absurd hc2 Bool.false_ne_true | with_reducible exact absurd hc2.symm Bool.false_ne_true | (simp only [nrm] at hc2; omega) | (simp at hc2; done))
              all_goals
               try simp only [nrm] at hc2
               have hq0 := hbq.1 hc2
               have hp2 : plc R x R.length = plc R x (q - 1) := by rw [hp]; exact plc_step hq0.1 hq0.2
               refine wp_skip ?_
               refine then_n (hK14 _ _ ?_); clear hK14 K14
               refine wp_block ?_
               refine wlit ?_
               refine wl_v (x_move (tmI rfl rfl)) ?_
               first
                | refine wl_v (x_subN (tmI rfl rfl) (ev_cN 1) (fit_i64 (by omega)) (by omega)) ?_
                | refine wl_v (x_subI (tmI rfl rfl) (ev_cN 1) (IntWalk.i64_in _ (by omega))) ?_
                | refine wl_v (x_sub (tmI rfl rfl) (ev_cN 1)) ?_
               refine wl_v (x_assign (tmI rfl rfl)) ?_
               refine wl_nil ?_
               refine inb_n ?_
               exact then_n ⟨_, _, rfl, (by show _ < _; omega), (by repeat (first | exact agree_self | exact agree_refl | refine agree_upd rfl ?_ | refine agree_mix rfl ?_)), q - 1, rfl, (by first | rfl | go_num | exact congrArg (Value.int _) (by first | omega | (simp; done) | (simp; omega))), hS, (by omega), (by first | exact hp2 | rfl)⟩
            try (exfalso; first | with_reducible exact absurd hc2 Bool.false_ne_true | with_reducible exact absurd hc2.symm Bool.false_ne_true | (simp only [nrm] at hc2; omega) | (simp at hc2; done))
            all_goals
             try simp only [nrm] at hc2
             refine wp_exit ?_
             refine then_x ?_; clear hK14 K14
             refine then_x ?_
             refine inb_x ?_
             refine then_n (hK13 _ _ ?_); clear hK13 K13
             refine wp_seq_k ?_; intro K17 hK17
             refine cutc [7, 68, 69, 70, 71, 72, 73, 74, 75, 76, 77, 78, 79, 80, 81, 82, 83] (fun g w => ∃ (A3 : Option Addr), ∃ (c3 : Nat), g 7 = .slice A3 (0 + q + 1 + (R.length - q)) c3 ∧ St [] w0 [.row (.slice A3 (0 + q + 1 + (R.length - q)) c3) 3 1 (0 + q + 1 + (R.length - q)) (idv (ins R x)), .row (.slice A2 R.length c2) 32 1 R.length (scv R), .blk g0_0 22 (kC k), .vw (some ⟨b4, o4, none⟩) (flat mv l), .vw B (b.map u8v)] w ∧ (plc R x R.length = q)) ?_ ?_
             · skip
               have hst : plc R x R.length = q := by
                 rw [hp]
                 apply plc_stop
                 by_cases h0 : q = 0
                 · exact .inl h0
                 · exact .inr fun h => by
                     have := hbq.2 ⟨by omega, h⟩
                     rw [this] at hc2
                     exact absurd hc2 (by simp)
               have hcp1 : R.length ≤ c1 := row_cap (hS.rowOk 0 rfl) (by decide)
               refine rg_startk 0 hS mixed_ ?_
               clear hS; intro w hS
               refine rg_take 1 rfl rfl (by kernel_rfl) (by kernel_rfl) (by kernel_rfl) (want_0) (fun w hok => x_move (tmS rfl rfl)) ?_
               refine rg_take 2 rfl rfl (by kernel_rfl) (by kernel_rfl) (by kernel_rfl) (want_0) (fun w hok => x_move (tmI rfl rfl)) ?_
               refine rg_take 3 rfl rfl (by kernel_rfl) (by kernel_rfl) (by kernel_rfl) (want_0) (fun w hok => x_sliceH Try.underlying27 ts_3 (tmS rfl rfl) (tmI rfl rfl) (by omega)) ?_
               refine rg_take 5 rfl rfl (by kernel_rfl) (by kernel_rfl) (by kernel_rfl) (want_0) (fun w hok => x_move (tmS rfl rfl)) ?_
               refine rg_take 6 rfl rfl (by kernel_rfl) (by kernel_rfl) (by kernel_rfl) (want_0) (fun w hok => x_move (tmI rfl rfl)) ?_
               refine rg_take 7 rfl rfl (by kernel_rfl) (by kernel_rfl) (by kernel_rfl) (want_0) (fun w hok => x_ixs Try.underlying23 ts_37 (tmS rfl rfl) (tmI rfl rfl) (by omega)) ?_
               refine rg_take 8 rfl rfl (by kernel_rfl) (by kernel_rfl) (by kernel_rfl) (want_0) (fun w hok => x_fa 0 Try.underlying37 rfl rfl ts_3 (tmP rfl rfl)) ?_
               first
                | refine rg_take 9 rfl rfl (by kernel_rfl) (by kernel_rfl) (by kernel_rfl) (want_0) (fun w hok => x_load Try.underlying3 rfl (tmP rfl rfl) (cellR hok 0 rfl rfl)) ?_
                | refine rg_take 9 rfl rfl (by kernel_rfl) (by kernel_rfl) (by kernel_rfl) (want_0) (fun w hok => x_load Try.underlying3 rfl (tmP rfl rfl) (cellR hok 0 rfl (getm (by omega)))) ?_
                | refine rg_take 9 rfl rfl (by kernel_rfl) (by kernel_rfl) (by kernel_rfl) (want_0) (fun w hok => x_load Try.underlying3 rfl (tmP rfl rfl) (cellRs hok 0 rfl (fun _ => rfl) rfl (by omega) rfl)) ?_
                | refine rg_take 9 rfl rfl (by kernel_rfl) (by kernel_rfl) (by kernel_rfl) (want_0) (fun w hok => x_load Try.underlying3 rfl (tmP rfl rfl) (cellR hok 1 rfl rfl)) ?_
                | refine rg_take 9 rfl rfl (by kernel_rfl) (by kernel_rfl) (by kernel_rfl) (want_0) (fun w hok => x_load Try.underlying3 rfl (tmP rfl rfl) (cellR hok 1 rfl (getm (by omega)))) ?_
                | refine rg_take 9 rfl rfl (by kernel_rfl) (by kernel_rfl) (by kernel_rfl) (want_0) (fun w hok => x_load Try.underlying3 rfl (tmP rfl rfl) (cellRs hok 1 rfl (fun _ => rfl) rfl (by omega) rfl)) ?_
                | refine rg_take 9 rfl rfl (by kernel_rfl) (by kernel_rfl) (by kernel_rfl) (want_0) (fun w hok => x_load Try.underlying3 rfl (tmP rfl rfl) (cellV hok 3 rfl rfl)) ?_
                | refine rg_take 9 rfl rfl (by kernel_rfl) (by kernel_rfl) (by kernel_rfl) (want_0) (fun w hok => x_load Try.underlying3 rfl (tmP rfl rfl) (cellV hok 3 rfl (getm (by omega)))) ?_
                | refine rg_take 9 rfl rfl (by kernel_rfl) (by kernel_rfl) (by kernel_rfl) (want_0) (fun w hok => x_load Try.underlying3 rfl (tmP rfl rfl) (cellVs hok 3 rfl (fun _ => rfl) rfl (by omega) rfl)) ?_
                | refine rg_take 9 rfl rfl (by kernel_rfl) (by kernel_rfl) (by kernel_rfl) (want_0) (fun w hok => x_load Try.underlying3 rfl (tmP rfl rfl) (cellV hok 4 rfl rfl)) ?_
                | refine rg_take 9 rfl rfl (by kernel_rfl) (by kernel_rfl) (by kernel_rfl) (want_0) (fun w hok => x_load Try.underlying3 rfl (tmP rfl rfl) (cellV hok 4 rfl (getm (by omega)))) ?_
                | refine rg_take 9 rfl rfl (by kernel_rfl) (by kernel_rfl) (by kernel_rfl) (want_0) (fun w hok => x_load Try.underlying3 rfl (tmP rfl rfl) (cellVs hok 4 rfl (fun _ => rfl) rfl (by omega) rfl)) ?_
               refine rg_take 12 rfl rfl (by kernel_rfl) (by kernel_rfl) (by kernel_rfl) (want_0) (fun w hok => x_move (tmS rfl rfl)) ?_
               refine rg_take 13 rfl rfl (by kernel_rfl) (by kernel_rfl) (by kernel_rfl) (want_0) (fun w hok => x_move (tmI rfl rfl)) ?_
               refine rg_take 14 rfl rfl (by kernel_rfl) (by kernel_rfl) (by kernel_rfl) (want_0) (fun w hok => x_sliceL Try.underlying27 ts_3 (tmS rfl rfl) (tmI rfl rfl) (by omega)) ?_
               refine rg_step2 0 10 rfl rfl (by kernel_rfl) (want_0) (want_0) (oks_drop hS 0 rfl) ?_ ?_
               · intro K hK
                 refine ow_build0 hS Try.underlying27 tz_3 rfl rfl ?_
                 clear hS; intro g11_0 w hg11_0 hS
                 refine hK _ _ ?_; clear hK K
                 refine rg_step2 4 10 rfl rfl (by kernel_rfl) (want_0) (want_0) (oks_drop hS 1 rfl) ?_ ?_
                 · intro K hK
                   refine ow_appendV hS 0 rfl (vt_idv (viewR hS.ok 1 rfl) hcp1 q) Try.underlying27 tz_3 rfl (tmS rfl rfl) (tmS rfl rfl) (idv_one _) ⟨by decide, by rw [idv_len, List.length_take]; omega⟩ (by simp only [maxLen]; omega) (by omega) ?_
                   clear hS; intro g11_4 cg11_4 w hA4 hC4 hS
                   refine hK _ _ ?_; clear hK K
                   refine rg_step 10 rfl (by kernel_rfl) (want_0) (oks_drop hS 1 rfl) ?_; intro K hK
                   refine ow_build hS Try.underlying27 tz_3 (bc_take (tmI rfl rfl) <| bc_nil) rfl rfl (by kernel_rfl) ?_
                   clear hS; intro g11_10 w hg11_10 hS
                   refine hK _ _ ?_; clear hK K
                   refine rg_step 11 rfl (by kernel_rfl) (want_0) (oks_drop hS 2 rfl) ?_; intro K hK
                   refine ow_appendV hS 1 rfl (viewB hS.ok 0 rfl) Try.underlying27 tz_3 rfl (tmS rfl rfl) (tmS rfl rfl) (by intro u hu; rw [List.mem_singleton.1 hu]; rfl) ⟨by decide, rfl⟩ (by simp only [maxLen]; omega) (by omega) ?_
                   clear hS; intro g11_11 cg11_11 w hA11 hC11 hS
                   refine hK _ _ ?_; clear hK K
                   refine rg_step 15 rfl (by kernel_rfl) (want_0) (oks_drop hS 2 rfl) ?_; intro K hK
                   refine ow_appendV hS 1 rfl (vd_idv (viewR hS.ok 2 rfl) hcp1 q) Try.underlying27 tz_3 rfl (tmS rfl rfl) (tmS rfl rfl) (idv_one _) ⟨by decide, by rw [idv_len, List.length_drop]; omega⟩ (by simp only [maxLen]; omega) (by omega) ?_
                   clear hS; intro g11_15 cg11_15 w hA15 hC15 hS
                   refine hK _ _ ?_; clear hK K
                   refine rg_take 16 rfl rfl (by kernel_rfl) (by kernel_rfl) (by kernel_rfl) (want_0) (fun w hok => x_assign (tmS rfl rfl)) ?_
                   refine rg_done (oks_drop hS 2 rfl) (by kernel_rfl) ?_
                   exact then_n ⟨_, rfl, (by repeat (first | exact agree_self | exact agree_refl | refine agree_upd rfl ?_ | refine agree_mix rfl ?_)), _, _, (by first | rfl | go_num | exact congrArg (Value.int _) (by first | omega | (simp; done) | (simp; omega))), (by rw [← ins_idv hst, hfp1]; exact hS.pick [1, 3, 4, 5, 6] rfl rfl), (by exact hst)⟩
                 · intro K hK
                   refine ow_build hS Try.underlying27 tz_3 (bc_take (tmI rfl rfl) <| bc_nil) rfl rfl (by kernel_rfl) ?_
                   clear hS; intro g11_10 w hg11_10 hS
                   refine hK _ _ ?_; clear hK K
                   refine rg_step 4 rfl (by kernel_rfl) (want_0) (oks_drop hS 2 rfl) ?_; intro K hK
                   refine ow_appendV hS 1 rfl (vt_idv (viewR hS.ok 2 rfl) hcp1 q) Try.underlying27 tz_3 rfl (tmS rfl rfl) (tmS rfl rfl) (idv_one _) ⟨by decide, by rw [idv_len, List.length_take]; omega⟩ (by simp only [maxLen]; omega) (by omega) ?_
                   clear hS; intro g11_4 cg11_4 w hA4 hC4 hS
                   refine hK _ _ ?_; clear hK K
                   refine rg_step 11 rfl (by kernel_rfl) (want_0) (oks_drop hS 2 rfl) ?_; intro K hK
                   refine ow_appendV hS 1 rfl (viewB hS.ok 0 rfl) Try.underlying27 tz_3 rfl (tmS rfl rfl) (tmS rfl rfl) (by intro u hu; rw [List.mem_singleton.1 hu]; rfl) ⟨by decide, rfl⟩ (by simp only [maxLen]; omega) (by omega) ?_
                   clear hS; intro g11_11 cg11_11 w hA11 hC11 hS
                   refine hK _ _ ?_; clear hK K
                   refine rg_step 15 rfl (by kernel_rfl) (want_0) (oks_drop hS 2 rfl) ?_; intro K hK
                   refine ow_appendV hS 1 rfl (vd_idv (viewR hS.ok 2 rfl) hcp1 q) Try.underlying27 tz_3 rfl (tmS rfl rfl) (tmS rfl rfl) (idv_one _) ⟨by decide, by rw [idv_len, List.length_drop]; omega⟩ (by simp only [maxLen]; omega) (by omega) ?_
                   clear hS; intro g11_15 cg11_15 w hA15 hC15 hS
                   refine hK _ _ ?_; clear hK K
                   refine rg_take 16 rfl rfl (by kernel_rfl) (by kernel_rfl) (by kernel_rfl) (want_0) (fun w hok => x_assign (tmS rfl rfl)) ?_
                   refine rg_done (oks_drop hS 2 rfl) (by kernel_rfl) ?_
                   exact then_n ⟨_, rfl, (by repeat (first | exact agree_self | exact agree_refl | refine agree_upd rfl ?_ | refine agree_mix rfl ?_)), _, _, (by first | rfl | go_num | exact congrArg (Value.int _) (by first | omega | (simp; done) | (simp; omega))), (by rw [← ins_idv hst, hfp1]; exact hS.pick [1, 3, 4, 5, 6] rfl rfl), (by exact hst)⟩
               · intro K hK
                 refine ow_build hS Try.underlying27 tz_3 (bc_take (tmI rfl rfl) <| bc_nil) rfl rfl (by kernel_rfl) ?_
                 clear hS; intro g11_10 w hg11_10 hS
                 refine hK _ _ ?_; clear hK K
                 refine rg_step 0 rfl (by kernel_rfl) (want_0) (oks_drop hS 1 rfl) ?_; intro K hK
                 refine ow_build0 hS Try.underlying27 tz_3 rfl rfl ?_
                 clear hS; intro g11_0 w hg11_0 hS
                 refine hK _ _ ?_; clear hK K
                 refine rg_step 4 rfl (by kernel_rfl) (want_0) (oks_drop hS 2 rfl) ?_; intro K hK
                 refine ow_appendV hS 0 rfl (vt_idv (viewR hS.ok 2 rfl) hcp1 q) Try.underlying27 tz_3 rfl (tmS rfl rfl) (tmS rfl rfl) (idv_one _) ⟨by decide, by rw [idv_len, List.length_take]; omega⟩ (by simp only [maxLen]; omega) (by omega) ?_
                 clear hS; intro g11_4 cg11_4 w hA4 hC4 hS
                 refine hK _ _ ?_; clear hK K
                 refine rg_step 11 rfl (by kernel_rfl) (want_0) (oks_drop hS 2 rfl) ?_; intro K hK
                 refine ow_appendV hS 0 rfl (viewB hS.ok 1 rfl) Try.underlying27 tz_3 rfl (tmS rfl rfl) (tmS rfl rfl) (by intro u hu; rw [List.mem_singleton.1 hu]; rfl) ⟨by decide, rfl⟩ (by simp only [maxLen]; omega) (by omega) ?_
                 clear hS; intro g11_11 cg11_11 w hA11 hC11 hS
                 refine hK _ _ ?_; clear hK K
                 refine rg_step 15 rfl (by kernel_rfl) (want_0) (oks_drop hS 2 rfl) ?_; intro K hK
                 refine ow_appendV hS 0 rfl (vd_idv (viewR hS.ok 2 rfl) hcp1 q) Try.underlying27 tz_3 rfl (tmS rfl rfl) (tmS rfl rfl) (idv_one _) ⟨by decide, by rw [idv_len, List.length_drop]; omega⟩ (by simp only [maxLen]; omega) (by omega) ?_
                 clear hS; intro g11_15 cg11_15 w hA15 hC15 hS
                 refine hK _ _ ?_; clear hK K
                 refine rg_take 16 rfl rfl (by kernel_rfl) (by kernel_rfl) (by kernel_rfl) (want_0) (fun w hok => x_assign (tmS rfl rfl)) ?_
                 refine rg_done (oks_drop hS 2 rfl) (by kernel_rfl) ?_
                 exact then_n ⟨_, rfl, (by repeat (first | exact agree_self | exact agree_refl | refine agree_upd rfl ?_ | refine agree_mix rfl ?_)), _, _, (by first | rfl | go_num | exact congrArg (Value.int _) (by first | omega | (simp; done) | (simp; omega))), (by rw [← ins_idv hst, hfp1]; exact hS.pick [0, 3, 4, 5, 6] rfl rfl), (by exact hst)⟩
             · clear hS; intro g w hI
               obtain ⟨A3, c3, hs7, hS, hst⟩ := hI
               refine fr_knowQ (d := 7) hs7 ?_; clear hs7
               refine then_n (hK17 _ _ ?_); clear hK17 K17
               refine cutc [8, 84, 85, 86, 87, 88, 89, 90, 91, 92, 93, 94, 95] (fun g w => ∃ (A4 : Option Addr), ∃ (c4 : Nat), g 8 = .slice A4 (0 + q + 1 + (R.length - q)) c4 ∧ St [] w0 [.row (.slice A4 (0 + q + 1 + (R.length - q)) c4) 32 1 (0 + q + 1 + (R.length - q)) (scv (ins R x)), .row (.slice A3 (0 + q + 1 + (R.length - q)) c3) 3 1 (0 + q + 1 + (R.length - q)) (idv (ins R x)), .blk g0_0 22 (kC k), .vw (some ⟨b4, o4, none⟩) (flat mv l), .vw B (b.map u8v)] w) ?_ ?_
               · skip
                 have hcp2 : R.length ≤ c2 := row_cap (hS.rowOk 1 rfl) (by decide)
                 refine rg_startk 0 hS mixed_ ?_
                 clear hS; intro w hS
                 refine rg_take 1 rfl rfl (by kernel_rfl) (by kernel_rfl) (by kernel_rfl) (want_0) (fun w hok => x_move (tmS rfl rfl)) ?_
                 refine rg_take 2 rfl rfl (by kernel_rfl) (by kernel_rfl) (by kernel_rfl) (want_0) (fun w hok => x_move (tmI rfl rfl)) ?_
                 refine rg_take 3 rfl rfl (by kernel_rfl) (by kernel_rfl) (by kernel_rfl) (want_0) (fun w hok => x_sliceH Try.underlying49 ts_32 (tmS rfl rfl) (tmI rfl rfl) (by omega)) ?_
                 refine rg_take 5 rfl rfl (by kernel_rfl) (by kernel_rfl) (by kernel_rfl) (want_0) (fun w hok => x_move (tmI rfl rfl)) ?_
                 refine rg_take 8 rfl rfl (by kernel_rfl) (by kernel_rfl) (by kernel_rfl) (want_0) (fun w hok => x_move (tmS rfl rfl)) ?_
                 refine rg_take 9 rfl rfl (by kernel_rfl) (by kernel_rfl) (by kernel_rfl) (want_0) (fun w hok => x_move (tmI rfl rfl)) ?_
                 refine rg_take 10 rfl rfl (by kernel_rfl) (by kernel_rfl) (by kernel_rfl) (want_0) (fun w hok => x_sliceL Try.underlying49 ts_32 (tmS rfl rfl) (tmI rfl rfl) (by omega)) ?_
                 refine rg_step2 0 6 rfl rfl (by kernel_rfl) (want_0) (want_0) (oks_drop hS 0 rfl) ?_ ?_
                 · intro K hK
                   refine ow_build0 hS Try.underlying49 tz_32 rfl rfl ?_
                   clear hS; intro g12_0 w hg12_0 hS
                   refine hK _ _ ?_; clear hK K
                   refine rg_step2 4 6 rfl rfl (by kernel_rfl) (want_0) (want_0) (oks_drop hS 1 rfl) ?_ ?_
                   · intro K hK
                     refine ow_appendV hS 0 rfl (vt_scv (viewR hS.ok 2 rfl) hcp2 q) Try.underlying49 tz_32 rfl (tmS rfl rfl) (tmS rfl rfl) (scv_one _) ⟨by decide, by rw [scv_len, List.length_take]; omega⟩ (by simp only [maxLen]; omega) (by omega) ?_
                     clear hS; intro g12_4 cg12_4 w hA4 hC4 hS
                     refine hK _ _ ?_; clear hK K
                     refine rg_step 6 rfl (by kernel_rfl) (want_0) (oks_drop hS 1 rfl) ?_; intro K hK
                     refine ow_build hS Try.underlying49 tz_32 (bc_take (tmI rfl rfl) <| bc_nil) rfl rfl (by kernel_rfl) ?_
                     clear hS; intro g12_6 w hg12_6 hS
                     refine hK _ _ ?_; clear hK K
                     refine rg_step 7 rfl (by kernel_rfl) (want_0) (oks_drop hS 2 rfl) ?_; intro K hK
                     refine ow_appendV hS 1 rfl (viewB hS.ok 0 rfl) Try.underlying49 tz_32 rfl (tmS rfl rfl) (tmS rfl rfl) (by intro u hu; rw [List.mem_singleton.1 hu]; rfl) ⟨by decide, rfl⟩ (by simp only [maxLen]; omega) (by omega) ?_
                     clear hS; intro g12_7 cg12_7 w hA7 hC7 hS
                     refine hK _ _ ?_; clear hK K
                     refine rg_step 11 rfl (by kernel_rfl) (want_0) (oks_drop hS 2 rfl) ?_; intro K hK
                     refine ow_appendV hS 1 rfl (vd_scv (viewR hS.ok 3 rfl) hcp2 q) Try.underlying49 tz_32 rfl (tmS rfl rfl) (tmS rfl rfl) (scv_one _) ⟨by decide, by rw [scv_len, List.length_drop]; omega⟩ (by simp only [maxLen]; omega) (by omega) ?_
                     clear hS; intro g12_11 cg12_11 w hA11 hC11 hS
                     refine hK _ _ ?_; clear hK K
                     refine rg_take 12 rfl rfl (by kernel_rfl) (by kernel_rfl) (by kernel_rfl) (want_0) (fun w hok => x_assign (tmS rfl rfl)) ?_
                     refine rg_done (oks_drop hS 2 rfl) (by kernel_rfl) ?_
                     exact then_n ⟨_, rfl, (by repeat (first | exact agree_self | exact agree_refl | refine agree_upd rfl ?_ | refine agree_mix rfl ?_)), _, _, (by first | rfl | go_num | exact congrArg (Value.int _) (by first | omega | (simp; done) | (simp; omega))), (by rw [← ins_scv hst]; exact hS.pick [1, 2, 4, 5, 6] rfl rfl)⟩
                   · intro K hK
                     refine ow_build hS Try.underlying49 tz_32 (bc_take (tmI rfl rfl) <| bc_nil) rfl rfl (by kernel_rfl) ?_
                     clear hS; intro g12_6 w hg12_6 hS
                     refine hK _ _ ?_; clear hK K
                     refine rg_step 4 rfl (by kernel_rfl) (want_0) (oks_drop hS 2 rfl) ?_; intro K hK
                     refine ow_appendV hS 1 rfl (vt_scv (viewR hS.ok 3 rfl) hcp2 q) Try.underlying49 tz_32 rfl (tmS rfl rfl) (tmS rfl rfl) (scv_one _) ⟨by decide, by rw [scv_len, List.length_take]; omega⟩ (by simp only [maxLen]; omega) (by omega) ?_
                     clear hS; intro g12_4 cg12_4 w hA4 hC4 hS
                     refine hK _ _ ?_; clear hK K
                     refine rg_step 7 rfl (by kernel_rfl) (want_0) (oks_drop hS 2 rfl) ?_; intro K hK
                     refine ow_appendV hS 1 rfl (viewB hS.ok 0 rfl) Try.underlying49 tz_32 rfl (tmS rfl rfl) (tmS rfl rfl) (by intro u hu; rw [List.mem_singleton.1 hu]; rfl) ⟨by decide, rfl⟩ (by simp only [maxLen]; omega) (by omega) ?_
                     clear hS; intro g12_7 cg12_7 w hA7 hC7 hS
                     refine hK _ _ ?_; clear hK K
                     refine rg_step 11 rfl (by kernel_rfl) (want_0) (oks_drop hS 2 rfl) ?_; intro K hK
                     refine ow_appendV hS 1 rfl (vd_scv (viewR hS.ok 3 rfl) hcp2 q) Try.underlying49 tz_32 rfl (tmS rfl rfl) (tmS rfl rfl) (scv_one _) ⟨by decide, by rw [scv_len, List.length_drop]; omega⟩ (by simp only [maxLen]; omega) (by omega) ?_
                     clear hS; intro g12_11 cg12_11 w hA11 hC11 hS
                     refine hK _ _ ?_; clear hK K
                     refine rg_take 12 rfl rfl (by kernel_rfl) (by kernel_rfl) (by kernel_rfl) (want_0) (fun w hok => x_assign (tmS rfl rfl)) ?_
                     refine rg_done (oks_drop hS 2 rfl) (by kernel_rfl) ?_
                     exact then_n ⟨_, rfl, (by repeat (first | exact agree_self | exact agree_refl | refine agree_upd rfl ?_ | refine agree_mix rfl ?_)), _, _, (by first | rfl | go_num | exact congrArg (Value.int _) (by first | omega | (simp; done) | (simp; omega))), (by rw [← ins_scv hst]; exact hS.pick [1, 2, 4, 5, 6] rfl rfl)⟩
                 · intro K hK
                   refine ow_build hS Try.underlying49 tz_32 (bc_take (tmI rfl rfl) <| bc_nil) rfl rfl (by kernel_rfl) ?_
                   clear hS; intro g12_6 w hg12_6 hS
                   refine hK _ _ ?_; clear hK K
                   refine rg_step 0 rfl (by kernel_rfl) (want_0) (oks_drop hS 1 rfl) ?_; intro K hK
                   refine ow_build0 hS Try.underlying49 tz_32 rfl rfl ?_
                   clear hS; intro g12_0 w hg12_0 hS
                   refine hK _ _ ?_; clear hK K
                   refine rg_step 4 rfl (by kernel_rfl) (want_0) (oks_drop hS 2 rfl) ?_; intro K hK
                   refine ow_appendV hS 0 rfl (vt_scv (viewR hS.ok 3 rfl) hcp2 q) Try.underlying49 tz_32 rfl (tmS rfl rfl) (tmS rfl rfl) (scv_one _) ⟨by decide, by rw [scv_len, List.length_take]; omega⟩ (by simp only [maxLen]; omega) (by omega) ?_
                   clear hS; intro g12_4 cg12_4 w hA4 hC4 hS
                   refine hK _ _ ?_; clear hK K
                   refine rg_step 7 rfl (by kernel_rfl) (want_0) (oks_drop hS 2 rfl) ?_; intro K hK
                   refine ow_appendV hS 0 rfl (viewB hS.ok 1 rfl) Try.underlying49 tz_32 rfl (tmS rfl rfl) (tmS rfl rfl) (by intro u hu; rw [List.mem_singleton.1 hu]; rfl) ⟨by decide, rfl⟩ (by simp only [maxLen]; omega) (by omega) ?_
                   clear hS; intro g12_7 cg12_7 w hA7 hC7 hS
                   refine hK _ _ ?_; clear hK K
                   refine rg_step 11 rfl (by kernel_rfl) (want_0) (oks_drop hS 2 rfl) ?_; intro K hK
                   refine ow_appendV hS 0 rfl (vd_scv (viewR hS.ok 3 rfl) hcp2 q) Try.underlying49 tz_32 rfl (tmS rfl rfl) (tmS rfl rfl) (scv_one _) ⟨by decide, by rw [scv_len, List.length_drop]; omega⟩ (by simp only [maxLen]; omega) (by omega) ?_
                   clear hS; intro g12_11 cg12_11 w hA11 hC11 hS
                   refine hK _ _ ?_; clear hK K
                   refine rg_take 12 rfl rfl (by kernel_rfl) (by kernel_rfl) (by kernel_rfl) (want_0) (fun w hok => x_assign (tmS rfl rfl)) ?_
                   refine rg_done (oks_drop hS 2 rfl) (by kernel_rfl) ?_
                   exact then_n ⟨_, rfl, (by repeat (first | exact agree_self | exact agree_refl | refine agree_upd rfl ?_ | refine agree_mix rfl ?_)), _, _, (by first | rfl | go_num | exact congrArg (Value.int _) (by first | omega | (simp; done) | (simp; omega))), (by rw [← ins_scv hst]; exact hS.pick [0, 2, 4, 5, 6] rfl rfl)⟩
               · clear hS; intro g w hI
                 obtain ⟨A4, c4, hs8, hS⟩ := hI
                 refine fr_knowQ (d := 8) hs8 ?_; clear hs8
                 refine inb_n ?_
                 refine then_n (hK8 _ _ ?_); clear hK8 K8
                 refine wlit ?_
                 refine wl_v (x_move (tmI rfl rfl)) ?_
                 first
                  | refine wl_v (x_addN (tmI rfl rfl) (ev_cN 1) (fit_i64 (by omega))) ?_
                  | refine wl_v (x_addI (tmI rfl rfl) (ev_cN 1) (IntWalk.i64_in _ (by omega))) ?_
                  | refine wl_v (x_add (tmI rfl rfl) (ev_cN 1)) ?_
                 refine wl_v (x_assign (tmI rfl rfl)) ?_
                 refine wl_nil ?_
                 first
                  | exact then_n ⟨_, _, rfl, (by show _ < _; omega), (by repeat (first | exact agree_self | exact agree_refl | refine agree_upd rfl ?_ | refine agree_mix rfl ?_)), i + 1, _, _, _, _, _, ins R x, rfl, (by first | rfl | go_num | exact congrArg (Value.int _) (by first | omega | (simp; done) | (simp; omega))), (by first | rfl | go_num | exact congrArg (Value.int _) (by first | omega | (simp; done) | (simp; omega))), (by first | rfl | go_num | exact congrArg (Value.int _) (by first | omega | (simp; done) | (simp; omega))), hS.pick [1, 0, 2, 3, 4] rfl rfl, (by omega), (by first | exact hn1 | (rw [hil]; omega) | rfl), (by first | exact hSy | exact hSn | rfl), (by omega)⟩
                  | exact then_n ⟨_, _, rfl, (by show _ < _; omega), (by repeat (first | exact agree_self | exact agree_refl | refine agree_upd rfl ?_ | refine agree_mix rfl ?_)), i + 1, A1, n1, c1, A2, c2, R, rfl, (by first | rfl | go_num | exact congrArg (Value.int _) (by first | omega | (simp; done) | (simp; omega))), (by first | rfl | go_num | exact congrArg (Value.int _) (by first | omega | (simp; done) | (simp; omega))), (by first | rfl | go_num | exact congrArg (Value.int _) (by first | omega | (simp; done) | (simp; omega))), hS.pick [1, 0, 2, 3, 4] rfl rfl, (by omega), (by first | exact hn1 | (rw [hil]; omega) | rfl), (by first | exact hSy | exact hSn | rfl), (by omega)⟩
    try (exfalso; first | with_reducible exact absurd hc0 Bool.false_ne_true | with_reducible exact absurd hc0.symm Bool.false_ne_true | (simp only [nrm] at hc0; omega) | (simp at hc0; done))
    all_goals
     try simp only [nrm] at hc0
     refine wp_exit ?_
     refine then_x ?_; clear hK6 K6
     refine then_x ?_
     refine inb_x ?_
     refine then_n (hK4 _ _ ?_); clear hK4 K4
     refine wp_seq_k ?_; intro K20 hK20
     refine wlit ?_
     refine wl_v (x_move (tmS rfl rfl)) ?_
     refine wl_v (x_assign (tmS rfl rfl)) ?_
     refine wl_nil ?_
     refine then_n (hK20 _ _ ?_); clear hK20 K20
     refine wp_ret ?_
     refine ret1 rfl (.tmp rfl (show _ = Value.slice _ _ _ from rfl)) ?_
     obtain rfl : i = nl := by omega
     rw [List.take_of_length_le (by omega)] at hR
     rw [← hR]
     exact ⟨_, _, _, hn1, rfl, hS.new 0 rfl rfl, hS.kp⟩
end Go.Proofs.Ytgfmjgfeiokcdaa
