
/- hrw.Rank and hrw.Pick, by contract. Conditions: none but bounds. -/
import Derived.Test.YtgfmjgfeiokcdaaHrC
import Derived.Test.YtgfmjgfeiokcdaaRws
namespace Go.Proofs.Ytgfmjgfeiokcdaa
open Go.RowKit
abbrev Mb := Int × Int
def Mok (p : Mb) : Prop := 0 ≤ p.1 ∧ p.1 < 64 ∧ -7 ≤ p.2 ∧ p.2 ≤ 7
def sco (k : Nat → Nat) (b : List Nat) (p : Mb) : Sc := (p.1, scF k b p.1.toNat p.2.toNat)
def wgt (l : List Mb) : List Mb := l.filter fun p => decide (0 < p.2)
theorem wgt_yes {l : List Mb} {i : Nat} (h : i < l.length) (hp : 0 < (l.getD i default).2) : wgt (l.take (i + 1)) = wgt (l.take i) ++ [l.getD i default] := by
  have hg : l.getD i default = l[i] := by rw [List.getD_eq_getElem?_getD, List.getElem?_eq_getElem h]; rfl
  rw [hg] at hp ⊢
  unfold wgt
  rw [List.take_succ_eq_append_getElem h, List.filter_append, List.filter_cons_of_pos (by simpa using hp), List.filter_nil]
theorem wgt_no {l : List Mb} {i : Nat} (h : i < l.length) (hp : ¬ 0 < (l.getD i default).2) : wgt (l.take (i + 1)) = wgt (l.take i) := by
  have hg : l.getD i default = l[i] := by rw [List.getD_eq_getElem?_getD, List.getElem?_eq_getElem h]; rfl
  rw [hg] at hp
  unfold wgt
  rw [List.take_succ_eq_append_getElem h, List.filter_append, List.filter_cons_of_neg (by simpa using hp), List.filter_nil, List.append_nil]
theorem wgt_len (l : List Mb) (i : Nat) : (wgt (l.take i)).length ≤ i := by
  unfold wgt
  exact Nat.le_trans (List.length_filter_le _ _) (by rw [List.length_take]; omega)
def ranked (k : Nat → Nat) (b : List Nat) (l : List Mb) : List Sc := srt ((wgt l).map (sco k b))
theorem getD_mem {α : Type} [Inhabited α] {l : List α} {i : Nat} (h : i < l.length) : l.getD i default ∈ l := by
  rw [List.getD_eq_getElem?_getD, List.getElem?_eq_getElem h]
  exact List.getElem_mem h
theorem score_p (k : Nat → Nat) (p : Mb) (hp : Mok p) (B : Option Addr) (nb cb : Nat) (b : List Nat) (w0 : World) (hkb : Bytes (kL k)) (hv : View w0 w0.heap.size B (b.map u8v)) (hl : b.length = nb) (hb : Bytes b) (hn4 : nb ≤ 1000) :
    Calls Try.prog 10 #[.agg (kC k).toArray, .agg (mv p).toArray, .slice B nb cb] w0 fun e w' => e = .returned (.int .u64 (((sco k b p).2 : Nat) : Int)) ∧ Kp [] w0 w' := by
  obtain ⟨a, v⟩ := p
  obtain ⟨h1, h2, h3, h4⟩ := hp
  obtain ⟨m, rfl⟩ := Int.eq_ofNat_of_zero_le (a := a) h1
  exact score_c k m v B nb cb b w0 hkb hv hl hb hn4 (by dsimp only at h2; omega) h4 (by dsimp only at h3; omega)
theorem rscore_p (k : Nat → Nat) (p : Mb) (hp : Mok p) (B : Option Addr) (nb cb : Nat) (b : List Nat) (w0 : World) (hkb : Bytes (kL k)) (hv : View w0 w0.heap.size B (b.map u8v)) (hl : b.length = nb) (hb : Bytes b) (hn4 : nb ≤ 1000) :
    Calls Try.prog 11 #[.agg (kC k).toArray, .agg (mv p).toArray, .slice B nb cb] w0 fun e w' => e = .returned (.int .u64 (((sco k b p).2 : Nat) : Int)) ∧ Kp [] w0 w' := by
  obtain ⟨a, v⟩ := p
  obtain ⟨h1, h2, h3, h4⟩ := hp
  obtain ⟨m, rfl⟩ := Int.eq_ofNat_of_zero_le (a := a) h1
  exact rscore_c k m v B nb cb b w0 hkb hv hl hb hn4 (by dsimp only at h2; omega) h4 (by dsimp only at h3; omega)
def idv (l : List Sc) : List Value := l.map fun p => .int .i64 p.1
set_option maxRecDepth 100000 in
set_option maxHeartbeats 4000000 in
theorem rank_c (k : Nat → Nat) (L : Option Addr) (nl cl : Nat) (l : List Mb) (B : Option Addr) (nb cb : Nat) (b : List Nat) (w0 : World) (hkb : Bytes (kL k)) (hvl : View w0 w0.heap.size L (flat mv l)) (hll : l.length = nl) (hnl : nl ≤ 12) (hok : ∀ p ∈ l, Mok p) (hv : View w0 w0.heap.size B (b.map u8v)) (hl : b.length = nb) (hb : Bytes b) (hn4 : nb ≤ 1000) :
    Calls Try.prog 7 #[.agg (kC k).toArray, .slice L nl cl, .slice B nb cb] w0 fun e w' => ∃ G ng cg, ng = (ranked k b l).length ∧ e = .returned (.slice G ng cg) ∧ New w0 w' (.row (.slice G ng cg) 3 1 ng (idv (ranked k b l))) ∧ Kp [] w0 w' := by
  have hS := ((St.sv w0).vcons rfl hv).vcons rfl hvl
  have hsc := fun p hp w hv => score_p k p hp B nb cb b w hkb hv hl hb hn4
  obtain ⟨f, hf⟩ : ∃ f, f = sco k b := ⟨_, rfl⟩
  have hf1 : ∀ p, (f p).1 = p.1 := fun p => by rw [hf]; rfl
  have hfl : ∀ p, (f p).2 < 18446744073709551616 := fun p => by rw [hf]; exact scF_lt k b _ _
  have hrk : ranked k b l = srt ((wgt l).map f) := by rw [hf]; rfl
  rw [hrk]
  rw [← hf] at hsc
  clear hf hrk
  refine ent (n := 48) Try.func7 rfl rfl ?_
  refine wp_seq_k ?_; intro K1 hK1
  refine wlit ?_
  refine wl_e rfl ?_; intro K hK
  refine ow_box hS (tmA rfl rfl) rfl ?_
  clear hS; intro g0_0 w hg0_0 hS
  refine hK _ _ ?_; clear hK K
  refine wl_v (x_assign ev_c) ?_
  refine wl_nil ?_
  refine then_n (hK1 _ _ ?_); clear hK1 K1
  refine wp_seq_k ?_; intro K2 hK2
  refine wlit ?_
  refine wl_v (x_assign ev_c) ?_
  refine wl_nil ?_
  refine then_n (hK2 _ _ ?_); clear hK2 K2
  refine wp_seq_k ?_; intro K3 hK3
  refine wp_seq_k ?_; intro K4 hK4
  refine wlit ?_
  refine wl_v (x_move (tmS rfl rfl)) ?_
  refine wl_v (x_len Try.underlying29 (tmS rfl rfl)) ?_
  refine wl_v (x_move (ev_cN 0)) ?_
  refine wl_nil ?_
  refine then_n (hK4 _ _ ?_); clear hK4 K4
  refine wp_block ?_
  have hS := (hS.nilrow 46 2).pick [0, 1, 2, 3] rfl rfl --ents row,g0_0,vl,vw
  refine lp [7, 9, 15, 16, 17, 18, 19, 20, 21, 22, 23, 24, 25, 26, 27, 28, 29, 30, 31, 32] (fun mz g w => ∃ (i : Nat), ∃ (G : Option Addr), ∃ (ng cg : Nat), ∃ (S : List Sc), mz = nl - i ∧ g 15 = .int .i64 (i : Int) ∧ g 7 = .slice G ng cg ∧ St [] w0 [.row (.slice G ng cg) 46 2 ng (flat sv S), .blk g0_0 43 (kC k), .vw L (flat mv l), .vw B (b.map u8v)] w ∧ (i ≤ nl) ∧ (ng = S.length) ∧ (S = (wgt (l.take i)).map f) ∧ (ng ≤ i)) ?_ ?_
  · exact ⟨_, 0, none, 0, 0, [], rfl, (by first | rfl | go_num | exact congrArg (Value.int _) (by first | omega | (simp; done) | (simp; omega))), (by first | rfl | go_num | exact congrArg (Value.int _) (by first | omega | (simp; done) | (simp; omega))), hS, (by omega), (by first | exact hng | (rw [List.length_append, ← hng]; rfl) | rfl), (by first | exact hSy | exact hSn | rfl), (by omega)⟩
  · clear hS; intro mz g w hI
    obtain ⟨i, G, ng, cg, S, rfl, hs15, hs7, hS, hi, hng, hSi, hni⟩ := hI
    refine fr_know (d := 15) hs15 ?_; clear hs15
    refine fr_know (d := 7) (upd_ne rfl hs7) ?_; clear hs7
    refine wp_seq_k ?_; intro K5 hK5
    refine wlit ?_
    refine wl_v (x_lss (tmI rfl rfl) (tmI rfl rfl)) ?_
    refine wl_nil ?_
    refine then_n (hK5 _ _ ?_); clear hK5 K5
    refine wp_seq_k ?_; intro K6 hK6
    refine cnd (tm rfl) (fun hc0 => ?_) (fun hc0 => ?_)
    · try (exfalso; first | with_reducible exact absurd hc0 Bool.false_ne_true | with_reducible exact absurd hc0.symm Bool.false_ne_true | (simp only [nrm] at hc0; omega) | (simp at hc0; done))
      all_goals
       try simp only [nrm] at hc0
       obtain ⟨b4, o4, rfl⟩ := view_some (viewV hS.ok 2 rfl) (by rw [flat_length mv_len]; omega)
       have hpm := hok _ (getD_mem (l := l) (i := i) (by omega))
       have hyes := wgt_yes (l := l) (i := i) (by omega)
       have hno := wgt_no (l := l) (i := i) (by omega)
       have hrow : flat sv (S ++ [f (l.getD i default)]) = flat sv S ++ [.int .i64 (l.getD i default).1, .int .u64 (((f (l.getD i default)).2 : Nat) : Int)] := by
         rw [flat_snoc, ← hf1]; rfl
       have hflp := hfl (l.getD i default)
       refine wp_skip ?_
       refine then_n (hK6 _ _ ?_); clear hK6 K6
       refine wp_seq_k ?_; intro K7 hK7
       refine wp_block ?_
       refine wp_seq_k ?_; intro K8 hK8
       refine wlit ?_
       refine wl_v (x_ixs Try.underlying29 ts_35 (tmS rfl rfl) (tmI rfl rfl) (by omega)) ?_
       first
        | refine wl_v (x_loadA Try.underlying35 rfl (by exact ts_35) (tmP rfl rfl) (rangeRs hS.ok 0 rfl (fun _ => rfl) (by omega))) ?_
        | refine wl_v (x_loadA Try.underlying35 rfl (by exact ts_35) (tmP rfl rfl) (rangeVs hS.ok 2 rfl (fun _ => rfl) (by omega))) ?_
        | refine wl_v (x_loadA Try.underlying35 rfl (by exact ts_35) (tmP rfl rfl) (rangeVs hS.ok 3 rfl (fun _ => rfl) (by omega))) ?_
       refine wl_e rfl ?_; intro K hK
       refine ow_alloc hS tz_35 rfl ?_
       clear hS; intro g4_2 w hg4_2 hS
       refine hK _ _ ?_; clear hK K
       refine wl_e rfl ?_; intro K hK
       refine ow_storeA hS 0 rfl ts_35 (tmP rfl rfl) (tmA rfl rfl) rfl rfl rfl ?_
       clear hS; intro w hS
       refine hK _ _ ?_; clear hK K
       refine wl_nil ?_
       generalize l.getD i default = p at *
       replace hS : St [] w0 [.blk g4_2 35 (mv p), .row (.slice G ng cg) 46 2 ng (flat sv S), .blk g0_0 43 (kC k), .vw (some ⟨b4, o4, none⟩) (flat mv l), .vw B (b.map u8v)] w := hS
       replace hS := hS.pick [1, 0, 2, 3, 4] rfl rfl
       try replace hS := St.nm (M' := [.row _ _ _ _ _, .blk _ _ [_, _], .blk _ _ [_, _, _, _, _, _, _, _, _, _, _, _, _, _, _, _], .vw _ _, .vw _ _]) hS rfl
       refine then_n (hK8 _ _ ?_); clear hK8 K8
       refine wp_seq_k ?_; intro K9 hK9
       refine wlit ?_
       refine wl_v (x_fa 1 Try.underlying35 rfl rfl ts_3 (tmP rfl rfl)) ?_
       first
        | refine wl_v (x_load Try.underlying3 rfl (tmP rfl rfl) (cellB hS.ok 1 rfl rfl)) ?_
        | refine wl_v (x_load Try.underlying3 rfl (tmP rfl rfl) (cellB hS.ok 1 rfl (getm (by omega)))) ?_
       refine wl_v (x_gtr (tmI rfl rfl) (ev_cN 0)) ?_
       refine wl_nil ?_
       refine then_n (hK9 _ _ ?_); clear hK9 K9
       refine cnd (tm rfl) (fun hc1 => ?_) (fun hc1 => ?_)
       · try (exfalso; first | with_reducible exact absurd hc1 Bool.false_ne_true | with_reducible exact absurd hc1.symm Bool.false_ne_true | (simp only [nrm] at hc1; omega) | (simp at hc1; done))
         all_goals
          try simp only [nrm] at hc1
          have hSy : S ++ [f p] = (wgt (l.take (i + 1))).map f := by
            rw [hyes (by first | exact hc1 | (simp at hc1; omega)), List.map_append, ← hSi]; rfl
          refine rg_startk 1 hS mixed_ ?_
          clear hS; intro w hS
          refine rg_take 0 rfl rfl (by kernel_rfl) (by kernel_rfl) (by kernel_rfl) (want_0) (fun w hok => x_move (tmS rfl rfl)) ?_
          refine rg_take 1 rfl rfl (by kernel_rfl) (by kernel_rfl) (by kernel_rfl) (want_0) (fun w hok => x_fa 0 Try.underlying35 rfl rfl ts_3 (tmP rfl rfl)) ?_
          first
           | refine rg_take 2 rfl rfl (by kernel_rfl) (by kernel_rfl) (by kernel_rfl) (want_0) (fun w hok => x_load Try.underlying3 rfl (tmP rfl rfl) (cellB hok 0 rfl rfl)) ?_
           | refine rg_take 2 rfl rfl (by kernel_rfl) (by kernel_rfl) (by kernel_rfl) (want_0) (fun w hok => x_load Try.underlying3 rfl (tmP rfl rfl) (cellB hok 0 rfl (getm (by omega)))) ?_
          refine rg_take 3 rfl rfl (by kernel_rfl) (by kernel_rfl) (by kernel_rfl) (want_0) (fun w hok => x_loadA (cs := [_, _, _, _, _, _, _, _, _, _, _, _, _, _, _, _]) Try.underlying43 rfl ts_43 (tmP rfl rfl) (rangeB hok 1 rfl rfl)) ?_
          refine rg_take 4 rfl rfl (by kernel_rfl) (by kernel_rfl) (by kernel_rfl) (want_0) (fun w hok => x_loadA (cs := [_, _]) Try.underlying35 rfl ts_35 (tmP rfl rfl) (rangeB hok 0 rfl rfl)) ?_
          refine rg_take 5 rfl rfl (by kernel_rfl) (by kernel_rfl) (by kernel_rfl) (want_0) (fun w hok => x_move (tmS rfl rfl)) ?_
          refine rg_step 6 rfl (by kernel_rfl) (want_0) (oks_drop hS 1 rfl) ?_; intro K hK
          refine ow_call Try.func10 rfl rfl (evs_cons (tmA rfl rfl) <| evs_cons (tmA rfl rfl) <| evs_cons (tmS rfl rfl) <| evs_nil) (hsc p hpm _ (viewV hS.ok 4 rfl)) ?_
          rintro e w ⟨rfl, hk⟩
          refine ⟨_, rfl, ?_⟩
          replace hS := hS.kept hk
          clear hk
          refine hK _ _ ?_; clear hK K
          refine rg_take 7 rfl rfl (by kernel_rfl) (by kernel_rfl) (by kernel_rfl) (want_0) (fun w hok => x_build (bc_take (tmI rfl rfl) <| bc_take (tmI rfl rfl) <| bc_nil) (by kernel_rfl)) ?_
          refine rg_step 8 rfl (by kernel_rfl) (want_0) (oks_drop hS 1 rfl) ?_; intro K hK
          refine ow_build hS Try.underlying44 tz_46 (bc_takeL (tmA rfl rfl) <| bc_nil) rfl rfl (by kernel_rfl) ?_
          clear hS; intro g6_8 w hg6_8 hS
          refine hK _ _ ?_; clear hK K
          refine rg_step 9 rfl (by kernel_rfl) (want_0) (oks_drop hS 2 rfl) ?_; intro K hK
          (refine ow_append hS 1 0 rfl rfl Try.underlying44 tz_46 rfl (tmS rfl rfl) (tmS rfl rfl) rfl ⟨by decide, by decide, rfl⟩ (by simp only [maxLen]; omega) (by omega) ?_; clear hS; intro g6_9 cg6_9 w hS)
          refine hK _ _ ?_; clear hK K
          refine rg_take 10 rfl rfl (by kernel_rfl) (by kernel_rfl) (by kernel_rfl) (want_0) (fun w hok => x_assign (tmS rfl rfl)) ?_
          refine rg_done (oks_drop hS 2 rfl) (by kernel_rfl) ?_
          refine inb_n ?_
          refine then_n (hK7 _ _ ?_); clear hK7 K7
          refine wlit ?_
          first
           | refine wl_v (x_addN (tmI rfl rfl) (ev_cN 1) (fit_i64 (by omega))) ?_
           | refine wl_v (x_addI (tmI rfl rfl) (ev_cN 1) (IntWalk.i64_in _ (by omega))) ?_
           | refine wl_v (x_add (tmI rfl rfl) (ev_cN 1)) ?_
          refine wl_v (x_move (tmI rfl rfl)) ?_
          refine wl_nil ?_
          first
           | exact then_n ⟨_, _, rfl, (by show _ < _; omega), (by repeat (first | exact agree_self | exact agree_refl | refine agree_upd rfl ?_ | refine agree_mix rfl ?_)), i + 1, _, _, _, S ++ [f p], rfl, (by first | rfl | go_num | exact congrArg (Value.int _) (by first | omega | (simp; done) | (simp; omega))), (by first | rfl | go_num | exact congrArg (Value.int _) (by first | omega | (simp; done) | (simp; omega))), (by rw [hrow]; exact hS.pick [1, 3, 4, 5] rfl rfl), (by omega), (by first | exact hng | (rw [List.length_append, ← hng]; rfl) | rfl), (by first | exact hSy | exact hSn | rfl), (by omega)⟩
           | exact then_n ⟨_, _, rfl, (by show _ < _; omega), (by repeat (first | exact agree_self | exact agree_refl | refine agree_upd rfl ?_ | refine agree_mix rfl ?_)), i + 1, G, ng, cg, S, rfl, (by first | rfl | go_num | exact congrArg (Value.int _) (by first | omega | (simp; done) | (simp; omega))), (by first | rfl | go_num | exact congrArg (Value.int _) (by first | omega | (simp; done) | (simp; omega))), (hS.pick [1, 3, 4, 5] rfl rfl), (by omega), (by first | exact hng | (rw [List.length_append, ← hng]; rfl) | rfl), (by first | exact hSy | exact hSn | rfl), (by omega)⟩
       try (exfalso; first | with_reducible exact absurd hc1 Bool.false_ne_true | with_reducible exact absurd hc1.symm Bool.false_ne_true | (simp only [nrm] at hc1; omega) | (simp at hc1; done))
       all_goals
        try simp only [nrm] at hc1
        have hSn : S = (wgt (l.take (i + 1))).map f := by
          rw [hno (by first | omega | (simp at hc1; omega)), ← hSi]
        refine wp_skip ?_
        refine inb_n ?_
        refine then_n (hK7 _ _ ?_); clear hK7 K7
        refine wlit ?_
        first
         | refine wl_v (x_addN (tmI rfl rfl) (ev_cN 1) (fit_i64 (by omega))) ?_
         | refine wl_v (x_addI (tmI rfl rfl) (ev_cN 1) (IntWalk.i64_in _ (by omega))) ?_
         | refine wl_v (x_add (tmI rfl rfl) (ev_cN 1)) ?_
        refine wl_v (x_move (tmI rfl rfl)) ?_
        refine wl_nil ?_
        first
         | exact then_n ⟨_, _, rfl, (by show _ < _; omega), (by repeat (first | exact agree_self | exact agree_refl | refine agree_upd rfl ?_ | refine agree_mix rfl ?_)), i + 1, _, _, _, S ++ [f p], rfl, (by first | rfl | go_num | exact congrArg (Value.int _) (by first | omega | (simp; done) | (simp; omega))), (by first | rfl | go_num | exact congrArg (Value.int _) (by first | omega | (simp; done) | (simp; omega))), (by rw [hrow]; exact hS.pick [0, 2, 3, 4] rfl rfl), (by omega), (by first | exact hng | (rw [List.length_append, ← hng]; rfl) | rfl), (by first | exact hSy | exact hSn | rfl), (by omega)⟩
         | exact then_n ⟨_, _, rfl, (by show _ < _; omega), (by repeat (first | exact agree_self | exact agree_refl | refine agree_upd rfl ?_ | refine agree_mix rfl ?_)), i + 1, G, ng, cg, S, rfl, (by first | rfl | go_num | exact congrArg (Value.int _) (by first | omega | (simp; done) | (simp; omega))), (by first | rfl | go_num | exact congrArg (Value.int _) (by first | omega | (simp; done) | (simp; omega))), (hS.pick [0, 2, 3, 4] rfl rfl), (by omega), (by first | exact hng | (rw [List.length_append, ← hng]; rfl) | rfl), (by first | exact hSy | exact hSn | rfl), (by omega)⟩
    try (exfalso; first | with_reducible exact absurd hc0 Bool.false_ne_true | with_reducible exact absurd hc0.symm Bool.false_ne_true | (simp only [nrm] at hc0; omega) | (simp at hc0; done))
    all_goals
     try simp only [nrm] at hc0
     refine wp_exit ?_
     refine then_x ?_; clear hK6 K6
     refine then_x ?_
     refine inb_x ?_
     refine then_n (hK3 _ _ ?_); clear hK3 K3
     refine wp_seq_k ?_; intro K10 hK10
     obtain rfl : i = nl := by omega
     rw [List.take_of_length_le (by omega)] at hSi
     subst hng
     refine wlit ?_
     refine wl_v (x_move (tmS rfl rfl)) ?_
     refine wl_e rfl ?_; intro K hK
     refine ow_call Try.func13 rfl rfl (evs_cons (tmS rfl rfl) <| evs_cons rfl <| evs_nil) (sortf_c S.length G cg S _ _ (hS.enter [0] [] rfl rfl) rfl (by omega)) ?_
     rintro e w ⟨rfl, hS2⟩
     refine ⟨_, rfl, ?_⟩
     replace hS := hS.leave [0] [1, 2, 3] rfl rfl rfl hS2 rfl --ents row,g0_0,vl,vw
     clear hS2
     have hsl := srt_len S
     obtain ⟨R, hR⟩ : ∃ R, R = srt S := ⟨_, rfl⟩
     rw [← hR] at hS hsl
     rw [hSi] at hR
     try replace hS := St.nm (M' := [.row _ _ _ _ _, .blk _ _ [_, _, _, _, _, _, _, _, _, _, _, _, _, _, _, _], .vw _ _, .vw _ _]) hS rfl
     refine hK _ _ ?_; clear hK K
     refine wl_nil ?_
     refine then_n (hK10 _ _ ?_); clear hK10 K10
     refine wp_seq_k ?_; intro K11 hK11
     refine wlit ?_
     refine wl_v (x_assign ev_c) ?_
     refine wl_nil ?_
     refine then_n (hK11 _ _ ?_); clear hK11 K11
     refine wp_seq_k ?_; intro K12 hK12
     refine wp_seq_k ?_; intro K13 hK13
     refine wlit ?_
     refine wl_v (x_move (tmS rfl rfl)) ?_
     refine wl_v (x_len Try.underlying44 (tmS rfl rfl)) ?_
     refine wl_v (x_move (ev_cN 0)) ?_
     refine wl_nil ?_
     refine then_n (hK13 _ _ ?_); clear hK13 K13
     refine wp_block ?_
     have hS := (hS.nilrow 3 1).pick [0, 1] rfl rfl --ents rowi,row
     refine lp [10, 12, 37, 38, 39, 40, 41, 42, 43, 44, 45, 46] (fun mz g w => ∃ (j : Nat), ∃ (A3 : Option Addr), ∃ (n3 c3 : Nat), mz = R.length - j ∧ g 37 = .int .i64 (j : Int) ∧ g 10 = .slice A3 n3 c3 ∧ St [] w0 [.row (.slice A3 n3 c3) 3 1 n3 (idv (R.take j)), .row (.slice G S.length cg) 46 2 S.length (flat sv R)] w ∧ (j ≤ R.length) ∧ (n3 = j)) ?_ ?_
     · exact ⟨_, 0, none, 0, 0, rfl, (by first | rfl | go_num | exact congrArg (Value.int _) (by first | omega | (simp; done) | (simp; omega))), (by first | rfl | go_num | exact congrArg (Value.int _) (by first | omega | (simp; done) | (simp; omega))), hS, (by omega), (by omega)⟩
     · clear hS; intro mz g w hI
       obtain ⟨j, A3, n3, c3, rfl, hs37, hs10, hS, hj, hn3⟩ := hI
       refine fr_know (d := 37) hs37 ?_; clear hs37
       refine fr_know (d := 10) (upd_ne rfl hs10) ?_; clear hs10
       refine wp_seq_k ?_; intro K14 hK14
       refine wlit ?_
       refine wl_v (x_lss (tmI rfl rfl) (tmI rfl rfl)) ?_
       refine wl_nil ?_
       refine then_n (hK14 _ _ ?_); clear hK14 K14
       refine wp_seq_k ?_; intro K15 hK15
       refine cnd (tm rfl) (fun hc2 => ?_) (fun hc2 => ?_)
       · try (exfalso; first | with_reducible exact absurd hc2 Bool.false_ne_true | with_reducible exact absurd hc2.symm Bool.false_ne_true | (simp only [nrm] at hc2; omega) | (simp at hc2; done))
         all_goals
          try simp only [nrm] at hc2
          obtain ⟨ga, rfl⟩ := row_some (hS.rowOk 1 rfl) (by omega)
          have hids : idv (R.take (j + 1)) = idv (R.take j) ++ [.int .i64 (R.getD j default).1] := by
            unfold idv
            rw [List.take_succ_eq_append_getElem (by omega), List.map_append, List.getD_eq_getElem?_getD, List.getElem?_eq_getElem (by omega)]
            rfl
          refine wp_skip ?_
          refine then_n (hK15 _ _ ?_); clear hK15 K15
          refine wp_seq_k ?_; intro K16 hK16
          refine wp_block ?_
          refine wp_seq_k ?_; intro K17 hK17
          refine wlit ?_
          refine wl_v (x_ixs Try.underlying44 ts_46 (tmS rfl rfl) (tmI rfl rfl) (by omega)) ?_
          first
           | refine wl_v (x_loadA Try.underlying46 rfl (by exact ts_46) (tmP rfl rfl) (rangeRs hS.ok 0 rfl (fun _ => rfl) (by omega))) ?_
           | refine wl_v (x_loadA Try.underlying46 rfl (by exact ts_46) (tmP rfl rfl) (rangeRs hS.ok 1 rfl (fun _ => rfl) (by omega))) ?_
          refine wl_e rfl ?_; intro K hK
          refine ow_alloc hS tz_46 rfl ?_
          clear hS; intro g12_2 w hg12_2 hS
          refine hK _ _ ?_; clear hK K
          refine wl_e rfl ?_; intro K hK
          refine ow_storeA hS 0 rfl ts_46 (tmP rfl rfl) (tmA rfl rfl) rfl rfl rfl ?_
          clear hS; intro w hS
          refine hK _ _ ?_; clear hK K
          refine wl_nil ?_
          refine then_n (hK17 _ _ ?_); clear hK17 K17
          refine wlit ?_
          refine wl_v (x_move (tmS rfl rfl)) ?_
          refine wl_v (x_fa 0 Try.underlying46 rfl rfl ts_3 (tmP rfl rfl)) ?_
          first
           | refine wl_v (x_load Try.underlying3 rfl (tmP rfl rfl) (cellB hS.ok 0 rfl rfl)) ?_
           | refine wl_v (x_load Try.underlying3 rfl (tmP rfl rfl) (cellB hS.ok 0 rfl (getm (by omega)))) ?_
          refine wl_e rfl ?_; intro K hK
          refine ow_build hS Try.underlying27 tz_3 (bc_take (tmI rfl rfl) <| bc_nil) rfl rfl (by kernel_rfl) ?_
          clear hS; intro g13_3 w hg13_3 hS
          refine hK _ _ ?_; clear hK K
          refine wl_e rfl ?_; intro K hK
          first
           | (refine ow_append hS 2 0 rfl rfl Try.underlying27 tz_3 rfl (tmS rfl rfl) (tmS rfl rfl) rfl ⟨by decide, by decide, rfl⟩ (by simp only [maxLen]; omega) (by omega) ?_; clear hS; intro g13_4 cg13_4 w hS)
           | (refine ow_append hS 3 0 rfl rfl Try.underlying27 tz_3 rfl (tmS rfl rfl) (tmS rfl rfl) rfl ⟨by decide, by decide, rfl⟩ (by simp only [maxLen]; omega) (by omega) ?_; clear hS; intro g13_4 cg13_4 w hS)
          refine hK _ _ ?_; clear hK K
          refine wl_v (x_assign (tmS rfl rfl)) ?_
          refine wl_nil ?_
          refine inb_n ?_
          refine then_n (hK16 _ _ ?_); clear hK16 K16
          refine wlit ?_
          first
           | refine wl_v (x_addN (tmI rfl rfl) (ev_cN 1) (fit_i64 (by omega))) ?_
           | refine wl_v (x_addI (tmI rfl rfl) (ev_cN 1) (IntWalk.i64_in _ (by omega))) ?_
           | refine wl_v (x_add (tmI rfl rfl) (ev_cN 1)) ?_
          refine wl_v (x_move (tmI rfl rfl)) ?_
          refine wl_nil ?_
          exact then_n ⟨_, _, rfl, (by show _ < _; omega), (by repeat (first | exact agree_self | exact agree_refl | refine agree_upd rfl ?_ | refine agree_mix rfl ?_)), j + 1, _, _, _, rfl, (by first | rfl | go_num | exact congrArg (Value.int _) (by first | omega | (simp; done) | (simp; omega))), (by first | rfl | go_num | exact congrArg (Value.int _) (by first | omega | (simp; done) | (simp; omega))), (by rw [hids]; exact hS.pick [2, 3] rfl rfl), (by omega), (by omega)⟩
       try (exfalso; first | with_reducible exact absurd hc2 Bool.false_ne_true | with_reducible exact absurd hc2.symm Bool.false_ne_true | (simp only [nrm] at hc2; omega) | (simp at hc2; done))
       all_goals
        try simp only [nrm] at hc2
        refine wp_exit ?_
        refine then_x ?_; clear hK15 K15
        refine then_x ?_
        refine inb_x ?_
        refine then_n (hK12 _ _ ?_); clear hK12 K12
        refine wp_seq_k ?_; intro K18 hK18
        refine wlit ?_
        refine wl_v (x_move (tmS rfl rfl)) ?_
        refine wl_v (x_assign (tmS rfl rfl)) ?_
        refine wl_nil ?_
        refine then_n (hK18 _ _ ?_); clear hK18 K18
        refine wp_ret ?_
        refine ret1 rfl (.tmp rfl (show _ = Value.slice _ _ _ from rfl)) ?_
        obtain rfl : j = R.length := by omega
        rw [List.take_length] at hS
        rw [← hR]
        exact ⟨_, _, _, hn3, rfl, hS.new 0 rfl rfl, hS.kp⟩
end Go.Proofs.Ytgfmjgfeiokcdaa
