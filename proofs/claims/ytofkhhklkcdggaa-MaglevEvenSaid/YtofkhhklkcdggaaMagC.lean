
/- Building a table, by contract, both sides. Conditions: none but bounds. -/
import Derived.Test.YtofkhhklkcdggaaMagB
namespace Go.Proofs.Ytofkhhklkcdggaa
open Go.RowKit
def memN (l : List Int) (j : Nat) : Nat := (l.getD (j % l.length) 0).toNat
def posN (k : Nat → Nat) (l : List Int) (n j : Nat) (t : List Int) : Nat := atN (fstN k (memN l j) n) (stpN k (memN l j) n) n (ff t (fstN k (memN l j) n) (stpN k (memN l j) n) n)
def tabN (k : Nat → Nat) (l : List Int) (n : Nat) : Nat → List Int
  | 0 => List.replicate n 0
  | j + 1 => (tabN k l n j).set (posN k l n j (tabN k l n j)) (memN l j : Int)
theorem tab_len (k : Nat → Nat) (l : List Int) (n : Nat) : ∀ j, (tabN k l n j).length = n
  | 0 => List.length_replicate
  | j + 1 => by rw [tabN, List.length_set]; exact tab_len k l n j
structure Turned (k : Nat → Nat) (l : List Int) (n j x : Nat) : Prop where
  lt : x < n
  free : (tabN k l n j).getD (atN (fstN k (memN l j) n) (stpN k (memN l j) n) n x) 0 = 0
  before : ∀ y, y < x → (tabN k l n j).getD (atN (fstN k (memN l j) n) (stpN k (memN l j) n) n y) 0 ≠ 0
  step : tabN k l n (j + 1) = (tabN k l n j).set (atN (fstN k (memN l j) n) (stpN k (memN l j) n) n x) (memN l j : Int)
theorem mem_ok {l : List Int} (h : okM l) (hl : 1 ≤ l.length) (j : Nat) : l.getD (j % l.length) 0 = (memN l j : Int) ∧ 1 ≤ memN l j ∧ memN l j ≤ 64 := by
  have h1 := okM_get h (k := j % l.length) (Nat.mod_lt _ (by omega))
  unfold memN
  omega
theorem turned_of {k : Nat → Nat} {l : List Int} {n j : Nat} (hn : isP n) (hc : (tabN k l n j).countP nz < n) : ∃ x, Turned k l n j x := by
  obtain ⟨h1, h2⟩ := stp_bd (k := k) (m := memN l j) hn.1
  obtain ⟨x, hx, h0, hb⟩ := free_ex hn h1 h2 (tab_len k l n j) hc
  refine ⟨x, hx, h0, hb, ?_⟩
  rw [tabN]
  unfold posN
  rw [ff_eq hx hb h0]
theorem tab_count {k : Nat → Nat} {l : List Int} {n : Nat} (hn : isP n) (hok : okM l) (hl : 1 ≤ l.length) : ∀ j, j ≤ n → (tabN k l n j).countP nz = j := by
  intro j
  induction j with
  | zero =>
    intro _
    rw [tabN, List.countP_replicate]
    simp [nz]
  | succ j ih =>
    intro hj
    have h1 := ih (by omega)
    obtain ⟨x, hx⟩ := turned_of (k := k) (l := l) (j := j) hn (by omega)
    obtain ⟨_, hm1, _⟩ := mem_ok hok hl j
    rw [hx.step, countP_set nz _ _ _ (by rw [tab_len]; exact atN_lt (by have := hn.1; omega)) (by rw [hx.free]; rfl), h1, if_pos (by simp [nz]; omega)]
theorem turned {k : Nat → Nat} {l : List Int} {n j : Nat} (hn : isP n) (hok : okM l) (hl : 1 ≤ l.length) (hj : j < n) : ∃ x, Turned k l n j x := turned_of hn (by rw [tab_count hn hok hl j (by omega)]; exact hj)
theorem tab_keep {k : Nat → Nat} {l : List Int} {n j x : Nat} (h : Turned k l n j x) (hm : 1 ≤ memN l j) {p : Nat} (hp : (tabN k l n j).getD p 0 ≠ 0) : (tabN k l n (j + 1)).getD p 0 ≠ 0 := by
  rw [h.step, List.getD_eq_getElem?_getD, List.getElem?_set]
  split
  · split
    · simp; omega
    · next hlt =>
      exfalso
      rw [List.getD_eq_getElem?_getD, List.getElem?_eq_none (by omega)] at hp
      exact hp rfl
  · rw [← List.getD_eq_getElem?_getD]; exact hp
def Nexts (k : Nat → Nat) (l : List Int) (n j : Nat) (nx : List Nat) : Prop := ∀ i, i < l.length → nx.getD i 0 < n ∧ ∀ y, y < nx.getD i 0 → (tabN k l n j).getD (atN (fstN k (l.getD i 0).toNat n) (stpN k (l.getD i 0).toNat n) n y) 0 ≠ 0
theorem nexts_0 {k : Nat → Nat} {l : List Int} {n : Nat} (hn : 2 ≤ n) : Nexts k l n 0 (List.replicate l.length 0) := fun i hi => by
  have h0 : (List.replicate l.length 0).getD i 0 = 0 := by
    rw [List.getD_eq_getElem?_getD, List.getElem?_replicate]
    split <;> rfl
  rw [h0]
  exact ⟨by omega, fun y hy => by omega⟩
theorem nexts_step {k : Nat → Nat} {l : List Int} {n j x : Nat} {nx : List Nat} (h : Nexts k l n j nx) (hT : Turned k l n j x) (hm : 1 ≤ memN l j) (hnl : nx.length = l.length) (hl : 1 ≤ l.length) : Nexts k l n (j + 1) (nx.set (j % l.length) x) := fun i hi => by
  have hmod := Nat.mod_lt j (show l.length > 0 by omega)
  by_cases he : i = j % l.length
  · subst he
    have h1 : (nx.set (j % l.length) x).getD (j % l.length) 0 = x := by
      rw [List.getD_eq_getElem?_getD, List.getElem?_set_self (by omega)]
      rfl
    rw [h1]
    exact ⟨hT.lt, fun y hy => tab_keep hT hm (hT.before y hy)⟩
  · have h1 : (nx.set (j % l.length) x).getD i 0 = nx.getD i 0 := by
      rw [List.getD_eq_getElem?_getD, List.getElem?_set_ne (fun h => he h.symm), ← List.getD_eq_getElem?_getD]
    rw [h1]
    exact ⟨(h i hi).1, fun y hy => tab_keep hT hm ((h i hi).2 y hy)⟩
def natv (x : Nat) : Value := .int .i64 (x : Int)
set_option maxRecDepth 100000 in
set_option maxHeartbeats 8000000 in
theorem mbuild_c (k : Nat → Nat) (n : Nat) (A : Option Addr) (q c : Nat) (l : List Int) (w0 : World) (hkb : Bytes (kL k)) (hv : View w0 w0.heap.size A (l.map i64v)) (hl : l.length = q) (hq : q ≤ 70) (hP : isP n) (hn : n ≤ 2048) (hok : okM l) (hq1 : 1 ≤ q) (hqn : q ≤ n) :
    Calls Try.prog 6 #[.agg (kC k).toArray, .int .i64 (n : Int), .slice A q c] w0 fun e w' => ∃ g, e = .returned (.tuple #[.agg #[.slice (some ⟨g, 0, none⟩) n n], .int .i64 0]) ∧ New w0 w' (.row (.slice (some ⟨g, 0, none⟩) n n) 3 1 n ((tabN k l n n).map i64v)) ∧ Kp [] w0 w' := by
  subst hl
  have hS := (St.sv w0).vcons rfl hv
  have hn2 := hP.1
  obtain ⟨b0, o0, rfl⟩ := view_some hv (by rw [List.length_map]; omega)
  refine ent (n := 82) Try.func6 rfl rfl ?_
  refine wp_seq_k ?_; intro K1 hK1
  refine wlit ?_
  refine wl_e rfl ?_; intro K hK
  refine ow_box hS (tmA rfl rfl) rfl ?_
  clear hS; intro g0_0 w hg0_0 hS
  refine hK _ _ ?_; clear hK K
  refine wl_e rfl ?_; intro K hK
  refine ow_alloc hS tz_27 rfl ?_
  clear hS; intro g0_1 w hg0_1 hS
  refine hK _ _ ?_; clear hK K
  refine wl_v (x_assign (ev_cN 0)) ?_
  refine wl_nil ?_
  refine then_n (hK1 _ _ ?_); clear hK1 K1
  refine wp_seq_k ?_; intro K2 hK2
  refine wp_seq_k ?_; intro K3 hK3
  refine wlit ?_
  refine wl_v (x_move (tmI rfl rfl)) ?_
  refine wl_v (x_gtr (tmI rfl rfl) (ev_cN 2048)) ?_
  refine wl_v (x_move (tmB rfl rfl)) ?_
  refine gs_wl (tm (t := 15) rfl) (fun hg1_2 => ?_) (fun hg1_2 => ?_)
  · have hg1_2' := hg1_2; (try simp only [nrm] at hg1_2'); try (exfalso; first | with_reducible exact absurd hg1_2 Bool.false_ne_true | with_reducible exact absurd hg1_2.symm Bool.false_ne_true | omega | (simp at hg1_2; done))
    all_goals
     refine wl_s rfl (want_n rfl rfl rfl rfl (by rw [hg1_2]; rfl)) ?_
     refine wl_s rfl (want_n rfl rfl rfl rfl (by rw [hg1_2]; rfl)) ?_
     refine wl_s rfl (want_n rfl rfl rfl rfl (by rw [hg1_2]; rfl)) ?_
     refine wl_v (x_pickT (tmB rfl rfl) hg1_2 ev_c) ?_
     refine wl_v (x_move (tmB rfl rfl)) ?_
     refine wl_s rfl (want_n rfl rfl rfl rfl rfl) ?_
     refine wl_s rfl (want_n rfl rfl rfl rfl rfl) ?_
     refine wl_s rfl (want_n rfl rfl rfl rfl rfl) ?_
     refine wl_s rfl (want_n rfl rfl rfl rfl rfl) ?_
     refine wl_v (x_pickT (tmB rfl rfl) rfl ev_c) ?_
     refine wl_nil ?_
     refine then_n (hK3 _ _ ?_); clear hK3 K3
     refine cnd_t (tmB rfl rfl) rfl ?_
     refine wp_seq_k ?_; intro K4 hK4
     refine wlit ?_
     refine wl_v (x_build (bc_skip (.slice none 0 0) <| bc_nil) (by kernel_rfl)) ?_
     refine wl_e rfl ?_; intro K hK
     refine ow_storeA hS 0 rfl ts_27 (tmP rfl rfl) (tmA rfl rfl) rfl rfl rfl ?_
     clear hS; intro w hS
     refine hK _ _ ?_; clear hK K
     refine wl_v (x_assign (ev_cN 1)) ?_
     refine wl_nil ?_
     refine then_n (hK4 _ _ ?_); clear hK4 K4
     refine wp_ret ?_
     refine then_r ?_
     refine ret2 rfl (.cell rfl rfl (load_rowB (cs := [_]) hS.ok 0 rfl Try.underlying27 rfl ts_27 rfl)) (.tmp rfl (show _ = Value.int _ _ from rfl)) ?_
     obtain rfl : j = n := by omega
     exact ⟨g3_1, rfl, hS.new (no_label_rows) rfl rfl, hS.kp⟩
  have hg1_2' := hg1_2; (try simp only [nrm] at hg1_2'); try (exfalso; first | with_reducible exact absurd hg1_2 Bool.false_ne_true | with_reducible exact absurd hg1_2.symm Bool.false_ne_true | omega | (simp at hg1_2; done))
  all_goals
   refine wl_gv (want_y rfl rfl rfl rfl (by rw [hg1_2]; rfl)) (x_move (tmI rfl rfl)) ?_
   refine wl_g (want_y rfl rfl rfl rfl (by rw [hg1_2]; rfl)) ?_; intro K hK
   refine ow_call Try.func14 rfl rfl (evs_cons (tmI rfl rfl) <| evs_nil) (prime_c n _ hn2 (by omega)) ?_
   rintro e w ⟨bp, rfl, hbp, hk⟩
   refine ⟨_, rfl, ?_⟩
   replace hS := hS.kept hk
   clear hk
   obtain rfl : bp = true := hbp.2 hP
   refine hK _ _ ?_; clear hK K
   refine wl_gv (want_y rfl rfl rfl rfl (by rw [hg1_2]; rfl)) (x_not (tmB rfl rfl)) ?_
   refine wl_v (x_pickF (tmB rfl rfl) hg1_2 (tmB rfl rfl)) ?_
   refine wl_v (x_move (tmB rfl rfl)) ?_
   refine gs_wl (tm (t := 20) rfl) (fun hg1_7 => ?_) (fun hg1_7 => ?_)
   · have hg1_7' := hg1_7; (try simp only [nrm] at hg1_7'); try (exfalso; first | with_reducible exact absurd hg1_7 Bool.false_ne_true | with_reducible exact absurd hg1_7.symm Bool.false_ne_true | omega | (simp at hg1_7; done))
     all_goals
      refine wl_s rfl (want_n rfl rfl rfl rfl (by rw [hg1_7]; rfl)) ?_
      refine wl_s rfl (want_n rfl rfl rfl rfl (by rw [hg1_7]; rfl)) ?_
      refine wl_s rfl (want_n rfl rfl rfl rfl (by rw [hg1_7]; rfl)) ?_
      refine wl_s rfl (want_n rfl rfl rfl rfl (by rw [hg1_7]; rfl)) ?_
      refine wl_v (x_pickT (tmB rfl rfl) hg1_7 ev_c) ?_
      refine wl_nil ?_
      refine then_n (hK3 _ _ ?_); clear hK3 K3
      refine cnd_t (tmB rfl rfl) rfl ?_
      refine wp_seq_k ?_; intro K6 hK6
      refine wlit ?_
      refine wl_v (x_build (bc_skip (.slice none 0 0) <| bc_nil) (by kernel_rfl)) ?_
      refine wl_e rfl ?_; intro K hK
      refine ow_storeA hS 0 rfl ts_27 (tmP rfl rfl) (tmA rfl rfl) rfl rfl rfl ?_
      clear hS; intro w hS
      refine hK _ _ ?_; clear hK K
      refine wl_v (x_assign (ev_cN 1)) ?_
      refine wl_nil ?_
      refine then_n (hK6 _ _ ?_); clear hK6 K6
      refine wp_ret ?_
      refine then_r ?_
      refine ret2 rfl (.cell rfl rfl (load_rowB (cs := [_]) hS.ok 0 rfl Try.underlying27 rfl ts_27 rfl)) (.tmp rfl (show _ = Value.int _ _ from rfl)) ?_
      obtain rfl : j = n := by omega
      exact ⟨g3_1, rfl, hS.new (no_label_rows) rfl rfl, hS.kp⟩
   have hg1_7' := hg1_7; (try simp only [nrm] at hg1_7'); try (exfalso; first | with_reducible exact absurd hg1_7 Bool.false_ne_true | with_reducible exact absurd hg1_7.symm Bool.false_ne_true | omega | (simp at hg1_7; done))
   all_goals
    refine wl_gv (want_y rfl rfl rfl rfl (by rw [hg1_7]; rfl)) (x_move (tmS rfl rfl)) ?_
    refine wl_gv (want_y rfl rfl rfl rfl (by rw [hg1_7]; rfl)) (x_move (tmI rfl rfl)) ?_
    refine wl_g (want_y rfl rfl rfl rfl (by rw [hg1_7]; rfl)) ?_; intro K hK
    refine ow_call Try.func15 rfl rfl (evs_cons (tmS rfl rfl) <| evs_cons (tmI rfl rfl) <| evs_nil) (rightm_c _ l.length c l n _ (viewV hS.ok 2 rfl) rfl hq) ?_
    rintro e w ⟨bm, rfl, hbm, hk⟩
    refine ⟨_, rfl, ?_⟩
    replace hS := hS.kept hk
    clear hk
    obtain rfl : bm = true := hbm.2 ⟨hok, hq1, by omega⟩
    refine hK _ _ ?_; clear hK K
    refine wl_gv (want_y rfl rfl rfl rfl (by rw [hg1_7]; rfl)) (x_not (tmB rfl rfl)) ?_
    refine wl_v (x_pickF (tmB rfl rfl) hg1_7 (tmB rfl rfl)) ?_
    refine wl_nil ?_
    refine then_n (hK3 _ _ ?_); clear hK3 K3
    refine cnd (tm rfl) (fun hc0 => ?_) (fun hc0 => ?_)
    · exfalso
      simp at hc0
    try (exfalso; first | with_reducible exact absurd hc0 Bool.false_ne_true | with_reducible exact absurd hc0.symm Bool.false_ne_true | (simp only [nrm] at hc0; omega) | (simp at hc0; done))
    all_goals
     try simp only [nrm] at hc0
     refine wp_skip ?_
     refine then_n (hK2 _ _ ?_); clear hK2 K2
     refine wp_seq_k ?_; intro K8 hK8
     refine wlit ?_
     refine wl_v (x_move (tmI rfl rfl)) ?_
     refine wl_e rfl ?_; intro K hK
     refine ow_make hS Try.underlying23 tz_3 rfl (tmI rfl rfl) (tmI rfl rfl) rfl (by omega) (by simp only [maxLen]; omega) ?_
     clear hS; intro g3_1 w hg3_1 hS
     refine hK _ _ ?_; clear hK K
     refine wl_v (x_build (bc_take (tmS rfl rfl) <| bc_nil) (by kernel_rfl)) ?_
     refine wl_e rfl ?_; intro K hK
     refine ow_alloc hS tz_27 rfl ?_
     clear hS; intro g3_3 w hg3_3 hS
     refine hK _ _ ?_; clear hK K
     refine wl_e rfl ?_; intro K hK
     refine ow_storeA hS 0 rfl ts_27 (tmP rfl rfl) (tmA rfl rfl) rfl rfl rfl ?_
     clear hS; intro w hS
     refine hK _ _ ?_; clear hK K
     refine wl_nil ?_
     refine then_n (hK8 _ _ ?_); clear hK8 K8
     refine wp_seq_k ?_; intro K9 hK9
     refine wlit ?_
     refine wl_v (x_move (tmS rfl rfl)) ?_
     refine wl_v (x_len Try.underlying23 (tmS rfl rfl)) ?_
     refine wl_e rfl ?_; intro K hK
     refine ow_make hS Try.underlying23 tz_3 rfl (tmI rfl rfl) (tmI rfl rfl) rfl (by omega) (by simp only [maxLen]; omega) ?_
     clear hS; intro g4_2 w hg4_2 hS
     refine hK _ _ ?_; clear hK K
     refine wl_v (x_assign (tmS rfl rfl)) ?_
     refine wl_nil ?_
     refine then_n (hK9 _ _ ?_); clear hK9 K9
     refine wp_seq_k ?_; intro K10 hK10
     refine wp_seq_k ?_; intro K11 hK11
     refine wlit ?_
     refine wl_v (x_move (tmI rfl rfl)) ?_
     refine wl_v (x_move (ev_cN 0)) ?_
     refine wl_nil ?_
     refine then_n (hK11 _ _ ?_); clear hK11 K11
     refine wp_block ?_
     refine lp [10, 11, 12, 34, 35, 36, 37, 38, 39, 40, 41, 42, 43, 44, 45, 46, 47, 48, 49, 50, 51, 52, 53, 54, 55, 56, 57, 58, 59, 60, 61, 62, 63, 64, 65, 66, 67, 68, 69, 70, 71, 72, 73, 74, 75, 76, 77, 78, 79, 80] (fun mz g w => ∃ (j : Nat), ∃ (nx : List Nat), mz = n - j ∧ g 34 = .int .i64 (j : Int) ∧ St [] w0 [.row (.slice (some ⟨g4_2, 0, none⟩) l.length l.length) 3 1 l.length (nx.map natv), .row (.slice (some ⟨g3_1, 0, none⟩) n n) 3 1 n ((tabN k l n j).map i64v), .blk g3_3 27 [.slice (some ⟨g3_1, 0, none⟩) n n], .blk g0_1 27 [.slice none 0 0], .blk g0_0 41 (kC k), .vw (some ⟨b0, o0, none⟩) (l.map i64v)] w ∧ (j ≤ n) ∧ (nx.length = l.length) ∧ (Nexts k l n j nx)) ?_ ?_
     · exact ⟨_, 0, List.replicate l.length 0, rfl, (by first | rfl | go_num | exact congrArg (Value.int _) (by first | omega | (simp; done) | (simp; omega))), (by simp only [List.map_replicate, tabN]; exact hS.pick [0, 2, 1, 3, 4, 5] rfl rfl), (by omega), (by first | exact List.length_replicate | (rw [List.length_set]; exact hnl)), (by first | exact hnxN | exact nexts_0 hn2)⟩
     · clear hS; intro mz g w hI
       obtain ⟨j, nx, rfl, hs34, hS, hj, hnl, hnx⟩ := hI
       refine fr_know (d := 34) hs34 ?_; clear hs34
       refine wp_seq_k ?_; intro K12 hK12
       refine wlit ?_
       refine wl_v (x_lss (tmI rfl rfl) (tmI rfl rfl)) ?_
       refine wl_nil ?_
       refine then_n (hK12 _ _ ?_); clear hK12 K12
       refine wp_seq_k ?_; intro K13 hK13
       refine cnd (tm rfl) (fun hc1 => ?_) (fun hc1 => ?_)
       · try (exfalso; first | with_reducible exact absurd hc1 Bool.false_ne_true | with_reducible exact absurd hc1.symm Bool.false_ne_true | (simp only [nrm] at hc1; omega) | (simp at hc1; done))
         all_goals
          try simp only [nrm] at hc1
          obtain ⟨xf, hxf⟩ := turned (k := k) hP hok hq1 (show j < n by omega)
          obtain ⟨hm, hm1, hm64⟩ := mem_ok hok hq1 j
          have hnxN := nexts_step hnx hxf hm1 hnl hq1
          have hmod := Nat.mod_lt j (show l.length > 0 by omega)
          obtain ⟨hlt, hfree, hbef, hstep⟩ := hxf
          have htl := tab_len k l n j
          have hnt := hnx (j % l.length) hmod
          have hfb := fst_bd (k := k) (m := memN l j) hn2
          have hsb := stp_bd (k := k) (m := memN l j) hn2
          rw [hm, Int.toNat_natCast] at hnt
          obtain ⟨m, hmm⟩ : ∃ m, memN l j = m := ⟨_, rfl⟩
          rw [hmm] at hfree hbef hstep hnt hfb hsb hm hm1 hm64
          obtain ⟨f, hf⟩ : ∃ f, fstN k m n = f := ⟨_, rfl⟩
          obtain ⟨s, hs⟩ : ∃ s, stpN k m n = s := ⟨_, rfl⟩
          rw [hf, hs] at hfree hbef hstep hnt
          rw [hf] at hfb
          rw [hs] at hsb
          obtain ⟨x0, hx0⟩ : ∃ x, nx.getD (j % l.length) 0 = x := ⟨_, rfl⟩
          rw [hx0] at hnt
          obtain ⟨tt, htt⟩ : ∃ t, tabN k l n j = t := ⟨_, rfl⟩
          have hxx : x0 ≤ xf := by
            rcases Nat.lt_or_ge xf x0 with h | h
            · exact absurd hfree (hnt.2 xf h)
            · exact h
          have hset0 : nx.set (j % l.length) x0 = nx := by
            rw [← hx0, List.getD_eq_getElem?_getD, List.getElem?_eq_getElem (by omega)]
            exact List.set_getElem_self _
          have hgm : (l.map i64v)[j % l.length]? = some (.int .i64 (m : Int)) := by
            rw [← hm]
            exact getm hmod
          rw [htt] at hfree hbef hstep htl hS
          refine wp_skip ?_
          refine then_n (hK13 _ _ ?_); clear hK13 K13
          refine wp_seq_k ?_; intro K14 hK14
          refine wp_block ?_
          refine wp_seq_k ?_; intro K15 hK15
          refine wlit ?_
          refine wl_v (x_move (tmI rfl rfl)) ?_
          refine wl_v (x_assign (tmI rfl rfl)) ?_
          refine wl_nil ?_
          refine then_n (hK15 _ _ ?_); clear hK15 K15
          refine wp_seq_k ?_; intro K16 hK16
          refine wlit ?_
          refine wl_v (x_move (tmI rfl rfl)) ?_
          refine wl_v (x_move (tmS rfl rfl)) ?_
          refine wl_v (x_len Try.underlying23 (tmS rfl rfl)) ?_
          first
           | refine wl_v (x_remN (tmI rfl rfl) (tmI rfl rfl) (by omega)) ?_
           | refine wl_v (x_rem (tmI rfl rfl) (tmI rfl rfl) (by omega)) ?_
          refine wl_v (x_assign (tmI rfl rfl)) ?_
          refine wl_nil ?_
          refine then_n (hK16 _ _ ?_); clear hK16 K16
          refine wp_seq_k ?_; intro K17 hK17
          refine rg_startk 0 hS mixed_ ?_
          clear hS; intro w hS
          refine rg_take 0 rfl rfl (by kernel_rfl) (by kernel_rfl) (by kernel_rfl) (want_0) (fun w hok => x_loadA (cs := [_, _, _, _, _, _, _, _, _, _, _, _, _, _, _, _]) Try.underlying41 rfl ts_41 (tmP rfl rfl) (rangeB hok 4 rfl rfl)) ?_
          refine rg_take 1 rfl rfl (by kernel_rfl) (by kernel_rfl) (by kernel_rfl) (want_0) (fun w hok => x_move (tmS rfl rfl)) ?_
          refine rg_take 2 rfl rfl (by kernel_rfl) (by kernel_rfl) (by kernel_rfl) (want_0) (fun w hok => x_move (tmI rfl rfl)) ?_
          refine rg_take 3 rfl rfl (by kernel_rfl) (by kernel_rfl) (by kernel_rfl) (want_0) (fun w hok => x_ixs1 Try.underlying23 ts_3 (tmS rfl rfl) (tmI rfl rfl) (by omega)) ?_
          refine rg_take 4 rfl rfl (by kernel_rfl) (by kernel_rfl) (by kernel_rfl) (want_0) (fun w hok => x_load (v := .int .i64 (m : Int)) Try.underlying3 rfl (tmP rfl rfl) (cellV hok 5 rfl hgm)) ?_
          refine rg_take 5 rfl rfl (by kernel_rfl) (by kernel_rfl) (by kernel_rfl) (want_0) (fun w hok => x_move (tmI rfl rfl)) ?_
          refine rg_step2 6 7 rfl rfl (by kernel_rfl) (want_0) (want_0) (oks_drop hS 0 rfl) ?_ ?_
          · intro K hK
            refine ow_call Try.func16 rfl rfl (evs_cons (tmA rfl rfl) <| evs_cons (tmI rfl rfl) <| evs_cons (tmI rfl rfl) <| evs_nil) (mof_c k m n f s _ hkb hm64 hn2 (by omega) hf hs) ?_
            rintro e w ⟨rfl, hk⟩
            refine ⟨_, rfl, ?_⟩
            replace hS := hS.kept hk
            clear hk
            refine hK _ _ ?_; clear hK K
            refine rg_step 7 rfl (by kernel_rfl) (want_0) (oks_drop hS 0 rfl) ?_; intro K hK
            refine ow_alloc hS tz_45 rfl ?_
            clear hS; intro g9_7 w hg9_7 hS
            refine hK _ _ ?_; clear hK K
            refine rg_step 8 rfl (by kernel_rfl) (want_0) (oks_drop hS 1 rfl) ?_; intro K hK
            refine ow_storeA hS 0 rfl ts_45 (tmP rfl rfl) (tmA rfl rfl) rfl rfl rfl ?_
            clear hS; intro w hS
            refine hK _ _ ?_; clear hK K
            refine rg_done (oks_drop hS 1 rfl) (by kernel_rfl) ?_
            refine then_n (hK17 _ _ ?_); clear hK17 K17
            refine wp_seq_k ?_; intro K18 hK18
            refine wp_block ?_
            refine lp [48, 49, 50, 51, 52, 53, 54, 55, 56, 57, 58, 59, 60, 61, 62, 63, 64, 65] (fun mz g w => ∃ (x : Nat), mz = xf + 1 - x ∧ St [] w0 [.row (.slice (some ⟨g4_2, 0, none⟩) l.length l.length) 3 1 l.length ((nx.set (j % l.length) x).map natv), .row (.slice (some ⟨g3_1, 0, none⟩) n n) 3 1 n (tt.map i64v), .blk g9_7 45 [.int .i64 (f : Int), .int .i64 (s : Int)], .blk g3_3 27 [.slice (some ⟨g3_1, 0, none⟩) n n], .blk g0_1 27 [.slice none 0 0], .blk g0_0 41 (kC k), .vw (some ⟨b0, o0, none⟩) (l.map i64v)] w ∧ (x ≤ xf)) ?_ ?_
            · exact ⟨_, x0, rfl, (by rw [hset0]; exact hS.pick [1, 2, 0, 3, 4, 5, 6] rfl rfl), (by omega)⟩
            · clear hS; intro mz g w hI
              obtain ⟨x, rfl, hS, hx⟩ := hI
              refine wp_seq_k ?_; intro K19 hK19
              refine wp_seq_k ?_; intro K20 hK20
              have hsx : (nx.set (j % l.length) (x + 1)).map natv = ((nx.set (j % l.length) x).map natv).set (j % l.length) (.int .i64 ((x + 1 : Nat) : Int)) := by
                rw [List.map_set, List.map_set, List.set_set]
                rfl
              have hcx : ((nx.set (j % l.length) x).map natv)[j % l.length]? = some (.int .i64 (x : Int)) := by
                rw [List.getElem?_map, List.getElem?_set_self (by omega)]
                rfl
              have hxs : x * s ≤ 2048 * 2048 := Nat.mul_le_mul (by omega) (by omega)
              have hat : atN f s n x < n := atN_lt (by omega)
              have hct : (tt.map i64v)[atN f s n x]? = some (.int .i64 (tt.getD (atN f s n x) 0)) := getm (by omega)
              refine rg_startk 0 hS mixed_ ?_
              clear hS; intro w hS
              refine rg_take 0 rfl rfl (by kernel_rfl) (by kernel_rfl) (by kernel_rfl) (want_0) (fun w hok => x_fa 0 Try.underlying27 rfl rfl ts_23 (tmP rfl rfl)) ?_
              first
               | refine rg_take 1 rfl rfl (by kernel_rfl) (by kernel_rfl) (by kernel_rfl) (want_0) (fun w hok => x_load Try.underlying23 rfl (tmP rfl rfl) (cellB hok 3 rfl rfl)) ?_
               | refine rg_take 1 rfl rfl (by kernel_rfl) (by kernel_rfl) (by kernel_rfl) (want_0) (fun w hok => x_load Try.underlying23 rfl (tmP rfl rfl) (cellB hok 3 rfl (getm (by omega)))) ?_
              refine rg_take 2 rfl rfl (by kernel_rfl) (by kernel_rfl) (by kernel_rfl) (want_0) (fun w hok => x_loadA (cs := [_, _]) Try.underlying45 rfl ts_45 (tmP rfl rfl) (rangeB hok 2 rfl rfl)) ?_
              refine rg_take 3 rfl rfl (by kernel_rfl) (by kernel_rfl) (by kernel_rfl) (want_0) (fun w hok => x_move (tmS rfl rfl)) ?_
              refine rg_take 4 rfl rfl (by kernel_rfl) (by kernel_rfl) (by kernel_rfl) (want_0) (fun w hok => x_move (tmI rfl rfl)) ?_
              refine rg_take 5 rfl rfl (by kernel_rfl) (by kernel_rfl) (by kernel_rfl) (want_0) (fun w hok => x_ixs1 Try.underlying23 ts_3 (tmS rfl rfl) (tmI rfl rfl) (by omega)) ?_
              refine rg_take 6 rfl rfl (by kernel_rfl) (by kernel_rfl) (by kernel_rfl) (want_0) (fun w hok => x_load (v := .int .i64 (x : Int)) Try.underlying3 rfl (tmP rfl rfl) (cellR hok 0 rfl hcx)) ?_
              refine rg_take 7 rfl rfl (by kernel_rfl) (by kernel_rfl) (by kernel_rfl) (want_0) (fun w hok => x_move (tmI rfl rfl)) ?_
              refine rg_step 8 rfl (by kernel_rfl) (want_0) (oks_drop hS 0 rfl) ?_; intro K hK
              refine ow_call Try.func17 rfl rfl (evs_cons (tmA rfl rfl) <| evs_cons (tmI rfl rfl) <| evs_cons (tmI rfl rfl) <| evs_nil) (mat_c f s n x _ (by omega) (by omega) (by omega) (by omega) (by omega) (by omega)) ?_
              rintro e w ⟨rfl, hk⟩
              refine ⟨_, rfl, ?_⟩
              replace hS := hS.kept hk
              clear hk
              refine hK _ _ ?_; clear hK K
              refine rg_take 9 rfl rfl (by kernel_rfl) (by kernel_rfl) (by kernel_rfl) (want_0) (fun w hok => x_ixs1 Try.underlying23 ts_3 (tmS rfl rfl) (tmI rfl rfl) (by omega)) ?_
              refine rg_take 10 rfl rfl (by kernel_rfl) (by kernel_rfl) (by kernel_rfl) (want_0) (fun w hok => x_load (v := .int .i64 (tt.getD (atN f s n x) 0)) Try.underlying3 rfl (tmP rfl rfl) (cellR hok 1 rfl hct)) ?_
              refine rg_take 11 rfl rfl (by kernel_rfl) (by kernel_rfl) (by kernel_rfl) (want_0) (fun w hok => x_neq (tmI rfl rfl) (ev_cN 0)) ?_
              refine rg_done (oks_drop hS 0 rfl) (by kernel_rfl) ?_
              refine then_n (hK20 _ _ ?_); clear hK20 K20
              refine cnd (tm rfl) (fun hc2 => ?_) (fun hc2 => ?_)
              · try (exfalso; first | with_reducible exact absurd hc2 Bool.false_ne_true | with_reducible exact absurd hc2.symm Bool.false_ne_true | (simp only [nrm] at hc2; omega) | (simp at hc2; done))
                all_goals
                 try simp only [nrm] at hc2
                 have hx2 : x < xf := by
                   rcases Nat.lt_or_ge x xf with h | h
                   · exact h
                   · obtain rfl : x = xf := by omega
                     exact absurd hfree (by simpa using hc2)
                 refine wp_skip ?_
                 refine then_n (hK19 _ _ ?_); clear hK19 K19
                 refine wp_block ?_
                 refine wlit ?_
                 refine wl_v (x_move (tmS rfl rfl)) ?_
                 refine wl_v (x_move (tmI rfl rfl)) ?_
                 refine wl_v (x_ixs1 Try.underlying23 ts_3 (tmS rfl rfl) (tmI rfl rfl) (by omega)) ?_
                 refine wl_v (x_load (v := .int .i64 (x : Int)) Try.underlying3 rfl (tmP rfl rfl) (cellR hS.ok 0 rfl hcx)) ?_
                 first
                  | refine wl_v (x_addN (tmI rfl rfl) (ev_cN 1) (fit_i64 (by omega))) ?_
                  | refine wl_v (x_addI (tmI rfl rfl) (ev_cN 1) (IntWalk.i64_in _ (by omega))) ?_
                  | refine wl_v (x_add (tmI rfl rfl) (ev_cN 1)) ?_
                 refine wl_v (x_ixs1 Try.underlying23 ts_3 (tmS rfl rfl) (tmI rfl rfl) (by omega)) ?_
                 refine wl_e rfl ?_; intro K hK
                 first
                  | refine ow_store hS 0 rfl ts_3 (tmP rfl rfl) (tmI rfl rfl) rfl rfl ?_
                  | refine ow_storeX hS 0 rfl ts_3 (tmP rfl rfl) (tmI rfl rfl) rfl (by simp; omega) ?_
                  | refine ow_storeRs hS 0 rfl ts_3 (tmP rfl rfl) (tmI rfl rfl) rfl (by first | omega | (simp; omega)) ?_
                  | refine ow_storeR hS 0 rfl ts_3 (tmP rfl rfl) (tmI rfl rfl) rfl (by first | omega | (simp; omega)) ?_
                  | refine ow_store hS 1 rfl ts_3 (tmP rfl rfl) (tmI rfl rfl) rfl rfl ?_
                  | refine ow_storeX hS 1 rfl ts_3 (tmP rfl rfl) (tmI rfl rfl) rfl (by simp; omega) ?_
                  | refine ow_storeRs hS 1 rfl ts_3 (tmP rfl rfl) (tmI rfl rfl) rfl (by first | omega | (simp; omega)) ?_
                  | refine ow_storeR hS 1 rfl ts_3 (tmP rfl rfl) (tmI rfl rfl) rfl (by first | omega | (simp; omega)) ?_
                  | refine ow_store hS 2 rfl ts_3 (tmP rfl rfl) (tmI rfl rfl) rfl rfl ?_
                  | refine ow_storeX hS 2 rfl ts_3 (tmP rfl rfl) (tmI rfl rfl) rfl (by simp; omega) ?_
                  | refine ow_storeRs hS 2 rfl ts_3 (tmP rfl rfl) (tmI rfl rfl) rfl (by first | omega | (simp; omega)) ?_
                  | refine ow_storeR hS 2 rfl ts_3 (tmP rfl rfl) (tmI rfl rfl) rfl (by first | omega | (simp; omega)) ?_
                  | refine ow_store hS 3 rfl ts_3 (tmP rfl rfl) (tmI rfl rfl) rfl rfl ?_
                  | refine ow_storeX hS 3 rfl ts_3 (tmP rfl rfl) (tmI rfl rfl) rfl (by simp; omega) ?_
                  | refine ow_storeRs hS 3 rfl ts_3 (tmP rfl rfl) (tmI rfl rfl) rfl (by first | omega | (simp; omega)) ?_
                  | refine ow_storeR hS 3 rfl ts_3 (tmP rfl rfl) (tmI rfl rfl) rfl (by first | omega | (simp; omega)) ?_
                  | refine ow_store hS 4 rfl ts_3 (tmP rfl rfl) (tmI rfl rfl) rfl rfl ?_
                  | refine ow_storeX hS 4 rfl ts_3 (tmP rfl rfl) (tmI rfl rfl) rfl (by simp; omega) ?_
                  | refine ow_storeRs hS 4 rfl ts_3 (tmP rfl rfl) (tmI rfl rfl) rfl (by first | omega | (simp; omega)) ?_
                  | refine ow_storeR hS 4 rfl ts_3 (tmP rfl rfl) (tmI rfl rfl) rfl (by first | omega | (simp; omega)) ?_
                  | refine ow_store hS 5 rfl ts_3 (tmP rfl rfl) (tmI rfl rfl) rfl rfl ?_
                  | refine ow_storeX hS 5 rfl ts_3 (tmP rfl rfl) (tmI rfl rfl) rfl (by simp; omega) ?_
                  | refine ow_storeRs hS 5 rfl ts_3 (tmP rfl rfl) (tmI rfl rfl) rfl (by first | omega | (simp; omega)) ?_
                  | refine ow_storeR hS 5 rfl ts_3 (tmP rfl rfl) (tmI rfl rfl) rfl (by first | omega | (simp; omega)) ?_
                  | refine ow_store hS 6 rfl ts_3 (tmP rfl rfl) (tmI rfl rfl) rfl rfl ?_
                  | refine ow_storeX hS 6 rfl ts_3 (tmP rfl rfl) (tmI rfl rfl) rfl (by simp; omega) ?_
                  | refine ow_storeRs hS 6 rfl ts_3 (tmP rfl rfl) (tmI rfl rfl) rfl (by first | omega | (simp; omega)) ?_
                  | refine ow_storeR hS 6 rfl ts_3 (tmP rfl rfl) (tmI rfl rfl) rfl (by first | omega | (simp; omega)) ?_
                 clear hS; intro w hS
                 refine hK _ _ ?_; clear hK K
                 refine wl_nil ?_
                 refine inb_n ?_
                 exact then_n ⟨_, _, rfl, (by show _ < _; omega), (by repeat (first | exact agree_self | exact agree_refl | refine agree_upd rfl ?_ | refine agree_mix rfl ?_)), x + 1, rfl, (by rw [hsx]; exact hS), (by omega)⟩
              try (exfalso; first | with_reducible exact absurd hc2 Bool.false_ne_true | with_reducible exact absurd hc2.symm Bool.false_ne_true | (simp only [nrm] at hc2; omega) | (simp at hc2; done))
              all_goals
               try simp only [nrm] at hc2
               obtain rfl : xf = x := by
                 rcases Nat.lt_or_ge x xf with h | h
                 · exact absurd (by simpa using hc2) (hbef x h)
                 · omega
               refine wp_exit ?_
               refine then_x ?_; clear hK19 K19
               refine then_x ?_
               refine inb_x ?_
               refine then_n (hK18 _ _ ?_); clear hK18 K18
               --ents rows,rown,g9_7,g3_3,g0_1,g0_0,vw
               replace hS := hS.pick [1, 0, 2, 3, 4, 5, 6] rfl rfl
               try replace hS := St.nm (M' := [.row _ _ _ _ _, .row _ _ _ _ _, .blk _ _ [_, _], .blk _ _ [_], .blk _ _ [_], .blk _ _ [_, _, _, _, _, _, _, _, _, _, _, _, _, _, _, _], .vw _ _]) hS rfl
               refine rg_startk 1 hS mixed_ ?_
               clear hS; intro w hS
               refine rg_take 0 rfl rfl (by kernel_rfl) (by kernel_rfl) (by kernel_rfl) (want_0) (fun w hok => x_fa 0 Try.underlying27 rfl rfl ts_23 (tmP rfl rfl)) ?_
               first
                | refine rg_take 1 rfl rfl (by kernel_rfl) (by kernel_rfl) (by kernel_rfl) (want_0) (fun w hok => x_load Try.underlying23 rfl (tmP rfl rfl) (cellB hok 2 rfl rfl)) ?_
                | refine rg_take 1 rfl rfl (by kernel_rfl) (by kernel_rfl) (by kernel_rfl) (want_0) (fun w hok => x_load Try.underlying23 rfl (tmP rfl rfl) (cellB hok 2 rfl (getm (by omega)))) ?_
               refine rg_take 2 rfl rfl (by kernel_rfl) (by kernel_rfl) (by kernel_rfl) (want_0) (fun w hok => x_loadA (cs := [_, _]) Try.underlying45 rfl ts_45 (tmP rfl rfl) (rangeB hok 1 rfl rfl)) ?_
               refine rg_take 3 rfl rfl (by kernel_rfl) (by kernel_rfl) (by kernel_rfl) (want_0) (fun w hok => x_move (tmS rfl rfl)) ?_
               refine rg_take 4 rfl rfl (by kernel_rfl) (by kernel_rfl) (by kernel_rfl) (want_0) (fun w hok => x_move (tmI rfl rfl)) ?_
               refine rg_take 5 rfl rfl (by kernel_rfl) (by kernel_rfl) (by kernel_rfl) (want_0) (fun w hok => x_ixs1 Try.underlying23 ts_3 (tmS rfl rfl) (tmI rfl rfl) (by omega)) ?_
               refine rg_take 6 rfl rfl (by kernel_rfl) (by kernel_rfl) (by kernel_rfl) (want_0) (fun w hok => x_load (v := .int .i64 (xf : Int)) Try.underlying3 rfl (tmP rfl rfl) (cellR hok 0 rfl hcx)) ?_
               refine rg_take 7 rfl rfl (by kernel_rfl) (by kernel_rfl) (by kernel_rfl) (want_0) (fun w hok => x_move (tmI rfl rfl)) ?_
               refine rg_take 9 rfl rfl (by kernel_rfl) (by kernel_rfl) (by kernel_rfl) (want_0) (fun w hok => x_move (tmS rfl rfl)) ?_
               refine rg_take 10 rfl rfl (by kernel_rfl) (by kernel_rfl) (by kernel_rfl) (want_0) (fun w hok => x_move (tmI rfl rfl)) ?_
               refine rg_take 11 rfl rfl (by kernel_rfl) (by kernel_rfl) (by kernel_rfl) (want_0) (fun w hok => x_ixs1 Try.underlying23 ts_3 (tmS rfl rfl) (tmI rfl rfl) (by omega)) ?_
               refine rg_take 12 rfl rfl (by kernel_rfl) (by kernel_rfl) (by kernel_rfl) (want_0) (fun w hok => x_load (v := .int .i64 (m : Int)) Try.underlying3 rfl (tmP rfl rfl) (cellV hok 5 rfl hgm)) ?_
               refine rg_step 8 rfl (by kernel_rfl) (want_0) (oks_drop hS 1 rfl) ?_; intro K hK
               refine ow_call Try.func17 rfl rfl (evs_cons (tmA rfl rfl) <| evs_cons (tmI rfl rfl) <| evs_cons (tmI rfl rfl) <| evs_nil) (mat_c f s n xf _ (by omega) (by omega) (by omega) (by omega) (by omega) (by omega)) ?_
               rintro e w ⟨rfl, hk⟩
               refine ⟨_, rfl, ?_⟩
               replace hS := hS.kept hk
               clear hk
               refine hK _ _ ?_; clear hK K
               refine rg_take 13 rfl rfl (by kernel_rfl) (by kernel_rfl) (by kernel_rfl) (want_0) (fun w hok => x_ixs1 Try.underlying23 ts_3 (tmS rfl rfl) (tmI rfl rfl) (by omega)) ?_
               refine rg_step 14 rfl (by kernel_rfl) (want_0) (oks_drop hS 1 rfl) ?_; intro K hK
               first
                | refine ow_store hS 0 rfl ts_3 (tmP rfl rfl) (tmI rfl rfl) rfl rfl ?_
                | refine ow_storeX hS 0 rfl ts_3 (tmP rfl rfl) (tmI rfl rfl) rfl (by simp; omega) ?_
                | refine ow_storeRs hS 0 rfl ts_3 (tmP rfl rfl) (tmI rfl rfl) rfl (by first | omega | (simp; omega)) ?_
                | refine ow_storeR hS 0 rfl ts_3 (tmP rfl rfl) (tmI rfl rfl) rfl (by first | omega | (simp; omega)) ?_
                | refine ow_store hS 1 rfl ts_3 (tmP rfl rfl) (tmI rfl rfl) rfl rfl ?_
                | refine ow_storeX hS 1 rfl ts_3 (tmP rfl rfl) (tmI rfl rfl) rfl (by simp; omega) ?_
                | refine ow_storeRs hS 1 rfl ts_3 (tmP rfl rfl) (tmI rfl rfl) rfl (by first | omega | (simp; omega)) ?_
                | refine ow_storeR hS 1 rfl ts_3 (tmP rfl rfl) (tmI rfl rfl) rfl (by first | omega | (simp; omega)) ?_
                | refine ow_store hS 2 rfl ts_3 (tmP rfl rfl) (tmI rfl rfl) rfl rfl ?_
                | refine ow_storeX hS 2 rfl ts_3 (tmP rfl rfl) (tmI rfl rfl) rfl (by simp; omega) ?_
                | refine ow_storeRs hS 2 rfl ts_3 (tmP rfl rfl) (tmI rfl rfl) rfl (by first | omega | (simp; omega)) ?_
                | refine ow_storeR hS 2 rfl ts_3 (tmP rfl rfl) (tmI rfl rfl) rfl (by first | omega | (simp; omega)) ?_
                | refine ow_store hS 3 rfl ts_3 (tmP rfl rfl) (tmI rfl rfl) rfl rfl ?_
                | refine ow_storeX hS 3 rfl ts_3 (tmP rfl rfl) (tmI rfl rfl) rfl (by simp; omega) ?_
                | refine ow_storeRs hS 3 rfl ts_3 (tmP rfl rfl) (tmI rfl rfl) rfl (by first | omega | (simp; omega)) ?_
                | refine ow_storeR hS 3 rfl ts_3 (tmP rfl rfl) (tmI rfl rfl) rfl (by first | omega | (simp; omega)) ?_
                | refine ow_store hS 4 rfl ts_3 (tmP rfl rfl) (tmI rfl rfl) rfl rfl ?_
                | refine ow_storeX hS 4 rfl ts_3 (tmP rfl rfl) (tmI rfl rfl) rfl (by simp; omega) ?_
                | refine ow_storeRs hS 4 rfl ts_3 (tmP rfl rfl) (tmI rfl rfl) rfl (by first | omega | (simp; omega)) ?_
                | refine ow_storeR hS 4 rfl ts_3 (tmP rfl rfl) (tmI rfl rfl) rfl (by first | omega | (simp; omega)) ?_
                | refine ow_store hS 5 rfl ts_3 (tmP rfl rfl) (tmI rfl rfl) rfl rfl ?_
                | refine ow_storeX hS 5 rfl ts_3 (tmP rfl rfl) (tmI rfl rfl) rfl (by simp; omega) ?_
                | refine ow_storeRs hS 5 rfl ts_3 (tmP rfl rfl) (tmI rfl rfl) rfl (by first | omega | (simp; omega)) ?_
                | refine ow_storeR hS 5 rfl ts_3 (tmP rfl rfl) (tmI rfl rfl) rfl (by first | omega | (simp; omega)) ?_
                | refine ow_store hS 6 rfl ts_3 (tmP rfl rfl) (tmI rfl rfl) rfl rfl ?_
                | refine ow_storeX hS 6 rfl ts_3 (tmP rfl rfl) (tmI rfl rfl) rfl (by simp; omega) ?_
                | refine ow_storeRs hS 6 rfl ts_3 (tmP rfl rfl) (tmI rfl rfl) rfl (by first | omega | (simp; omega)) ?_
                | refine ow_storeR hS 6 rfl ts_3 (tmP rfl rfl) (tmI rfl rfl) rfl (by first | omega | (simp; omega)) ?_
               clear hS; intro w hS
               refine hK _ _ ?_; clear hK K
               refine rg_done (oks_drop hS 1 rfl) (by kernel_rfl) ?_
               refine inb_n ?_
               refine then_n (hK14 _ _ ?_); clear hK14 K14
               refine wlit ?_
               first
                | refine wl_v (x_addN (tmI rfl rfl) (ev_cN 1) (fit_i64 (by omega))) ?_
                | refine wl_v (x_addI (tmI rfl rfl) (ev_cN 1) (IntWalk.i64_in _ (by omega))) ?_
                | refine wl_v (x_add (tmI rfl rfl) (ev_cN 1)) ?_
               refine wl_v (x_move (tmI rfl rfl)) ?_
               refine wl_nil ?_
               exact then_n ⟨_, _, rfl, (by show _ < _; omega), (by repeat (first | exact agree_self | exact agree_refl | refine agree_upd rfl ?_ | refine agree_mix rfl ?_)), j + 1, nx.set (j % l.length) xf, rfl, (by first | rfl | go_num | exact congrArg (Value.int _) (by first | omega | (simp; done) | (simp; omega))), (by rw [hstep, List.map_set (f := i64v)]; exact hS.pick [1, 0, 3, 4, 5, 6] rfl rfl), (by omega), (by first | exact List.length_replicate | (rw [List.length_set]; exact hnl)), (by first | exact hnxN | exact nexts_0 hn2)⟩
          · intro K hK
            refine ow_alloc hS tz_45 rfl ?_
            clear hS; intro g9_7 w hg9_7 hS
            refine hK _ _ ?_; clear hK K
            refine rg_step 6 rfl (by kernel_rfl) (want_0) (oks_drop hS 1 rfl) ?_; intro K hK
            refine ow_call Try.func16 rfl rfl (evs_cons (tmA rfl rfl) <| evs_cons (tmI rfl rfl) <| evs_cons (tmI rfl rfl) <| evs_nil) (mof_c k m n f s _ hkb hm64 hn2 (by omega) hf hs) ?_
            rintro e w ⟨rfl, hk⟩
            refine ⟨_, rfl, ?_⟩
            replace hS := hS.kept hk
            clear hk
            refine hK _ _ ?_; clear hK K
            refine rg_step 8 rfl (by kernel_rfl) (want_0) (oks_drop hS 1 rfl) ?_; intro K hK
            refine ow_storeA hS 0 rfl ts_45 (tmP rfl rfl) (tmA rfl rfl) rfl rfl rfl ?_
            clear hS; intro w hS
            refine hK _ _ ?_; clear hK K
            refine rg_done (oks_drop hS 1 rfl) (by kernel_rfl) ?_
            refine then_n (hK17 _ _ ?_); clear hK17 K17
            refine wp_seq_k ?_; intro K21 hK21
            refine wp_block ?_
            refine lp [48, 49, 50, 51, 52, 53, 54, 55, 56, 57, 58, 59, 60, 61, 62, 63, 64, 65] (fun mz g w => ∃ (x : Nat), mz = xf + 1 - x ∧ St [] w0 [.row (.slice (some ⟨g4_2, 0, none⟩) l.length l.length) 3 1 l.length ((nx.set (j % l.length) x).map natv), .row (.slice (some ⟨g3_1, 0, none⟩) n n) 3 1 n (tt.map i64v), .blk g9_7 45 [.int .i64 (f : Int), .int .i64 (s : Int)], .blk g3_3 27 [.slice (some ⟨g3_1, 0, none⟩) n n], .blk g0_1 27 [.slice none 0 0], .blk g0_0 41 (kC k), .vw (some ⟨b0, o0, none⟩) (l.map i64v)] w ∧ (x ≤ xf)) ?_ ?_
            · exact ⟨_, x0, rfl, (by rw [hset0]; exact hS.pick [1, 2, 0, 3, 4, 5, 6] rfl rfl), (by omega)⟩
            · clear hS; intro mz g w hI
              obtain ⟨x, rfl, hS, hx⟩ := hI
              refine wp_seq_k ?_; intro K22 hK22
              refine wp_seq_k ?_; intro K23 hK23
              have hsx : (nx.set (j % l.length) (x + 1)).map natv = ((nx.set (j % l.length) x).map natv).set (j % l.length) (.int .i64 ((x + 1 : Nat) : Int)) := by
                rw [List.map_set, List.map_set, List.set_set]
                rfl
              have hcx : ((nx.set (j % l.length) x).map natv)[j % l.length]? = some (.int .i64 (x : Int)) := by
                rw [List.getElem?_map, List.getElem?_set_self (by omega)]
                rfl
              have hxs : x * s ≤ 2048 * 2048 := Nat.mul_le_mul (by omega) (by omega)
              have hat : atN f s n x < n := atN_lt (by omega)
              have hct : (tt.map i64v)[atN f s n x]? = some (.int .i64 (tt.getD (atN f s n x) 0)) := getm (by omega)
              refine rg_startk 0 hS mixed_ ?_
              clear hS; intro w hS
              refine rg_take 0 rfl rfl (by kernel_rfl) (by kernel_rfl) (by kernel_rfl) (want_0) (fun w hok => x_fa 0 Try.underlying27 rfl rfl ts_23 (tmP rfl rfl)) ?_
              first
               | refine rg_take 1 rfl rfl (by kernel_rfl) (by kernel_rfl) (by kernel_rfl) (want_0) (fun w hok => x_load Try.underlying23 rfl (tmP rfl rfl) (cellB hok 3 rfl rfl)) ?_
               | refine rg_take 1 rfl rfl (by kernel_rfl) (by kernel_rfl) (by kernel_rfl) (want_0) (fun w hok => x_load Try.underlying23 rfl (tmP rfl rfl) (cellB hok 3 rfl (getm (by omega)))) ?_
              refine rg_take 2 rfl rfl (by kernel_rfl) (by kernel_rfl) (by kernel_rfl) (want_0) (fun w hok => x_loadA (cs := [_, _]) Try.underlying45 rfl ts_45 (tmP rfl rfl) (rangeB hok 2 rfl rfl)) ?_
              refine rg_take 3 rfl rfl (by kernel_rfl) (by kernel_rfl) (by kernel_rfl) (want_0) (fun w hok => x_move (tmS rfl rfl)) ?_
              refine rg_take 4 rfl rfl (by kernel_rfl) (by kernel_rfl) (by kernel_rfl) (want_0) (fun w hok => x_move (tmI rfl rfl)) ?_
              refine rg_take 5 rfl rfl (by kernel_rfl) (by kernel_rfl) (by kernel_rfl) (want_0) (fun w hok => x_ixs1 Try.underlying23 ts_3 (tmS rfl rfl) (tmI rfl rfl) (by omega)) ?_
              refine rg_take 6 rfl rfl (by kernel_rfl) (by kernel_rfl) (by kernel_rfl) (want_0) (fun w hok => x_load (v := .int .i64 (x : Int)) Try.underlying3 rfl (tmP rfl rfl) (cellR hok 0 rfl hcx)) ?_
              refine rg_take 7 rfl rfl (by kernel_rfl) (by kernel_rfl) (by kernel_rfl) (want_0) (fun w hok => x_move (tmI rfl rfl)) ?_
              refine rg_step 8 rfl (by kernel_rfl) (want_0) (oks_drop hS 0 rfl) ?_; intro K hK
              refine ow_call Try.func17 rfl rfl (evs_cons (tmA rfl rfl) <| evs_cons (tmI rfl rfl) <| evs_cons (tmI rfl rfl) <| evs_nil) (mat_c f s n x _ (by omega) (by omega) (by omega) (by omega) (by omega) (by omega)) ?_
              rintro e w ⟨rfl, hk⟩
              refine ⟨_, rfl, ?_⟩
              replace hS := hS.kept hk
              clear hk
              refine hK _ _ ?_; clear hK K
              refine rg_take 9 rfl rfl (by kernel_rfl) (by kernel_rfl) (by kernel_rfl) (want_0) (fun w hok => x_ixs1 Try.underlying23 ts_3 (tmS rfl rfl) (tmI rfl rfl) (by omega)) ?_
              refine rg_take 10 rfl rfl (by kernel_rfl) (by kernel_rfl) (by kernel_rfl) (want_0) (fun w hok => x_load (v := .int .i64 (tt.getD (atN f s n x) 0)) Try.underlying3 rfl (tmP rfl rfl) (cellR hok 1 rfl hct)) ?_
              refine rg_take 11 rfl rfl (by kernel_rfl) (by kernel_rfl) (by kernel_rfl) (want_0) (fun w hok => x_neq (tmI rfl rfl) (ev_cN 0)) ?_
              refine rg_done (oks_drop hS 0 rfl) (by kernel_rfl) ?_
              refine then_n (hK23 _ _ ?_); clear hK23 K23
              refine cnd (tm rfl) (fun hc2 => ?_) (fun hc2 => ?_)
              · try (exfalso; first | with_reducible exact absurd hc2 Bool.false_ne_true | with_reducible exact absurd hc2.symm Bool.false_ne_true | (simp only [nrm] at hc2; omega) | (simp at hc2; done))
                all_goals
                 try simp only [nrm] at hc2
                 have hx2 : x < xf := by
                   rcases Nat.lt_or_ge x xf with h | h
                   · exact h
                   · obtain rfl : x = xf := by omega
                     exact absurd hfree (by simpa using hc2)
                 refine wp_skip ?_
                 refine then_n (hK22 _ _ ?_); clear hK22 K22
                 refine wp_block ?_
                 refine wlit ?_
                 refine wl_v (x_move (tmS rfl rfl)) ?_
                 refine wl_v (x_move (tmI rfl rfl)) ?_
                 refine wl_v (x_ixs1 Try.underlying23 ts_3 (tmS rfl rfl) (tmI rfl rfl) (by omega)) ?_
                 refine wl_v (x_load (v := .int .i64 (x : Int)) Try.underlying3 rfl (tmP rfl rfl) (cellR hS.ok 0 rfl hcx)) ?_
                 first
                  | refine wl_v (x_addN (tmI rfl rfl) (ev_cN 1) (fit_i64 (by omega))) ?_
                  | refine wl_v (x_addI (tmI rfl rfl) (ev_cN 1) (IntWalk.i64_in _ (by omega))) ?_
                  | refine wl_v (x_add (tmI rfl rfl) (ev_cN 1)) ?_
                 refine wl_v (x_ixs1 Try.underlying23 ts_3 (tmS rfl rfl) (tmI rfl rfl) (by omega)) ?_
                 refine wl_e rfl ?_; intro K hK
                 first
                  | refine ow_store hS 0 rfl ts_3 (tmP rfl rfl) (tmI rfl rfl) rfl rfl ?_
                  | refine ow_storeX hS 0 rfl ts_3 (tmP rfl rfl) (tmI rfl rfl) rfl (by simp; omega) ?_
                  | refine ow_storeRs hS 0 rfl ts_3 (tmP rfl rfl) (tmI rfl rfl) rfl (by first | omega | (simp; omega)) ?_
                  | refine ow_storeR hS 0 rfl ts_3 (tmP rfl rfl) (tmI rfl rfl) rfl (by first | omega | (simp; omega)) ?_
                  | refine ow_store hS 1 rfl ts_3 (tmP rfl rfl) (tmI rfl rfl) rfl rfl ?_
                  | refine ow_storeX hS 1 rfl ts_3 (tmP rfl rfl) (tmI rfl rfl) rfl (by simp; omega) ?_
                  | refine ow_storeRs hS 1 rfl ts_3 (tmP rfl rfl) (tmI rfl rfl) rfl (by first | omega | (simp; omega)) ?_
                  | refine ow_storeR hS 1 rfl ts_3 (tmP rfl rfl) (tmI rfl rfl) rfl (by first | omega | (simp; omega)) ?_
                  | refine ow_store hS 2 rfl ts_3 (tmP rfl rfl) (tmI rfl rfl) rfl rfl ?_
                  | refine ow_storeX hS 2 rfl ts_3 (tmP rfl rfl) (tmI rfl rfl) rfl (by simp; omega) ?_
                  | refine ow_storeRs hS 2 rfl ts_3 (tmP rfl rfl) (tmI rfl rfl) rfl (by first | omega | (simp; omega)) ?_
                  | refine ow_storeR hS 2 rfl ts_3 (tmP rfl rfl) (tmI rfl rfl) rfl (by first | omega | (simp; omega)) ?_
                  | refine ow_store hS 3 rfl ts_3 (tmP rfl rfl) (tmI rfl rfl) rfl rfl ?_
                  | refine ow_storeX hS 3 rfl ts_3 (tmP rfl rfl) (tmI rfl rfl) rfl (by simp; omega) ?_
                  | refine ow_storeRs hS 3 rfl ts_3 (tmP rfl rfl) (tmI rfl rfl) rfl (by first | omega | (simp; omega)) ?_
                  | refine ow_storeR hS 3 rfl ts_3 (tmP rfl rfl) (tmI rfl rfl) rfl (by first | omega | (simp; omega)) ?_
                  | refine ow_store hS 4 rfl ts_3 (tmP rfl rfl) (tmI rfl rfl) rfl rfl ?_
                  | refine ow_storeX hS 4 rfl ts_3 (tmP rfl rfl) (tmI rfl rfl) rfl (by simp; omega) ?_
                  | refine ow_storeRs hS 4 rfl ts_3 (tmP rfl rfl) (tmI rfl rfl) rfl (by first | omega | (simp; omega)) ?_
                  | refine ow_storeR hS 4 rfl ts_3 (tmP rfl rfl) (tmI rfl rfl) rfl (by first | omega | (simp; omega)) ?_
                  | refine ow_store hS 5 rfl ts_3 (tmP rfl rfl) (tmI rfl rfl) rfl rfl ?_
                  | refine ow_storeX hS 5 rfl ts_3 (tmP rfl rfl) (tmI rfl rfl) rfl (by simp; omega) ?_
                  | refine ow_storeRs hS 5 rfl ts_3 (tmP rfl rfl) (tmI rfl rfl) rfl (by first | omega | (simp; omega)) ?_
                  | refine ow_storeR hS 5 rfl ts_3 (tmP rfl rfl) (tmI rfl rfl) rfl (by first | omega | (simp; omega)) ?_
                  | refine ow_store hS 6 rfl ts_3 (tmP rfl rfl) (tmI rfl rfl) rfl rfl ?_
                  | refine ow_storeX hS 6 rfl ts_3 (tmP rfl rfl) (tmI rfl rfl) rfl (by simp; omega) ?_
                  | refine ow_storeRs hS 6 rfl ts_3 (tmP rfl rfl) (tmI rfl rfl) rfl (by first | omega | (simp; omega)) ?_
                  | refine ow_storeR hS 6 rfl ts_3 (tmP rfl rfl) (tmI rfl rfl) rfl (by first | omega | (simp; omega)) ?_
                 clear hS; intro w hS
                 refine hK _ _ ?_; clear hK K
                 refine wl_nil ?_
                 refine inb_n ?_
                 exact then_n ⟨_, _, rfl, (by show _ < _; omega), (by repeat (first | exact agree_self | exact agree_refl | refine agree_upd rfl ?_ | refine agree_mix rfl ?_)), x + 1, rfl, (by rw [hsx]; exact hS), (by omega)⟩
              try (exfalso; first | with_reducible exact absurd hc2 Bool.false_ne_true | with_reducible exact absurd hc2.symm Bool.false_ne_true | (simp only [nrm] at hc2; omega) | (simp at hc2; done))
              all_goals
               try simp only [nrm] at hc2
               obtain rfl : xf = x := by
                 rcases Nat.lt_or_ge x xf with h | h
                 · exact absurd (by simpa using hc2) (hbef x h)
                 · omega
               refine wp_exit ?_
               refine then_x ?_; clear hK22 K22
               refine then_x ?_
               refine inb_x ?_
               refine then_n (hK21 _ _ ?_); clear hK21 K21
               --ents rows,rown,g9_7,g3_3,g0_1,g0_0,vw
               replace hS := hS.pick [1, 0, 2, 3, 4, 5, 6] rfl rfl
               try replace hS := St.nm (M' := [.row _ _ _ _ _, .row _ _ _ _ _, .blk _ _ [_, _], .blk _ _ [_], .blk _ _ [_], .blk _ _ [_, _, _, _, _, _, _, _, _, _, _, _, _, _, _, _], .vw _ _]) hS rfl
               refine rg_startk 1 hS mixed_ ?_
               clear hS; intro w hS
               refine rg_take 0 rfl rfl (by kernel_rfl) (by kernel_rfl) (by kernel_rfl) (want_0) (fun w hok => x_fa 0 Try.underlying27 rfl rfl ts_23 (tmP rfl rfl)) ?_
               first
                | refine rg_take 1 rfl rfl (by kernel_rfl) (by kernel_rfl) (by kernel_rfl) (want_0) (fun w hok => x_load Try.underlying23 rfl (tmP rfl rfl) (cellB hok 2 rfl rfl)) ?_
                | refine rg_take 1 rfl rfl (by kernel_rfl) (by kernel_rfl) (by kernel_rfl) (want_0) (fun w hok => x_load Try.underlying23 rfl (tmP rfl rfl) (cellB hok 2 rfl (getm (by omega)))) ?_
               refine rg_take 2 rfl rfl (by kernel_rfl) (by kernel_rfl) (by kernel_rfl) (want_0) (fun w hok => x_loadA (cs := [_, _]) Try.underlying45 rfl ts_45 (tmP rfl rfl) (rangeB hok 1 rfl rfl)) ?_
               refine rg_take 3 rfl rfl (by kernel_rfl) (by kernel_rfl) (by kernel_rfl) (want_0) (fun w hok => x_move (tmS rfl rfl)) ?_
               refine rg_take 4 rfl rfl (by kernel_rfl) (by kernel_rfl) (by kernel_rfl) (want_0) (fun w hok => x_move (tmI rfl rfl)) ?_
               refine rg_take 5 rfl rfl (by kernel_rfl) (by kernel_rfl) (by kernel_rfl) (want_0) (fun w hok => x_ixs1 Try.underlying23 ts_3 (tmS rfl rfl) (tmI rfl rfl) (by omega)) ?_
               refine rg_take 6 rfl rfl (by kernel_rfl) (by kernel_rfl) (by kernel_rfl) (want_0) (fun w hok => x_load (v := .int .i64 (xf : Int)) Try.underlying3 rfl (tmP rfl rfl) (cellR hok 0 rfl hcx)) ?_
               refine rg_take 7 rfl rfl (by kernel_rfl) (by kernel_rfl) (by kernel_rfl) (want_0) (fun w hok => x_move (tmI rfl rfl)) ?_
               refine rg_take 9 rfl rfl (by kernel_rfl) (by kernel_rfl) (by kernel_rfl) (want_0) (fun w hok => x_move (tmS rfl rfl)) ?_
               refine rg_take 10 rfl rfl (by kernel_rfl) (by kernel_rfl) (by kernel_rfl) (want_0) (fun w hok => x_move (tmI rfl rfl)) ?_
               refine rg_take 11 rfl rfl (by kernel_rfl) (by kernel_rfl) (by kernel_rfl) (want_0) (fun w hok => x_ixs1 Try.underlying23 ts_3 (tmS rfl rfl) (tmI rfl rfl) (by omega)) ?_
               refine rg_take 12 rfl rfl (by kernel_rfl) (by kernel_rfl) (by kernel_rfl) (want_0) (fun w hok => x_load (v := .int .i64 (m : Int)) Try.underlying3 rfl (tmP rfl rfl) (cellV hok 5 rfl hgm)) ?_
               refine rg_step 8 rfl (by kernel_rfl) (want_0) (oks_drop hS 1 rfl) ?_; intro K hK
               refine ow_call Try.func17 rfl rfl (evs_cons (tmA rfl rfl) <| evs_cons (tmI rfl rfl) <| evs_cons (tmI rfl rfl) <| evs_nil) (mat_c f s n xf _ (by omega) (by omega) (by omega) (by omega) (by omega) (by omega)) ?_
               rintro e w ⟨rfl, hk⟩
               refine ⟨_, rfl, ?_⟩
               replace hS := hS.kept hk
               clear hk
               refine hK _ _ ?_; clear hK K
               refine rg_take 13 rfl rfl (by kernel_rfl) (by kernel_rfl) (by kernel_rfl) (want_0) (fun w hok => x_ixs1 Try.underlying23 ts_3 (tmS rfl rfl) (tmI rfl rfl) (by omega)) ?_
               refine rg_step 14 rfl (by kernel_rfl) (want_0) (oks_drop hS 1 rfl) ?_; intro K hK
               first
                | refine ow_store hS 0 rfl ts_3 (tmP rfl rfl) (tmI rfl rfl) rfl rfl ?_
                | refine ow_storeX hS 0 rfl ts_3 (tmP rfl rfl) (tmI rfl rfl) rfl (by simp; omega) ?_
                | refine ow_storeRs hS 0 rfl ts_3 (tmP rfl rfl) (tmI rfl rfl) rfl (by first | omega | (simp; omega)) ?_
                | refine ow_storeR hS 0 rfl ts_3 (tmP rfl rfl) (tmI rfl rfl) rfl (by first | omega | (simp; omega)) ?_
                | refine ow_store hS 1 rfl ts_3 (tmP rfl rfl) (tmI rfl rfl) rfl rfl ?_
                | refine ow_storeX hS 1 rfl ts_3 (tmP rfl rfl) (tmI rfl rfl) rfl (by simp; omega) ?_
                | refine ow_storeRs hS 1 rfl ts_3 (tmP rfl rfl) (tmI rfl rfl) rfl (by first | omega | (simp; omega)) ?_
                | refine ow_storeR hS 1 rfl ts_3 (tmP rfl rfl) (tmI rfl rfl) rfl (by first | omega | (simp; omega)) ?_
                | refine ow_store hS 2 rfl ts_3 (tmP rfl rfl) (tmI rfl rfl) rfl rfl ?_
                | refine ow_storeX hS 2 rfl ts_3 (tmP rfl rfl) (tmI rfl rfl) rfl (by simp; omega) ?_
                | refine ow_storeRs hS 2 rfl ts_3 (tmP rfl rfl) (tmI rfl rfl) rfl (by first | omega | (simp; omega)) ?_
                | refine ow_storeR hS 2 rfl ts_3 (tmP rfl rfl) (tmI rfl rfl) rfl (by first | omega | (simp; omega)) ?_
                | refine ow_store hS 3 rfl ts_3 (tmP rfl rfl) (tmI rfl rfl) rfl rfl ?_
                | refine ow_storeX hS 3 rfl ts_3 (tmP rfl rfl) (tmI rfl rfl) rfl (by simp; omega) ?_
                | refine ow_storeRs hS 3 rfl ts_3 (tmP rfl rfl) (tmI rfl rfl) rfl (by first | omega | (simp; omega)) ?_
                | refine ow_storeR hS 3 rfl ts_3 (tmP rfl rfl) (tmI rfl rfl) rfl (by first | omega | (simp; omega)) ?_
                | refine ow_store hS 4 rfl ts_3 (tmP rfl rfl) (tmI rfl rfl) rfl rfl ?_
                | refine ow_storeX hS 4 rfl ts_3 (tmP rfl rfl) (tmI rfl rfl) rfl (by simp; omega) ?_
                | refine ow_storeRs hS 4 rfl ts_3 (tmP rfl rfl) (tmI rfl rfl) rfl (by first | omega | (simp; omega)) ?_
                | refine ow_storeR hS 4 rfl ts_3 (tmP rfl rfl) (tmI rfl rfl) rfl (by first | omega | (simp; omega)) ?_
                | refine ow_store hS 5 rfl ts_3 (tmP rfl rfl) (tmI rfl rfl) rfl rfl ?_
                | refine ow_storeX hS 5 rfl ts_3 (tmP rfl rfl) (tmI rfl rfl) rfl (by simp; omega) ?_
                | refine ow_storeRs hS 5 rfl ts_3 (tmP rfl rfl) (tmI rfl rfl) rfl (by first | omega | (simp; omega)) ?_
                | refine ow_storeR hS 5 rfl ts_3 (tmP rfl rfl) (tmI rfl rfl) rfl (by first | omega | (simp; omega)) ?_
                | refine ow_store hS 6 rfl ts_3 (tmP rfl rfl) (tmI rfl rfl) rfl rfl ?_
                | refine ow_storeX hS 6 rfl ts_3 (tmP rfl rfl) (tmI rfl rfl) rfl (by simp; omega) ?_
                | refine ow_storeRs hS 6 rfl ts_3 (tmP rfl rfl) (tmI rfl rfl) rfl (by first | omega | (simp; omega)) ?_
                | refine ow_storeR hS 6 rfl ts_3 (tmP rfl rfl) (tmI rfl rfl) rfl (by first | omega | (simp; omega)) ?_
               clear hS; intro w hS
               refine hK _ _ ?_; clear hK K
               refine rg_done (oks_drop hS 1 rfl) (by kernel_rfl) ?_
               refine inb_n ?_
               refine then_n (hK14 _ _ ?_); clear hK14 K14
               refine wlit ?_
               first
                | refine wl_v (x_addN (tmI rfl rfl) (ev_cN 1) (fit_i64 (by omega))) ?_
                | refine wl_v (x_addI (tmI rfl rfl) (ev_cN 1) (IntWalk.i64_in _ (by omega))) ?_
                | refine wl_v (x_add (tmI rfl rfl) (ev_cN 1)) ?_
               refine wl_v (x_move (tmI rfl rfl)) ?_
               refine wl_nil ?_
               exact then_n ⟨_, _, rfl, (by show _ < _; omega), (by repeat (first | exact agree_self | exact agree_refl | refine agree_upd rfl ?_ | refine agree_mix rfl ?_)), j + 1, nx.set (j % l.length) xf, rfl, (by first | rfl | go_num | exact congrArg (Value.int _) (by first | omega | (simp; done) | (simp; omega))), (by rw [hstep, List.map_set (f := i64v)]; exact hS.pick [1, 0, 3, 4, 5, 6] rfl rfl), (by omega), (by first | exact List.length_replicate | (rw [List.length_set]; exact hnl)), (by first | exact hnxN | exact nexts_0 hn2)⟩
       try (exfalso; first | with_reducible exact absurd hc1 Bool.false_ne_true | with_reducible exact absurd hc1.symm Bool.false_ne_true | (simp only [nrm] at hc1; omega) | (simp at hc1; done))
       all_goals
        try simp only [nrm] at hc1
        refine wp_exit ?_
        refine then_x ?_; clear hK13 K13
        refine then_x ?_
        refine inb_x ?_
        refine then_n (hK10 _ _ ?_); clear hK10 K10
        refine wp_seq_k ?_; intro K24 hK24
        refine wlit ?_
        refine wl_v (x_loadA (cs := [_]) Try.underlying27 rfl ts_27 (tmP rfl rfl) (rangeB hS.ok 2 rfl rfl)) ?_
        refine wl_e rfl ?_; intro K hK
        refine ow_storeA hS 3 rfl ts_27 (tmP rfl rfl) (tmA rfl rfl) rfl rfl rfl ?_
        clear hS; intro w hS
        refine hK _ _ ?_; clear hK K
        refine wl_v (x_assign (ev_cN 0)) ?_
        refine wl_nil ?_
        refine then_n (hK24 _ _ ?_); clear hK24 K24
        refine wp_ret ?_
        refine ret2 rfl (.cell rfl rfl (load_rowB (cs := [_]) hS.ok 3 rfl Try.underlying27 rfl ts_27 rfl)) (.tmp rfl (show _ = Value.int _ _ from rfl)) ?_
        obtain rfl : j = n := by omega
        exact ⟨g3_1, rfl, hS.new 1 rfl rfl, hS.kp⟩
set_option maxRecDepth 100000 in
set_option maxHeartbeats 8000000 in
theorem mbuild_bad (k : Nat → Nat) (z : Int) (A : Option Addr) (q c : Nat) (l : List Int) (w0 : World) (hv : View w0 w0.heap.size A (l.map i64v)) (hl : l.length = q) (hq : q ≤ 70) (hz : -9223372036854775808 ≤ z ∧ z ≤ 9223372036854775807) (hbad : ¬ (z ≤ 2048 ∧ isP z.toNat ∧ okM l ∧ 1 ≤ q ∧ (q : Int) ≤ z)) :
    Calls Try.prog 6 #[.agg (kC k).toArray, .int .i64 z, .slice A q c] w0 fun e w' => e = .returned (.tuple #[.agg #[.slice none 0 0], .int .i64 1]) ∧ Kp [] w0 w' := by
  have hS := (St.sv w0).vcons rfl hv
  have hpc : ∀ w, z ≤ 2048 → Calls Try.prog 14 #[.int .i64 z] w fun e w' => ∃ b, e = .returned (.bool b) ∧ (b = true ↔ 2 ≤ z ∧ isP z.toNat) ∧ Kp [] w w' := fun w hw => by
    rcases (by omega : z < 2 ∨ 2 ≤ z) with h | h
    · exact Calls.mono (prime_low z w h hz.1) fun e w' ⟨h1, h2⟩ => ⟨false, h1, ⟨fun h3 => absurd h3 Bool.false_ne_true, fun h3 => by omega⟩, h2⟩
    · obtain ⟨n, rfl⟩ := Int.eq_ofNat_of_zero_le (a := z) (by omega)
      exact Calls.mono (prime_c n w (by omega) (by omega)) fun e w' ⟨b, h1, h2, h3⟩ => ⟨b, h1, by rw [h2, Int.toNat_natCast]; exact ⟨fun h4 => ⟨h, h4⟩, fun h4 => h4.2⟩, h3⟩
  refine ent (n := 82) Try.func6 rfl rfl ?_
  refine wp_seq_k ?_; intro K1 hK1
  refine wlit ?_
  refine wl_e rfl ?_; intro K hK
  refine ow_box hS (tmA rfl rfl) rfl ?_
  clear hS; intro g0_0 w hg0_0 hS
  refine hK _ _ ?_; clear hK K
  refine wl_e rfl ?_; intro K hK
  refine ow_alloc hS tz_27 rfl ?_
  clear hS; intro g0_1 w hg0_1 hS
  refine hK _ _ ?_; clear hK K
  refine wl_v (x_assign (ev_cN 0)) ?_
  refine wl_nil ?_
  refine then_n (hK1 _ _ ?_); clear hK1 K1
  refine wp_seq_k ?_; intro K2 hK2
  refine wp_seq_k ?_; intro K3 hK3
  refine wlit ?_
  refine wl_v (x_move (tmI rfl rfl)) ?_
  refine wl_v (x_gtr (tmI rfl rfl) (ev_cN 2048)) ?_
  refine wl_v (x_move (tmB rfl rfl)) ?_
  refine gs_wl (tm (t := 15) rfl) (fun hg1_2 => ?_) (fun hg1_2 => ?_)
  · have hg1_2' := hg1_2; (try simp only [nrm] at hg1_2'); try (exfalso; first | with_reducible exact absurd hg1_2 Bool.false_ne_true | with_reducible exact absurd hg1_2.symm Bool.false_ne_true | omega | (simp at hg1_2; done))
    all_goals
     refine wl_s rfl (want_n rfl rfl rfl rfl (by rw [hg1_2]; rfl)) ?_
     refine wl_s rfl (want_n rfl rfl rfl rfl (by rw [hg1_2]; rfl)) ?_
     refine wl_s rfl (want_n rfl rfl rfl rfl (by rw [hg1_2]; rfl)) ?_
     refine wl_v (x_pickT (tmB rfl rfl) hg1_2 ev_c) ?_
     refine wl_v (x_move (tmB rfl rfl)) ?_
     refine wl_s rfl (want_n rfl rfl rfl rfl rfl) ?_
     refine wl_s rfl (want_n rfl rfl rfl rfl rfl) ?_
     refine wl_s rfl (want_n rfl rfl rfl rfl rfl) ?_
     refine wl_s rfl (want_n rfl rfl rfl rfl rfl) ?_
     refine wl_v (x_pickT (tmB rfl rfl) rfl ev_c) ?_
     refine wl_nil ?_
     refine then_n (hK3 _ _ ?_); clear hK3 K3
     refine cnd_t (tmB rfl rfl) rfl ?_
     refine wp_seq_k ?_; intro K4 hK4
     refine wlit ?_
     refine wl_v (x_build (bc_skip (.slice none 0 0) <| bc_nil) (by kernel_rfl)) ?_
     refine wl_e rfl ?_; intro K hK
     refine ow_storeA hS 0 rfl ts_27 (tmP rfl rfl) (tmA rfl rfl) rfl rfl rfl ?_
     clear hS; intro w hS
     refine hK _ _ ?_; clear hK K
     refine wl_v (x_assign (ev_cN 1)) ?_
     refine wl_nil ?_
     refine then_n (hK4 _ _ ?_); clear hK4 K4
     refine wp_ret ?_
     refine then_r ?_
     refine ret2 rfl (.cell rfl rfl (load_rowB (cs := [_]) hS.ok 0 rfl Try.underlying27 rfl ts_27 rfl)) (.tmp rfl (show _ = Value.int _ _ from rfl)) ?_
     exact ⟨rfl, hS.kp⟩
  have hg1_2' := hg1_2; (try simp only [nrm] at hg1_2'); try (exfalso; first | with_reducible exact absurd hg1_2 Bool.false_ne_true | with_reducible exact absurd hg1_2.symm Bool.false_ne_true | omega | (simp at hg1_2; done))
  all_goals
   have hz48 : z ≤ 2048 := by omega
   refine wl_gv (want_y rfl rfl rfl rfl (by rw [hg1_2]; rfl)) (x_move (tmI rfl rfl)) ?_
   refine wl_g (want_y rfl rfl rfl rfl (by rw [hg1_2]; rfl)) ?_; intro K hK
   refine ow_call Try.func14 rfl rfl (evs_cons (tmI rfl rfl) <| evs_nil) (hpc _ hz48) ?_
   rintro e w ⟨bp, rfl, hbp, hk⟩
   refine ⟨_, rfl, ?_⟩
   replace hS := hS.kept hk
   clear hk
   refine hK _ _ ?_; clear hK K
   refine wl_gv (want_y rfl rfl rfl rfl (by rw [hg1_2]; rfl)) (x_not (tmB rfl rfl)) ?_
   refine wl_v (x_pickF (tmB rfl rfl) hg1_2 (tmB rfl rfl)) ?_
   refine wl_v (x_move (tmB rfl rfl)) ?_
   refine gs_wl (tm (t := 20) rfl) (fun hg1_7 => ?_) (fun hg1_7 => ?_)
   · have hg1_7' := hg1_7; (try simp only [nrm] at hg1_7'); try (exfalso; first | with_reducible exact absurd hg1_7 Bool.false_ne_true | with_reducible exact absurd hg1_7.symm Bool.false_ne_true | omega | (simp at hg1_7; done))
     all_goals
      refine wl_s rfl (want_n rfl rfl rfl rfl (by rw [hg1_7]; rfl)) ?_
      refine wl_s rfl (want_n rfl rfl rfl rfl (by rw [hg1_7]; rfl)) ?_
      refine wl_s rfl (want_n rfl rfl rfl rfl (by rw [hg1_7]; rfl)) ?_
      refine wl_s rfl (want_n rfl rfl rfl rfl (by rw [hg1_7]; rfl)) ?_
      refine wl_v (x_pickT (tmB rfl rfl) hg1_7 ev_c) ?_
      refine wl_nil ?_
      refine then_n (hK3 _ _ ?_); clear hK3 K3
      refine cnd_t (tmB rfl rfl) rfl ?_
      refine wp_seq_k ?_; intro K6 hK6
      refine wlit ?_
      refine wl_v (x_build (bc_skip (.slice none 0 0) <| bc_nil) (by kernel_rfl)) ?_
      refine wl_e rfl ?_; intro K hK
      refine ow_storeA hS 0 rfl ts_27 (tmP rfl rfl) (tmA rfl rfl) rfl rfl rfl ?_
      clear hS; intro w hS
      refine hK _ _ ?_; clear hK K
      refine wl_v (x_assign (ev_cN 1)) ?_
      refine wl_nil ?_
      refine then_n (hK6 _ _ ?_); clear hK6 K6
      refine wp_ret ?_
      refine then_r ?_
      refine ret2 rfl (.cell rfl rfl (load_rowB (cs := [_]) hS.ok 0 rfl Try.underlying27 rfl ts_27 rfl)) (.tmp rfl (show _ = Value.int _ _ from rfl)) ?_
      exact ⟨rfl, hS.kp⟩
   have hg1_7' := hg1_7; (try simp only [nrm] at hg1_7'); try (exfalso; first | with_reducible exact absurd hg1_7 Bool.false_ne_true | with_reducible exact absurd hg1_7.symm Bool.false_ne_true | omega | (simp at hg1_7; done))
   all_goals
    refine wl_gv (want_y rfl rfl rfl rfl (by rw [hg1_7]; rfl)) (x_move (tmS rfl rfl)) ?_
    refine wl_gv (want_y rfl rfl rfl rfl (by rw [hg1_7]; rfl)) (x_move (tmI rfl rfl)) ?_
    refine wl_g (want_y rfl rfl rfl rfl (by rw [hg1_7]; rfl)) ?_; intro K hK
    refine ow_call Try.func15 rfl rfl (evs_cons (tmS rfl rfl) <| evs_cons (tmI rfl rfl) <| evs_nil) (rightm_c _ q c l z _ (viewV hS.ok 2 rfl) hl hq) ?_
    rintro e w ⟨bm, rfl, hbm, hk⟩
    refine ⟨_, rfl, ?_⟩
    replace hS := hS.kept hk
    clear hk
    refine hK _ _ ?_; clear hK K
    refine wl_gv (want_y rfl rfl rfl rfl (by rw [hg1_7]; rfl)) (x_not (tmB rfl rfl)) ?_
    refine wl_v (x_pickF (tmB rfl rfl) hg1_7 (tmB rfl rfl)) ?_
    refine wl_nil ?_
    refine then_n (hK3 _ _ ?_); clear hK3 K3
    refine cnds (tm rfl) (fun hc0 => ?_) (fun hc0 => ?_)
    · exfalso
      have h1 : bm = true := by simpa using hc0
      have h2 : bp = true := by simp_all
      obtain ⟨h3, h4⟩ := hbp.1 h2
      obtain ⟨h5, h6, h7⟩ := hbm.1 h1
      exact hbad ⟨hz48, h4, h5, h6, h7⟩
    try (exfalso; first | with_reducible exact absurd hc0 Bool.false_ne_true | with_reducible exact absurd hc0.symm Bool.false_ne_true | (simp only [nrm] at hc0; omega) | (simp at hc0; done))
    all_goals
     try simp only [nrm] at hc0
     refine wp_seq_k ?_; intro K8 hK8
     refine wlit ?_
     refine wl_v (x_build (bc_skip (.slice none 0 0) <| bc_nil) (by kernel_rfl)) ?_
     refine wl_e rfl ?_; intro K hK
     refine ow_storeA hS 0 rfl ts_27 (tmP rfl rfl) (tmA rfl rfl) rfl rfl rfl ?_
     clear hS; intro w hS
     refine hK _ _ ?_; clear hK K
     refine wl_v (x_assign (ev_cN 1)) ?_
     refine wl_nil ?_
     refine then_n (hK8 _ _ ?_); clear hK8 K8
     refine wp_ret ?_
     refine then_r ?_
     refine ret2 rfl (.cell rfl rfl (load_rowB (cs := [_]) hS.ok 0 rfl Try.underlying27 rfl ts_27 rfl)) (.tmp rfl (show _ = Value.int _ _ from rfl)) ?_
     exact ⟨rfl, hS.kp⟩
set_option maxRecDepth 100000 in
set_option maxHeartbeats 8000000 in
theorem rmbuild_c (k : Nat → Nat) (n : Nat) (A : Option Addr) (c : Nat) (l : List Int) (w0 : World) (hkb : Bytes (kL k)) (hv : View w0 w0.heap.size A (l.map i64v)) (hq : l.length ≤ 70) (hP : isP n) (hn : n ≤ 2048) (hok : okM l) (hq1 : 1 ≤ l.length) (hqn : l.length ≤ n) :
    Calls Try.prog 11 #[.agg (kC k).toArray, .int .i64 (n : Int), .slice A l.length c] w0 fun e w' => ∃ g, e = .returned (.slice (some ⟨g, 0, none⟩) n n) ∧ New w0 w' (.row (.slice (some ⟨g, 0, none⟩) n n) 3 1 n ((tabN k l n n).map i64v)) ∧ Kp [] w0 w' := by
  have hS := (St.sv w0).vcons rfl hv
  have hn2 := hP.1
  obtain ⟨b0, o0, rfl⟩ := view_some hv (by rw [List.length_map]; omega)
  refine ent (n := 56) Try.func11 rfl rfl ?_
  refine wp_seq_k ?_; intro K1 hK1
  refine wlit ?_
  refine wl_e rfl ?_; intro K hK
  refine ow_box hS (tmA rfl rfl) rfl ?_
  clear hS; intro g0_0 w hg0_0 hS
  refine hK _ _ ?_; clear hK K
  refine wl_v (x_assign ev_c) ?_
  refine wl_nil ?_
  refine then_n (hK1 _ _ ?_); clear hK1 K1
  refine wp_seq_k ?_; intro K2 hK2
  refine wlit ?_
  refine wl_v (x_move (tmI rfl rfl)) ?_
  refine wl_e rfl ?_; intro K hK
  refine ow_make hS Try.underlying23 tz_3 rfl (tmI rfl rfl) (tmI rfl rfl) rfl (by omega) (by simp only [maxLen]; omega) ?_
  clear hS; intro g1_1 w hg1_1 hS
  refine hK _ _ ?_; clear hK K
  refine wl_v (x_assign (tmS rfl rfl)) ?_
  refine wl_nil ?_
  refine then_n (hK2 _ _ ?_); clear hK2 K2
  refine wp_seq_k ?_; intro K3 hK3
  refine wp_seq_k ?_; intro K4 hK4
  refine wlit ?_
  refine wl_v (x_assign (ev_cN 0)) ?_
  refine wl_nil ?_
  refine then_n (hK4 _ _ ?_); clear hK4 K4
  refine wp_block ?_
  refine lp [8, 9, 10, 11, 12, 15, 16, 17, 18, 19, 20, 21, 22, 23, 24, 25, 26, 27, 28, 29, 30, 31, 32, 33, 34, 35, 36, 37, 38, 39, 40, 41, 42, 43, 44, 45, 46, 47, 48, 49, 50, 51, 52, 53, 54] (fun mz g w => ∃ (j : Nat), mz = n - j ∧ g 8 = .int .i64 (j : Int) ∧ St [] w0 [.row (.slice (some ⟨g1_1, 0, none⟩) n n) 3 1 n ((tabN k l n j).map i64v), .blk g0_0 22 (kC k), .vw (some ⟨b0, o0, none⟩) (l.map i64v)] w ∧ (j ≤ n)) ?_ ?_
  · exact ⟨_, 0, rfl, (by first | rfl | go_num | exact congrArg (Value.int _) (by first | omega | (simp; done) | (simp; omega))), (by simp only [List.map_replicate, tabN]; exact hS), (by omega)⟩
  · clear hS; intro mz g w hI
    obtain ⟨j, rfl, hs8, hS, hj⟩ := hI
    refine fr_know (d := 8) hs8 ?_; clear hs8
    refine wp_seq_k ?_; intro K5 hK5
    refine wp_seq_k ?_; intro K6 hK6
    refine wlit ?_
    refine wl_v (x_move (tmI rfl rfl)) ?_
    refine wl_v (x_move (tmI rfl rfl)) ?_
    refine wl_v (x_lss (tmI rfl rfl) (tmI rfl rfl)) ?_
    refine wl_nil ?_
    refine then_n (hK6 _ _ ?_); clear hK6 K6
    refine cnd (tm rfl) (fun hc0 => ?_) (fun hc0 => ?_)
    · try (exfalso; first | with_reducible exact absurd hc0 Bool.false_ne_true | with_reducible exact absurd hc0.symm Bool.false_ne_true | (simp only [nrm] at hc0; omega) | (simp at hc0; done))
      all_goals
       try simp only [nrm] at hc0
       obtain ⟨xf, hxf⟩ := turned (k := k) hP hok hq1 (show j < n by omega)
       obtain ⟨hm, hm1, hm64⟩ := mem_ok hok hq1 j
       have hmod := Nat.mod_lt j (show l.length > 0 by omega)
       obtain ⟨hlt, hfree, hbef, hstep⟩ := hxf
       have htl := tab_len k l n j
       have hfb := fst_bd (k := k) (m := memN l j) hn2
       have hsb := stp_bd (k := k) (m := memN l j) hn2
       obtain ⟨m, hmm⟩ : ∃ m, memN l j = m := ⟨_, rfl⟩
       rw [hmm] at hfree hbef hstep hfb hsb hm hm1 hm64
       obtain ⟨f, hf⟩ : ∃ f, fstN k m n = f := ⟨_, rfl⟩
       obtain ⟨s, hs⟩ : ∃ s, stpN k m n = s := ⟨_, rfl⟩
       rw [hf, hs] at hfree hbef hstep
       rw [hf] at hfb
       rw [hs] at hsb
       obtain ⟨tt, htt⟩ : ∃ t, tabN k l n j = t := ⟨_, rfl⟩
       have hgm : (l.map i64v)[j % l.length]? = some (.int .i64 (m : Int)) := by
         rw [← hm]
         exact getm hmod
       rw [htt] at hfree hbef hstep htl hS
       have hat0 : atN f s n 0 = f := by unfold atN; rw [Nat.zero_mul, Nat.add_zero, Nat.mod_eq_of_lt hfb]
       refine wp_skip ?_
       refine then_n (hK5 _ _ ?_); clear hK5 K5
       refine wp_seq_k ?_; intro K7 hK7
       refine wp_block ?_
       refine wp_seq_k ?_; intro K8 hK8
       refine wlit ?_
       refine wl_v (x_move (tmS rfl rfl)) ?_
       refine wl_v (x_move (tmI rfl rfl)) ?_
       refine wl_v (x_move (tmS rfl rfl)) ?_
       refine wl_v (x_len Try.underlying23 (tmS rfl rfl)) ?_
       first
        | refine wl_v (x_remN (tmI rfl rfl) (tmI rfl rfl) (by omega)) ?_
        | refine wl_v (x_rem (tmI rfl rfl) (tmI rfl rfl) (by omega)) ?_
       refine wl_v (x_ixs1 Try.underlying23 ts_3 (tmS rfl rfl) (tmI rfl rfl) (by omega)) ?_
       refine wl_v (x_load (v := .int .i64 (m : Int)) Try.underlying3 rfl (tmP rfl rfl) (cellV hS.ok 2 rfl hgm)) ?_
       refine wl_v (x_assign (tmI rfl rfl)) ?_
       refine wl_nil ?_
       refine then_n (hK8 _ _ ?_); clear hK8 K8
       refine wp_seq_k ?_; intro K9 hK9
       refine wlit ?_
       refine wl_v (x_loadA (cs := [_, _, _, _, _, _, _, _, _, _, _, _, _, _, _, _]) Try.underlying22 rfl ts_22 (tmP rfl rfl) (rangeB hS.ok 1 rfl rfl)) ?_
       refine wl_v (x_move (tmI rfl rfl)) ?_
       refine wl_v (x_move (tmI rfl rfl)) ?_
       refine wl_e rfl ?_; intro K hK
       refine ow_call Try.func20 rfl rfl (evs_cons (tmA rfl rfl) <| evs_cons (tmI rfl rfl) <| evs_cons (tmI rfl rfl) <| evs_nil) (rmof_c k m n f s _ hkb hm64 hn2 (by omega) hf hs) ?_
       rintro e w ⟨rfl, hk⟩
       refine ⟨_, rfl, ?_⟩
       replace hS := hS.kept hk
       clear hk
       refine hK _ _ ?_; clear hK K
       refine wl_v (x_move (tmT rfl rfl)) ?_
       refine wl_v (x_ext (tmT rfl rfl) rfl) ?_
       refine wl_v (x_ext (tmT rfl rfl) rfl) ?_
       refine wl_v (x_assign (tmI rfl rfl)) ?_
       refine wl_v (x_assign (tmI rfl rfl)) ?_
       refine wl_nil ?_
       refine then_n (hK9 _ _ ?_); clear hK9 K9
       refine wp_seq_k ?_; intro K10 hK10
       refine wp_seq_k ?_; intro K11 hK11
       refine wlit ?_
       refine wl_v (x_assign (ev_cN 0)) ?_
       refine wl_nil ?_
       refine then_n (hK11 _ _ ?_); clear hK11 K11
       refine wp_block ?_
       refine lp [10, 12, 34, 35, 36, 37, 38, 39, 40, 41, 42, 43, 44, 45, 46, 47, 48, 49, 50] (fun mz g w => ∃ (x y : Nat), mz = xf + 1 - x ∧ g 12 = .int .i64 (x : Int) ∧ g 10 = .int .i64 (y : Int) ∧ St [] w0 [.row (.slice (some ⟨g1_1, 0, none⟩) n n) 3 1 n (tt.map i64v), .blk g0_0 22 (kC k), .vw (some ⟨b0, o0, none⟩) (l.map i64v)] w ∧ (x ≤ xf) ∧ (atN f s n x = y)) ?_ ?_
       · exact ⟨_, 0, f, rfl, (by first | rfl | go_num | exact congrArg (Value.int _) (by first | omega | (simp; done) | (simp; omega))), (by first | rfl | go_num | exact congrArg (Value.int _) (by first | omega | (simp; done) | (simp; omega))), hS, (by omega), (by first | exact hat0 | (rw [← atN_succ, hy]))⟩
       · clear hS; intro mz g w hI
         obtain ⟨x, y, rfl, hs12, hs10, hS, hx, hy⟩ := hI
         refine fr_know (d := 12) hs12 ?_; clear hs12
         refine fr_know (d := 10) hs10 ?_; clear hs10
         refine wp_seq_k ?_; intro K12 hK12
         refine wp_seq_k ?_; intro K13 hK13
         have hyn : y < n := by rw [← hy]; exact atN_lt (by omega)
         have hct : (tt.map i64v)[y]? = some (.int .i64 (tt.getD y 0)) := getm (by omega)
         refine wlit ?_
         refine wl_v (x_move (tmI rfl rfl)) ?_
         refine wl_v (x_move (tmI rfl rfl)) ?_
         refine wl_v (x_lss (tmI rfl rfl) (tmI rfl rfl)) ?_
         refine wl_v (x_move (tmB rfl rfl)) ?_
         refine gs_wl (tm (t := 37) rfl) (fun hg8_3 => ?_) (fun hg8_3 => ?_)
         · have hg8_3' := hg8_3; (try simp only [nrm] at hg8_3'); try (exfalso; first | with_reducible exact absurd hg8_3 Bool.false_ne_true | with_reducible exact absurd hg8_3.symm Bool.false_ne_true | omega | (simp at hg8_3; done))
           all_goals
            refine wl_gv (want_y rfl rfl rfl rfl (by rw [hg8_3]; rfl)) (x_move (tmS rfl rfl)) ?_
            refine wl_gv (want_y rfl rfl rfl rfl (by rw [hg8_3]; rfl)) (x_move (tmI rfl rfl)) ?_
            refine wl_gv (want_y rfl rfl rfl rfl (by rw [hg8_3]; rfl)) (x_ixs1 Try.underlying23 ts_3 (tmS rfl rfl) (tmI rfl rfl) (by omega)) ?_
            refine wl_gv (want_y rfl rfl rfl rfl (by rw [hg8_3]; rfl)) (x_load (v := .int .i64 (tt.getD y 0)) Try.underlying3 rfl (tmP rfl rfl) (cellR hS.ok 0 rfl hct)) ?_
            refine wl_gv (want_y rfl rfl rfl rfl (by rw [hg8_3]; rfl)) (x_neq (tmI rfl rfl) (ev_cN 0)) ?_
            refine wl_v (x_pickT (tmB rfl rfl) hg8_3 (tmB rfl rfl)) ?_
            refine wl_nil ?_
            refine then_n (hK13 _ _ ?_); clear hK13 K13
            refine cnd (tm rfl) (fun hc1 => ?_) (fun hc1 => ?_)
            · try (exfalso; first | with_reducible exact absurd hc1 Bool.false_ne_true | with_reducible exact absurd hc1.symm Bool.false_ne_true | (simp only [nrm] at hc1; omega) | (simp at hc1; done))
              all_goals
               try simp only [nrm] at hc1
               have hx2 : x < xf := by
                 rcases Nat.lt_or_ge x xf with h | h
                 · exact h
                 · obtain rfl : x = xf := by omega
                   rw [hy] at hfree
                   exact absurd hfree (by simpa using hc1)
               refine wp_skip ?_
               refine then_n (hK12 _ _ ?_); clear hK12 K12
               refine wp_seq_k ?_; intro K14 hK14
               refine wp_block ?_
               refine wlit ?_
               refine wl_v (x_move (tmI rfl rfl)) ?_
               refine wl_v (x_move (tmI rfl rfl)) ?_
               first
                | refine wl_v (x_addN (tmI rfl rfl) (tmI rfl rfl) (fit_i64 (by omega))) ?_
                | refine wl_v (x_addI (tmI rfl rfl) (tmI rfl rfl) (IntWalk.i64_in _ (by omega))) ?_
                | refine wl_v (x_add (tmI rfl rfl) (tmI rfl rfl)) ?_
               refine wl_v (x_move (tmI rfl rfl)) ?_
               first
                | refine wl_v (x_remN (tmI rfl rfl) (tmI rfl rfl) (by omega)) ?_
                | refine wl_v (x_rem (tmI rfl rfl) (tmI rfl rfl) (by omega)) ?_
               refine wl_v (x_assign (tmI rfl rfl)) ?_
               refine wl_nil ?_
               refine inb_n ?_
               refine then_n (hK14 _ _ ?_); clear hK14 K14
               refine wlit ?_
               refine wl_v (x_move (tmI rfl rfl)) ?_
               first
                | refine wl_v (x_addN (tmI rfl rfl) (ev_cN 1) (fit_i64 (by omega))) ?_
                | refine wl_v (x_addI (tmI rfl rfl) (ev_cN 1) (IntWalk.i64_in _ (by omega))) ?_
                | refine wl_v (x_add (tmI rfl rfl) (ev_cN 1)) ?_
               refine wl_v (x_assign (tmI rfl rfl)) ?_
               refine wl_nil ?_
               exact then_n ⟨_, _, rfl, (by show _ < _; omega), (by repeat (first | exact agree_self | exact agree_refl | refine agree_upd rfl ?_ | refine agree_mix rfl ?_)), x + 1, (y + s) % n, rfl, (by first | rfl | go_num | exact congrArg (Value.int _) (by first | omega | (simp; done) | (simp; omega))), (by first | rfl | go_num | exact congrArg (Value.int _) (by first | omega | (simp; done) | (simp; omega))), hS, (by omega), (by first | exact hat0 | (rw [← atN_succ, hy]))⟩
            try (exfalso; first | with_reducible exact absurd hc1 Bool.false_ne_true | with_reducible exact absurd hc1.symm Bool.false_ne_true | (simp only [nrm] at hc1; omega) | (simp at hc1; done))
            all_goals
             try simp only [nrm] at hc1
             refine wp_exit ?_
             refine then_x ?_; clear hK12 K12
             refine then_x ?_
             refine inb_x ?_
             refine then_n (hK10 _ _ ?_); clear hK10 K10
             obtain rfl : xf = x := by
               rcases Nat.lt_or_ge x xf with h | h
               · have h1 := hbef x h
                 rw [hy] at h1
                 first
                   | omega
                   | exact absurd (by simpa using hc1) h1
               · omega
             rw [hy] at hstep
             refine wlit ?_
             refine wl_v (x_move (tmS rfl rfl)) ?_
             refine wl_v (x_move (tmI rfl rfl)) ?_
             refine wl_v (x_move (tmI rfl rfl)) ?_
             refine wl_v (x_ixs1 Try.underlying23 ts_3 (tmS rfl rfl) (tmI rfl rfl) (by omega)) ?_
             refine wl_e rfl ?_; intro K hK
             first
              | refine ow_store hS 0 rfl ts_3 (tmP rfl rfl) (tmI rfl rfl) rfl rfl ?_
              | refine ow_storeX hS 0 rfl ts_3 (tmP rfl rfl) (tmI rfl rfl) rfl (by simp; omega) ?_
              | refine ow_storeRs hS 0 rfl ts_3 (tmP rfl rfl) (tmI rfl rfl) rfl (by first | omega | (simp; omega)) ?_
              | refine ow_storeR hS 0 rfl ts_3 (tmP rfl rfl) (tmI rfl rfl) rfl (by first | omega | (simp; omega)) ?_
              | refine ow_store hS 1 rfl ts_3 (tmP rfl rfl) (tmI rfl rfl) rfl rfl ?_
              | refine ow_storeX hS 1 rfl ts_3 (tmP rfl rfl) (tmI rfl rfl) rfl (by simp; omega) ?_
              | refine ow_storeRs hS 1 rfl ts_3 (tmP rfl rfl) (tmI rfl rfl) rfl (by first | omega | (simp; omega)) ?_
              | refine ow_storeR hS 1 rfl ts_3 (tmP rfl rfl) (tmI rfl rfl) rfl (by first | omega | (simp; omega)) ?_
              | refine ow_store hS 2 rfl ts_3 (tmP rfl rfl) (tmI rfl rfl) rfl rfl ?_
              | refine ow_storeX hS 2 rfl ts_3 (tmP rfl rfl) (tmI rfl rfl) rfl (by simp; omega) ?_
              | refine ow_storeRs hS 2 rfl ts_3 (tmP rfl rfl) (tmI rfl rfl) rfl (by first | omega | (simp; omega)) ?_
              | refine ow_storeR hS 2 rfl ts_3 (tmP rfl rfl) (tmI rfl rfl) rfl (by first | omega | (simp; omega)) ?_
             clear hS; intro w hS
             refine hK _ _ ?_; clear hK K
             refine wl_nil ?_
             refine inb_n ?_
             refine then_n (hK7 _ _ ?_); clear hK7 K7
             refine wlit ?_
             refine wl_v (x_move (tmI rfl rfl)) ?_
             first
              | refine wl_v (x_addN (tmI rfl rfl) (ev_cN 1) (fit_i64 (by omega))) ?_
              | refine wl_v (x_addI (tmI rfl rfl) (ev_cN 1) (IntWalk.i64_in _ (by omega))) ?_
              | refine wl_v (x_add (tmI rfl rfl) (ev_cN 1)) ?_
             refine wl_v (x_assign (tmI rfl rfl)) ?_
             refine wl_nil ?_
             exact then_n ⟨_, _, rfl, (by show _ < _; omega), (by repeat (first | exact agree_self | exact agree_refl | refine agree_upd rfl ?_ | refine agree_mix rfl ?_)), j + 1, rfl, (by first | rfl | go_num | exact congrArg (Value.int _) (by first | omega | (simp; done) | (simp; omega))), (by rw [hstep, List.map_set (f := i64v)]; exact hS.pick [0, 1, 2] rfl rfl), (by omega)⟩
         have hg8_3' := hg8_3; (try simp only [nrm] at hg8_3'); try (exfalso; first | with_reducible exact absurd hg8_3 Bool.false_ne_true | with_reducible exact absurd hg8_3.symm Bool.false_ne_true | omega | (simp at hg8_3; done))
         all_goals
          refine wl_s rfl (want_n rfl rfl rfl rfl (by rw [hg8_3]; rfl)) ?_
          refine wl_s rfl (want_n rfl rfl rfl rfl (by rw [hg8_3]; rfl)) ?_
          refine wl_s rfl (want_n rfl rfl rfl rfl (by rw [hg8_3]; rfl)) ?_
          refine wl_s rfl (want_n rfl rfl rfl rfl (by rw [hg8_3]; rfl)) ?_
          refine wl_s rfl (want_n rfl rfl rfl rfl (by rw [hg8_3]; rfl)) ?_
          refine wl_v (x_pickF (tmB rfl rfl) hg8_3 ev_c) ?_
          refine wl_nil ?_
          refine then_n (hK13 _ _ ?_); clear hK13 K13
          refine cnd_f (tmB rfl rfl) rfl ?_
          refine wp_exit ?_
          refine then_x ?_; clear hK12 K12
          refine then_x ?_
          refine inb_x ?_
          refine then_n (hK10 _ _ ?_); clear hK10 K10
          obtain rfl : xf = x := by
            rcases Nat.lt_or_ge x xf with h | h
            · have h1 := hbef x h
              rw [hy] at h1
              first
                | omega
                | exact absurd (by simpa using hc1) h1
            · omega
          rw [hy] at hstep
          refine wlit ?_
          refine wl_v (x_move (tmS rfl rfl)) ?_
          refine wl_v (x_move (tmI rfl rfl)) ?_
          refine wl_v (x_move (tmI rfl rfl)) ?_
          refine wl_v (x_ixs1 Try.underlying23 ts_3 (tmS rfl rfl) (tmI rfl rfl) (by omega)) ?_
          refine wl_e rfl ?_; intro K hK
          first
           | refine ow_store hS 0 rfl ts_3 (tmP rfl rfl) (tmI rfl rfl) rfl rfl ?_
           | refine ow_storeX hS 0 rfl ts_3 (tmP rfl rfl) (tmI rfl rfl) rfl (by simp; omega) ?_
           | refine ow_storeRs hS 0 rfl ts_3 (tmP rfl rfl) (tmI rfl rfl) rfl (by first | omega | (simp; omega)) ?_
           | refine ow_storeR hS 0 rfl ts_3 (tmP rfl rfl) (tmI rfl rfl) rfl (by first | omega | (simp; omega)) ?_
           | refine ow_store hS 1 rfl ts_3 (tmP rfl rfl) (tmI rfl rfl) rfl rfl ?_
           | refine ow_storeX hS 1 rfl ts_3 (tmP rfl rfl) (tmI rfl rfl) rfl (by simp; omega) ?_
           | refine ow_storeRs hS 1 rfl ts_3 (tmP rfl rfl) (tmI rfl rfl) rfl (by first | omega | (simp; omega)) ?_
           | refine ow_storeR hS 1 rfl ts_3 (tmP rfl rfl) (tmI rfl rfl) rfl (by first | omega | (simp; omega)) ?_
           | refine ow_store hS 2 rfl ts_3 (tmP rfl rfl) (tmI rfl rfl) rfl rfl ?_
           | refine ow_storeX hS 2 rfl ts_3 (tmP rfl rfl) (tmI rfl rfl) rfl (by simp; omega) ?_
           | refine ow_storeRs hS 2 rfl ts_3 (tmP rfl rfl) (tmI rfl rfl) rfl (by first | omega | (simp; omega)) ?_
           | refine ow_storeR hS 2 rfl ts_3 (tmP rfl rfl) (tmI rfl rfl) rfl (by first | omega | (simp; omega)) ?_
          clear hS; intro w hS
          refine hK _ _ ?_; clear hK K
          refine wl_nil ?_
          refine inb_n ?_
          refine then_n (hK7 _ _ ?_); clear hK7 K7
          refine wlit ?_
          refine wl_v (x_move (tmI rfl rfl)) ?_
          first
           | refine wl_v (x_addN (tmI rfl rfl) (ev_cN 1) (fit_i64 (by omega))) ?_
           | refine wl_v (x_addI (tmI rfl rfl) (ev_cN 1) (IntWalk.i64_in _ (by omega))) ?_
           | refine wl_v (x_add (tmI rfl rfl) (ev_cN 1)) ?_
          refine wl_v (x_assign (tmI rfl rfl)) ?_
          refine wl_nil ?_
          exact then_n ⟨_, _, rfl, (by show _ < _; omega), (by repeat (first | exact agree_self | exact agree_refl | refine agree_upd rfl ?_ | refine agree_mix rfl ?_)), j + 1, rfl, (by first | rfl | go_num | exact congrArg (Value.int _) (by first | omega | (simp; done) | (simp; omega))), (by rw [hstep, List.map_set (f := i64v)]; exact hS.pick [0, 1, 2] rfl rfl), (by omega)⟩
    try (exfalso; first | with_reducible exact absurd hc0 Bool.false_ne_true | with_reducible exact absurd hc0.symm Bool.false_ne_true | (simp only [nrm] at hc0; omega) | (simp at hc0; done))
    all_goals
     try simp only [nrm] at hc0
     refine wp_exit ?_
     refine then_x ?_; clear hK5 K5
     refine then_x ?_
     refine inb_x ?_
     refine then_n (hK3 _ _ ?_); clear hK3 K3
     refine wp_seq_k ?_; intro K15 hK15
     refine wlit ?_
     refine wl_v (x_move (tmS rfl rfl)) ?_
     refine wl_v (x_assign (tmS rfl rfl)) ?_
     refine wl_nil ?_
     refine then_n (hK15 _ _ ?_); clear hK15 K15
     refine wp_ret ?_
     refine ret1 rfl (.tmp rfl (show _ = Value.slice _ _ _ from rfl)) ?_
     obtain rfl : j = n := by omega
     exact ⟨g1_1, rfl, hS.new 0 rfl rfl, hS.kp⟩
end Go.Proofs.Ytofkhhklkcdggaa
