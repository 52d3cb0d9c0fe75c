
/- Proved: JournalScans returns true for every input, and changes no memory that was there. Conditions: none. -/
import Derived.Test.YtcimbinkjepkcaaJrF
import Derived.Test.YtcimbinkjepkcaaArgs
namespace Go.Proofs.Ytcimbinkjepkcaa
open Go.ChangeShapes Go.WideShapes Go.ChangeAt Go.RowKit
namespace JournalScans
set_option maxRecDepth 100000 in
set_option maxHeartbeats 4000000 in
theorem same_c (G1 : Option Addr) (n c1 : Nat) (r1 : List Row3) (G2 : Option Addr) (c2 : Nat) (r2 : List Row3) (w0 : World) (hg1 : View w0 w0.heap.size G1 (r1.map rowV)) (hg2 : View w0 w0.heap.size G2 (r2.map rowV)) (hn1 : r1.length = n) (hn2 : r2.length = n) (hrr : r1.map (·.2.1) = r2.map (·.2.1)) (hv1 : Vws w0 r1) (hv2 : Vws w0 r2) (hby1 : ∀ r ∈ r1, Bytes r.2.1) (hn4 : n ≤ 1000000) :
    Calls Try.prog 9 #[.slice G1 n c1, .slice G2 n c2] w0 fun e w' => e = .returned (.bool true) ∧ Kp [] w0 w' := by
  have hS := ((St.sv w0).vcons rfl hg2).vcons rfl hg1
  refine ent (n := 34) Try.func9 rfl rfl ?_
  refine wp_seq_k ?_; intro K1 hK1
  refine wlit ?_
  refine wl_v (x_assign ev_c) ?_
  refine wl_nil ?_
  refine then_n (hK1 _ _ ?_); clear hK1 K1
  refine wp_seq_k ?_; intro K2 hK2
  refine wp_seq_k ?_; intro K3 hK3
  refine wlit ?_
  refine wl_v (x_assign (ev_cN 0)) ?_
  refine wl_nil ?_
  refine then_n (hK3 _ _ ?_); clear hK3 K3
  refine wp_block ?_
  refine lp [4, 5, 6, 7, 8, 9, 10, 11, 12, 13, 14, 15, 16, 17, 18, 19, 20, 21, 22, 23, 24, 25, 26, 27, 28] (fun mz g w => ∃ (k : Nat), mz = n - k ∧ g 5 = .int .i64 (k : Int) ∧ St [] w0 [.vw G1 (r1.map rowV), .vw G2 (r2.map rowV)] w ∧ (k ≤ n) ∧ (Vws w r1) ∧ (Vws w r2)) ?_ ?_
  · exact ⟨_, 0, rfl, (by first | rfl | go_num | exact congrArg (Value.int _) (by first | omega | (simp; done) | (simp; omega))), hS, (by omega), (by first | exact hv1 | exact hv1.kept hS.kp), (by first | exact hv2 | exact hv2.kept hS.kp)⟩
  · clear hS; intro mz g w hI
    obtain ⟨k, rfl, hs5, hS, hk, hv1, hv2⟩ := hI
    refine fr_know (d := 5) hs5 ?_; clear hs5
    refine wp_seq_k ?_; intro K4 hK4
    refine wp_seq_k ?_; intro K5 hK5
    refine wlit ?_
    refine wl_v (x_move (tmI rfl rfl)) ?_
    refine wl_v (x_move (tmS rfl rfl)) ?_
    refine wl_v (x_len Try.underlying25 (tmS rfl rfl)) ?_
    refine wl_v (x_lss (tmI rfl rfl) (tmI rfl rfl)) ?_
    refine wl_v (x_move (tmB rfl rfl)) ?_
    refine gs_wl (tm (t := 10) rfl) (fun hg2_4 => ?_) (fun hg2_4 => ?_)
    · have hg2_4' := hg2_4; (try simp only [nrm] at hg2_4'); try (exfalso; first | with_reducible exact absurd hg2_4 Bool.false_ne_true | with_reducible exact absurd hg2_4.symm Bool.false_ne_true | omega | (simp at hg2_4; done))
      all_goals
       refine wl_gv (want_y rfl rfl rfl rfl (by rw [hg2_4]; rfl)) (x_move (tmI rfl rfl)) ?_
       refine wl_gv (want_y rfl rfl rfl rfl (by rw [hg2_4]; rfl)) (x_move (tmS rfl rfl)) ?_
       refine wl_gv (want_y rfl rfl rfl rfl (by rw [hg2_4]; rfl)) (x_len Try.underlying25 (tmS rfl rfl)) ?_
       refine wl_gv (want_y rfl rfl rfl rfl (by rw [hg2_4]; rfl)) (x_lss (tmI rfl rfl) (tmI rfl rfl)) ?_
       refine wl_v (x_pickT (tmB rfl rfl) hg2_4 (tmB rfl rfl)) ?_
       refine wl_nil ?_
       refine then_n (hK5 _ _ ?_); clear hK5 K5
       refine cnd (tm rfl) (fun hc0 => ?_) (fun hc0 => ?_)
       · try (exfalso; first | with_reducible exact absurd hc0 Bool.false_ne_true | with_reducible exact absurd hc0.symm Bool.false_ne_true | (simp only [nrm] at hc0; omega) | (simp at hc0; done))
         all_goals
          try simp only [nrm] at hc0
          have hk1 : k < r1.length := by omega
          have hk2 : k < r2.length := by omega
          obtain ⟨b1, o1, rfl⟩ := view_some (viewV hS.ok 0 rfl) (by rw [List.length_map]; omega)
          obtain ⟨b2, o2, rfl⟩ := view_some (viewV hS.ok 1 rfl) (by rw [List.length_map]; omega)
          have hm1 : r1.getD k default ∈ r1 := by
            rw [List.getD_eq_getElem?_getD, List.getElem?_eq_getElem hk1]
            exact List.getElem_mem _
          have hm2 : r2.getD k default ∈ r2 := by
            rw [List.getD_eq_getElem?_getD, List.getElem?_eq_getElem hk2]
            exact List.getElem_mem _
          have hg1 : (r1.map rowV)[k]? = some (.slice (r1.getD k default).1 (r1.getD k default).2.1.length (r1.getD k default).2.2) := by rw [List.getElem?_map, List.getElem?_eq_getElem hk1, List.getD_eq_getElem?_getD, List.getElem?_eq_getElem hk1]; rfl
          have hg2 : (r2.map rowV)[k]? = some (.slice (r2.getD k default).1 (r2.getD k default).2.1.length (r2.getD k default).2.2) := by rw [List.getElem?_map, List.getElem?_eq_getElem hk2, List.getD_eq_getElem?_getD, List.getElem?_eq_getElem hk2]; rfl
          have hsame := rows_get hrr hk1
          have hb1 := hby1 _ hm1
          have hw1 := hv1 _ hm1
          have hw2 := hv2 _ hm2
          generalize r1.getD k default = ra at *
          generalize r2.getD k default = rb at *
          obtain ⟨Aa, la, ca⟩ := ra
          obtain ⟨Ab, lb, cb⟩ := rb
          obtain rfl : la = lb := hsame
          replace hw1 : View w w.heap.size Aa (la.map u8v) := hw1
          replace hw2 : View w w.heap.size Ab (la.map u8v) := hw2
          replace hb1 : Bytes la := hb1
          replace hg1 : (r1.map rowV)[k]? = some (.slice Aa la.length ca) := hg1
          replace hg2 : (r2.map rowV)[k]? = some (.slice Ab la.length cb) := hg2
          have hS0 := (hS.addv hw1 (fun e he => .inl (by rcases List.mem_cons.1 he with rfl | he; rfl; rcases List.mem_cons.1 he with rfl | he; rfl; cases he))).addv hw2 (fun e he => .inl (by rcases List.mem_cons.1 he with rfl | he; rfl; rcases List.mem_cons.1 he with rfl | he; rfl; rcases List.mem_cons.1 he with rfl | he; rfl; cases he))
          replace hS := hS0.enter [] [0, 1, 2, 3] rfl rfl
          try replace hS := St.nm (M' := [.vw _ _, .vw _ _, .vw _ _, .vw _ _]) hS rfl
          refine wp_skip ?_
          refine then_n (hK4 _ _ ?_); clear hK4 K4
          refine wp_seq_k ?_; intro K6 hK6
          refine wp_block ?_
          refine wp_seq_k ?_; intro K7 hK7
          refine rg_startk 0 hS mixed_ ?_
          clear hS; intro w hS
          refine rg_take 0 rfl rfl (by kernel_rfl) (by kernel_rfl) (by kernel_rfl) (want_0) (fun w hok => x_move (tmS rfl rfl)) ?_
          refine rg_take 1 rfl rfl (by kernel_rfl) (by kernel_rfl) (by kernel_rfl) (want_0) (fun w hok => x_move (tmI rfl rfl)) ?_
          refine rg_take 2 rfl rfl (by kernel_rfl) (by kernel_rfl) (by kernel_rfl) (want_0) (fun w hok => x_ixs1 Try.underlying25 ts_22 (tmS rfl rfl) (tmI rfl rfl) (by omega)) ?_
          refine rg_take 3 rfl rfl (by kernel_rfl) (by kernel_rfl) (by kernel_rfl) (want_0) (fun w hok => x_load (v := .slice Aa la.length ca) Try.underlying22 rfl (tmP rfl rfl) (cellV hok 2 rfl hg1)) ?_
          refine rg_take 4 rfl rfl (by kernel_rfl) (by kernel_rfl) (by kernel_rfl) (want_0) (fun w hok => x_bstr Try.underlying22 Try.underlying5 Try.underlying9 (tmS rfl rfl) (viewV hok 1 rfl) hb1 rfl) ?_
          refine rg_take 5 rfl rfl (by kernel_rfl) (by kernel_rfl) (by kernel_rfl) (want_0) (fun w hok => x_move (tmS rfl rfl)) ?_
          refine rg_take 6 rfl rfl (by kernel_rfl) (by kernel_rfl) (by kernel_rfl) (want_0) (fun w hok => x_move (tmI rfl rfl)) ?_
          refine rg_take 7 rfl rfl (by kernel_rfl) (by kernel_rfl) (by kernel_rfl) (want_0) (fun w hok => x_ixs1 Try.underlying25 ts_22 (tmS rfl rfl) (tmI rfl rfl) (by omega)) ?_
          refine rg_take 8 rfl rfl (by kernel_rfl) (by kernel_rfl) (by kernel_rfl) (want_0) (fun w hok => x_load (v := .slice Ab la.length cb) Try.underlying22 rfl (tmP rfl rfl) (cellV hok 3 rfl hg2)) ?_
          refine rg_take 9 rfl rfl (by kernel_rfl) (by kernel_rfl) (by kernel_rfl) (want_0) (fun w hok => x_bstr Try.underlying22 Try.underlying5 Try.underlying9 (tmS rfl rfl) (viewV hok 0 rfl) hb1 rfl) ?_
          refine rg_take 10 rfl rfl (by kernel_rfl) (by kernel_rfl) (by kernel_rfl) (want_0) (fun w hok => x_Gneq (tmG rfl rfl) (tmG rfl rfl) hb1 hb1) ?_
          refine rg_done (oks_drop hS 0 rfl) (by kernel_rfl) ?_
          refine then_n (hK7 _ _ ?_); clear hK7 K7
          refine cnd (tm rfl) (fun hc1 => ?_) (fun hc1 => ?_)
          · exfalso
            simp at hc1
          try (exfalso; first | with_reducible exact absurd hc1 Bool.false_ne_true | with_reducible exact absurd hc1.symm Bool.false_ne_true | (simp only [nrm] at hc1; omega) | (simp at hc1; done))
          all_goals
           try simp only [nrm] at hc1
           refine wp_skip ?_
           refine inb_n ?_
           refine then_n (hK6 _ _ ?_); clear hK6 K6
           refine wlit ?_
           refine wl_v (x_move (tmI rfl rfl)) ?_
           first
            | refine wl_v (x_addN (tmI rfl rfl) (ev_cN 1) (fit_i64 (by omega))) ?_
            | refine wl_v (x_addI (tmI rfl rfl) (ev_cN 1) (IntWalk.i64_in _ (by omega))) ?_
            | refine wl_v (x_add (tmI rfl rfl) (ev_cN 1)) ?_
           refine wl_v (x_assign (tmI rfl rfl)) ?_
           refine wl_nil ?_
           exact then_n ⟨_, _, rfl, (by show _ < _; omega), (by repeat (first | exact agree_self | exact agree_refl | refine agree_upd rfl ?_ | refine agree_mix rfl ?_)), k + 1, rfl, (by first | rfl | go_num | exact congrArg (Value.int _) (by first | omega | (simp; done) | (simp; omega))), (hS0.leave [] [2, 3] rfl rfl rfl (hS.pick [] rfl rfl) rfl), (by omega), (by first | exact hv1 | exact hv1.kept hS.kp), (by first | exact hv2 | exact hv2.kept hS.kp)⟩
       try (exfalso; first | with_reducible exact absurd hc0 Bool.false_ne_true | with_reducible exact absurd hc0.symm Bool.false_ne_true | (simp only [nrm] at hc0; omega) | (simp at hc0; done))
       all_goals
        try simp only [nrm] at hc0
        refine wp_exit ?_
        refine then_x ?_; clear hK4 K4
        refine then_x ?_
        refine inb_x ?_
        refine then_n (hK2 _ _ ?_); clear hK2 K2
        refine wp_seq_k ?_; intro K8 hK8
        refine wlit ?_
        refine wl_v (x_move (tmS rfl rfl)) ?_
        refine wl_v (x_len Try.underlying25 (tmS rfl rfl)) ?_
        refine wl_v (x_move (tmS rfl rfl)) ?_
        refine wl_v (x_len Try.underlying25 (tmS rfl rfl)) ?_
        refine wl_v (x_eql (tmI rfl rfl) (tmI rfl rfl)) ?_
        refine wl_v (x_assign (tmB rfl rfl)) ?_
        refine wl_nil ?_
        refine then_n (hK8 _ _ ?_); clear hK8 K8
        refine wp_ret ?_
        refine ret1 rfl (.tmp rfl (show _ = Value.bool _ from rfl)) ?_
        exact ⟨by simp, hS.kp⟩
    have hg2_4' := hg2_4; (try simp only [nrm] at hg2_4'); try (exfalso; first | with_reducible exact absurd hg2_4 Bool.false_ne_true | with_reducible exact absurd hg2_4.symm Bool.false_ne_true | omega | (simp at hg2_4; done))
    all_goals
     refine wl_s rfl (want_n rfl rfl rfl rfl (by rw [hg2_4]; rfl)) ?_
     refine wl_s rfl (want_n rfl rfl rfl rfl (by rw [hg2_4]; rfl)) ?_
     refine wl_s rfl (want_n rfl rfl rfl rfl (by rw [hg2_4]; rfl)) ?_
     refine wl_s rfl (want_n rfl rfl rfl rfl (by rw [hg2_4]; rfl)) ?_
     refine wl_v (x_pickF (tmB rfl rfl) hg2_4 ev_c) ?_
     refine wl_nil ?_
     refine then_n (hK5 _ _ ?_); clear hK5 K5
     refine cnd_f (tmB rfl rfl) rfl ?_
     refine wp_exit ?_
     refine then_x ?_; clear hK4 K4
     refine then_x ?_
     refine inb_x ?_
     refine then_n (hK2 _ _ ?_); clear hK2 K2
     refine wp_seq_k ?_; intro K9 hK9
     refine wlit ?_
     refine wl_v (x_move (tmS rfl rfl)) ?_
     refine wl_v (x_len Try.underlying25 (tmS rfl rfl)) ?_
     refine wl_v (x_move (tmS rfl rfl)) ?_
     refine wl_v (x_len Try.underlying25 (tmS rfl rfl)) ?_
     refine wl_v (x_eql (tmI rfl rfl) (tmI rfl rfl)) ?_
     refine wl_v (x_assign (tmB rfl rfl)) ?_
     refine wl_nil ?_
     refine then_n (hK9 _ _ ?_); clear hK9 K9
     refine wp_ret ?_
     refine ret1 rfl (.tmp rfl (show _ = Value.bool _ from rfl)) ?_
     exact ⟨by simp, hS.kp⟩
set_option maxRecDepth 100000 in
set_option maxHeartbeats 4000000 in
theorem walk_all (A : Option Addr) (n c : Nat) (l : List Nat) (num : Nat) (B : Option Addr) (nb cb : Nat) (x : List Nat) (w0 : World) (hv : View w0 w0.heap.size A (l.map u8v)) (hc : n ≤ c) (hl : l.length = n) (hb : Bytes l) (hvx : View w0 w0.heap.size B (x.map u8v)) (hlx : x.length = nb) (hbx : Bytes x) (hN : num ≤ 18446744073709551615) :
    Calls Try.prog 3 #[.slice A n c, .int .u64 (num : Int), .slice B nb cb] w0 fun e w' => e = .returned (.bool true) ∧ Below w0.heap.size w0 w' := by
  have hS := ((St.sv w0).vcons rfl hvx).vcons rfl hv
  have hfc : ∀ w, View w w.heap.size B (x.map u8v) → Calls Try.prog 7 #[.int .u64 (num : Int), .slice B nb cb] w fun e w' => ∃ A' m c' fl, e = .returned (.slice A' m c') ∧ NewV w w' A' (fl.map u8v) ∧ fl.length = m ∧ Bytes fl ∧ (nb ≤ 4096 → fl = frm num x) ∧ (4096 < nb → m = 0) ∧ Kp [] w w' := fun w hw => by
    by_cases h : nb ≤ 4096
    · exact Calls.mono (frame_c num B nb cb x w hw hlx hN h hbx) fun e w' ⟨A', m, c', h1, h2, h3, h4⟩ => ⟨A', m, c', frm num x, h2, New.view h3, h1.symm, frm_bytes hbx, fun _ => rfl, fun h5 => absurd h5 (by omega), h4⟩
    · exact Calls.mono (frame_long_c num B nb cb w (by omega)) fun e w' ⟨h1, h2⟩ => ⟨none, 0, 0, [], h1, NewV.nil_ _ _ _, rfl, Bytes.nil, fun h5 => absurd h5 h, fun _ => rfl, h2⟩
  refine ent (n := 67) Try.func3 rfl rfl ?_
  refine wp_seq_k ?_; intro K1 hK1
  refine wlit ?_
  refine wl_v (x_assign ev_c) ?_
  refine wl_nil ?_
  refine then_n (hK1 _ _ ?_); clear hK1 K1
  refine wp_seq_k ?_; intro K2 hK2
  refine wp_seq_k ?_; intro K3 hK3
  refine wlit ?_
  refine wl_v (x_move (tmS rfl rfl)) ?_
  refine wl_v (x_len Try.underlying22 (tmS rfl rfl)) ?_
  refine wl_v (x_gtr (tmI rfl rfl) (ev_cN 2000)) ?_
  refine wl_v (x_move (tmB rfl rfl)) ?_
  refine gs_wl (tm (t := 15) rfl) (fun hg1_3 => ?_) (fun hg1_3 => ?_)
  · have hg1_3' := hg1_3; (try simp only [nrm] at hg1_3'); try (exfalso; first | with_reducible exact absurd hg1_3 Bool.false_ne_true | with_reducible exact absurd hg1_3.symm Bool.false_ne_true | omega | (simp at hg1_3; done))
    all_goals
     refine wl_s rfl (want_n rfl rfl rfl rfl (by rw [hg1_3]; rfl)) ?_
     refine wl_s rfl (want_n rfl rfl rfl rfl (by rw [hg1_3]; rfl)) ?_
     refine wl_s rfl (want_n rfl rfl rfl rfl (by rw [hg1_3]; rfl)) ?_
     refine wl_v (x_pickT (tmB rfl rfl) hg1_3 ev_c) ?_
     refine wl_nil ?_
     refine then_n (hK3 _ _ ?_); clear hK3 K3
     refine cnd_t (tmB rfl rfl) rfl ?_
     refine wp_seq_k ?_; intro K4 hK4
     refine wlit ?_
     refine wl_e rfl ?_; intro K hK
     refine ow_call Try.func4 rfl rfl (evs_nil) (law25_awake_c _) ?_
     rintro e w ⟨rfl, hk⟩
     refine ⟨_, rfl, ?_⟩
     replace hS := hS.kept hk
     clear hk
     refine hK _ _ ?_; clear hK K
     refine wl_v (x_assign (tmB rfl rfl)) ?_
     refine wl_nil ?_
     refine then_n (hK4 _ _ ?_); clear hK4 K4
     refine wp_ret ?_
     refine then_r ?_
     refine ret1 rfl (.tmp rfl (show _ = Value.bool _ from rfl)) ?_
     first
       | exact ⟨rfl, hS.kp.below⟩
       | exact ⟨by simp, hS.kp.below⟩
  have hg1_3' := hg1_3; (try simp only [nrm] at hg1_3'); try (exfalso; first | with_reducible exact absurd hg1_3 Bool.false_ne_true | with_reducible exact absurd hg1_3.symm Bool.false_ne_true | omega | (simp at hg1_3; done))
  all_goals
   refine wl_gv (want_y rfl rfl rfl rfl (by rw [hg1_3]; rfl)) (x_move (tmS rfl rfl)) ?_
   refine wl_gv (want_y rfl rfl rfl rfl (by rw [hg1_3]; rfl)) (x_len Try.underlying22 (tmS rfl rfl)) ?_
   refine wl_gv (want_y rfl rfl rfl rfl (by rw [hg1_3]; rfl)) (x_gtr (tmI rfl rfl) (ev_cN 4200)) ?_
   refine wl_v (x_pickF (tmB rfl rfl) hg1_3 (tmB rfl rfl)) ?_
   refine wl_nil ?_
   refine then_n (hK3 _ _ ?_); clear hK3 K3
   refine cnd (tm rfl) (fun hc0 => ?_) (fun hc0 => ?_)
   · try (exfalso; first | with_reducible exact absurd hc0 Bool.false_ne_true | with_reducible exact absurd hc0.symm Bool.false_ne_true | (simp only [nrm] at hc0; omega) | (simp at hc0; done))
     all_goals
      try simp only [nrm] at hc0
      refine wp_seq_k ?_; intro K5 hK5
      refine wlit ?_
      refine wl_e rfl ?_; intro K hK
      refine ow_call Try.func4 rfl rfl (evs_nil) (law25_awake_c _) ?_
      rintro e w ⟨rfl, hk⟩
      refine ⟨_, rfl, ?_⟩
      replace hS := hS.kept hk
      clear hk
      refine hK _ _ ?_; clear hK K
      refine wl_v (x_assign (tmB rfl rfl)) ?_
      refine wl_nil ?_
      refine then_n (hK5 _ _ ?_); clear hK5 K5
      refine wp_ret ?_
      refine then_r ?_
      refine ret1 rfl (.tmp rfl (show _ = Value.bool _ from rfl)) ?_
      first
        | exact ⟨rfl, hS.kp.below⟩
        | exact ⟨by simp, hS.kp.below⟩
   try (exfalso; first | with_reducible exact absurd hc0 Bool.false_ne_true | with_reducible exact absurd hc0.symm Bool.false_ne_true | (simp only [nrm] at hc0; omega) | (simp at hc0; done))
   all_goals
    try simp only [nrm] at hc0
    refine wp_skip ?_
    refine then_n (hK2 _ _ ?_); clear hK2 K2
    refine wp_seq_k ?_; intro K6 hK6
    refine wlit ?_
    refine wl_v (x_move (tmS rfl rfl)) ?_
    refine wl_e rfl ?_; intro K hK
    refine ow_call Try.func5 rfl rfl (evs_cons (tmS rfl rfl) <| evs_nil) (scan_c n A c l _ (viewV hS.ok 0 rfl) hl (by omega) hb) ?_
    rintro e w ⟨G1, n1, c1, r1, s1, hn1, rfl, hR1, hnv1, hv1, hk⟩
    refine ⟨_, rfl, ?_⟩
    replace hS := hS.addn hk (New.view hnv1) -- +vg
    clear hk hnv1
    refine hK _ _ ?_; clear hK K
    refine wl_v (x_move (tmT rfl rfl)) ?_
    refine wl_v (x_ext (tmT rfl rfl) rfl) ?_
    refine wl_v (x_ext (tmT rfl rfl) rfl) ?_
    refine wl_v (x_assign (tmS rfl rfl)) ?_
    refine wl_v (x_assign (tmI rfl rfl)) ?_
    refine wl_nil ?_
    refine then_n (hK6 _ _ ?_); clear hK6 K6
    refine wp_seq_k ?_; intro K7 hK7
    refine wlit ?_
    refine wl_v (x_move (tmS rfl rfl)) ?_
    refine wl_e rfl ?_; intro K hK
    refine ow_call Try.func6 rfl rfl (evs_cons (tmS rfl rfl) <| evs_nil) (rscan_c n A c l _ (viewV hS.ok 1 rfl) hl hc (by omega) hb) ?_
    rintro e w ⟨G2, n2, c2, r2, s2, hn2, rfl, hR2, hnv2, hv2, hk⟩
    refine ⟨_, rfl, ?_⟩
    replace hS := hS.addn hk (New.view hnv2) -- +vr
    replace hv1 := hv1.kept hk
    clear hk hnv2
    obtain ⟨rfl, hrr⟩ := hR1.same hR2
    have hbd := hR1.bounds
    have hby := hR1.bytes hb
    obtain rfl : n1 = n2 := by
      have := congrArg List.length hrr
      rw [List.length_map, List.length_map] at this
      omega
    clear hR1 hR2
    refine hK _ _ ?_; clear hK K
    refine wl_v (x_move (tmT rfl rfl)) ?_
    refine wl_v (x_ext (tmT rfl rfl) rfl) ?_
    refine wl_v (x_ext (tmT rfl rfl) rfl) ?_
    refine wl_v (x_assign (tmS rfl rfl)) ?_
    refine wl_v (x_assign (tmI rfl rfl)) ?_
    refine wl_nil ?_
    refine then_n (hK7 _ _ ?_); clear hK7 K7
    refine wp_seq_k ?_; intro K8 hK8
    refine wlit ?_
    refine wl_v (x_move (tmI rfl rfl)) ?_
    refine wl_v (x_move (tmS rfl rfl)) ?_
    refine wl_e rfl ?_; intro K hK
    refine ow_call Try.func7 rfl rfl (evs_cons (tmI rfl rfl) <| evs_cons (tmS rfl rfl) <| evs_nil) (hfc _ (viewV hS.ok 3 rfl)) ?_
    rintro e w ⟨Af, mf, cf, fl, rfl, hnf, hfl, hfb, hf1, hf2, hk⟩
    refine ⟨_, rfl, ?_⟩
    replace hS := hS.addn hk hnf -- +vf
    replace hv1 := hv1.kept hk
    replace hv2 := hv2.kept hk
    clear hk hnf
    refine hK _ _ ?_; clear hK K
    refine wl_v (x_assign (tmS rfl rfl)) ?_
    refine wl_nil ?_
    refine then_n (hK8 _ _ ?_); clear hK8 K8
    refine wp_seq_k ?_; intro K9 hK9
    refine wp_seq_k ?_; intro K10 hK10
    have hS0 := hS
    replace hS := hS0.enter [] [0, 1, 2, 3, 4] rfl rfl
    try replace hS := St.nm (M' := [.vw _ _, .vw _ _, .vw _ _, .vw _ _, .vw _ _]) hS rfl
    refine rg_startk 0 hS mixed_ ?_
    clear hS; intro w hS
    refine rg_take 0 rfl rfl (by kernel_rfl) (by kernel_rfl) (by kernel_rfl) (want_0) (fun w hok => x_move (tmS rfl rfl)) ?_
    refine rg_take 1 rfl rfl (by kernel_rfl) (by kernel_rfl) (by kernel_rfl) (want_0) (fun w hok => x_len Try.underlying22 (tmS rfl rfl)) ?_
    refine rg_take 2 rfl rfl (by kernel_rfl) (by kernel_rfl) (by kernel_rfl) (want_0) (fun w hok => x_gtr (tmI rfl rfl) (ev_cN 4096)) ?_
    refine rg_take 3 rfl rfl (by kernel_rfl) (by kernel_rfl) (by kernel_rfl) (want_0) (fun w hok => x_move (tmB rfl rfl)) ?_
    refine gs_rg (tm (t := 37) rfl) (fun hg6_3 => ?_) (fun hg6_3 => ?_)
    · have hg6_3' := hg6_3; (try simp only [nrm] at hg6_3'); try (exfalso; first | with_reducible exact absurd hg6_3 Bool.false_ne_true | with_reducible exact absurd hg6_3.symm Bool.false_ne_true | omega | (simp at hg6_3; done))
      all_goals
       have hm0 := hf2 (by first | omega | (simp at hg6_3; omega))
       refine rg_take 4 rfl rfl (by kernel_rfl) (by kernel_rfl) (by kernel_rfl) (want_y rfl rfl rfl rfl (by rw [hg6_3]; rfl)) (fun w hok => x_move (tmS rfl rfl)) ?_
       refine rg_take 5 rfl rfl (by kernel_rfl) (by kernel_rfl) (by kernel_rfl) (want_y rfl rfl rfl rfl (by rw [hg6_3]; rfl)) (fun w hok => x_len Try.underlying22 (tmS rfl rfl)) ?_
       refine rg_take 6 rfl rfl (by kernel_rfl) (by kernel_rfl) (by kernel_rfl) (want_y rfl rfl rfl rfl (by rw [hg6_3]; rfl)) (fun w hok => x_neq (tmI rfl rfl) (ev_cN 0)) ?_
       refine rg_take 7 rfl rfl (by kernel_rfl) (by kernel_rfl) (by kernel_rfl) (want_0) (fun w hok => x_pickT (tmB rfl rfl) hg6_3 (tmB rfl rfl)) ?_
       refine rg_take 8 rfl rfl (by kernel_rfl) (by kernel_rfl) (by kernel_rfl) (want_0) (fun w hok => x_move (tmB rfl rfl)) ?_
       refine gs_rg (tm (t := 42) rfl) (fun hg6_8 => ?_) (fun hg6_8 => ?_)
       · have hg6_8' := hg6_8; (try simp only [nrm] at hg6_8'); try (exfalso; first | with_reducible exact absurd hg6_8 Bool.false_ne_true | with_reducible exact absurd hg6_8.symm Bool.false_ne_true | omega | (simp at hg6_8; done))
         all_goals
          refine rg_skip 9 rfl rfl (by kernel_rfl) (by kernel_rfl) (by kernel_rfl) (want_n rfl rfl rfl rfl (by rw [hg6_8]; rfl)) ?_
          refine rg_skip 10 rfl rfl (by kernel_rfl) (by kernel_rfl) (by kernel_rfl) (want_n rfl rfl rfl rfl (by rw [hg6_8]; rfl)) ?_
          refine rg_skip 11 rfl rfl (by kernel_rfl) (by kernel_rfl) (by kernel_rfl) (want_n rfl rfl rfl rfl (by rw [hg6_8]; rfl)) ?_
          refine rg_skip 12 rfl rfl (by kernel_rfl) (by kernel_rfl) (by kernel_rfl) (want_n rfl rfl rfl rfl (by rw [hg6_8]; rfl)) ?_
          refine rg_skip 13 rfl rfl (by kernel_rfl) (by kernel_rfl) (by kernel_rfl) (want_u rfl rfl rfl rfl) ?_
          refine rg_skip 14 rfl rfl (by kernel_rfl) (by kernel_rfl) (by kernel_rfl) (want_u rfl rfl rfl rfl) ?_
          refine rg_skip 15 rfl rfl (by kernel_rfl) (by kernel_rfl) (by kernel_rfl) (want_u rfl rfl rfl rfl) ?_
          refine rg_skip 16 rfl rfl (by kernel_rfl) (by kernel_rfl) (by kernel_rfl) (want_u rfl rfl rfl rfl) ?_
          refine rg_skip 17 rfl rfl (by kernel_rfl) (by kernel_rfl) (by kernel_rfl) (want_u rfl rfl rfl rfl) ?_
          refine rg_skip 18 rfl rfl (by kernel_rfl) (by kernel_rfl) (by kernel_rfl) (want_u rfl rfl rfl rfl) ?_
          refine rg_skip 19 rfl rfl (by kernel_rfl) (by kernel_rfl) (by kernel_rfl) (want_u rfl rfl rfl rfl) ?_
          refine rg_skip 20 rfl rfl (by kernel_rfl) (by kernel_rfl) (by kernel_rfl) (want_n rfl rfl rfl rfl (by rw [hg6_8]; rfl)) ?_
          refine rg_take 21 rfl rfl (by kernel_rfl) (by kernel_rfl) (by kernel_rfl) (want_0) (fun w hok => x_pickT (tmB rfl rfl) hg6_8 ev_c) ?_
          refine rg_done (oks_drop hS 0 rfl) (by kernel_rfl) ?_
          refine then_n (hK10 _ _ ?_); clear hK10 K10
          refine cnd_t (tmB rfl rfl) rfl ?_
          refine wp_seq_k ?_; intro K11 hK11
          refine wlit ?_
          refine wl_v (x_assign ev_c) ?_
          refine wl_nil ?_
          refine then_n (hK11 _ _ ?_); clear hK11 K11
          refine wp_ret ?_
          refine then_r ?_
          refine ret1 rfl (.tmp rfl (show _ = Value.bool _ from rfl)) ?_
          first
            | exact ⟨rfl, hS.kp.below⟩
            | exact ⟨by simp, hS.kp.below⟩
       have hg6_8' := hg6_8; (try simp only [nrm] at hg6_8'); try (exfalso; first | with_reducible exact absurd hg6_8 Bool.false_ne_true | with_reducible exact absurd hg6_8.symm Bool.false_ne_true | omega | (simp at hg6_8; done))
       all_goals
        refine rg_take 9 rfl rfl (by kernel_rfl) (by kernel_rfl) (by kernel_rfl) (want_y rfl rfl rfl rfl (by rw [hg6_8]; rfl)) (fun w hok => x_move (tmS rfl rfl)) ?_
        refine rg_take 10 rfl rfl (by kernel_rfl) (by kernel_rfl) (by kernel_rfl) (want_y rfl rfl rfl rfl (by rw [hg6_8]; rfl)) (fun w hok => x_len Try.underlying22 (tmS rfl rfl)) ?_
        refine rg_take 11 rfl rfl (by kernel_rfl) (by kernel_rfl) (by kernel_rfl) (want_y rfl rfl rfl rfl (by rw [hg6_8]; rfl)) (fun w hok => x_leq (tmI rfl rfl) (ev_cN 4096)) ?_
        refine rg_take 12 rfl rfl (by kernel_rfl) (by kernel_rfl) (by kernel_rfl) (want_y rfl rfl rfl rfl (by rw [hg6_8]; rfl)) (fun w hok => x_move (tmB rfl rfl)) ?_
        refine gs_rg (tm (t := 46) rfl) (fun hg6_12 => ?_) (fun hg6_12 => ?_)
        · have hg6_12' := hg6_12; (try simp only [nrm] at hg6_12'); try (exfalso; first | with_reducible exact absurd hg6_12 Bool.false_ne_true | with_reducible exact absurd hg6_12.symm Bool.false_ne_true | omega | (simp at hg6_12; done))
          all_goals
           refine rg_take 13 rfl rfl (by kernel_rfl) (by kernel_rfl) (by kernel_rfl) (want_y rfl rfl rfl rfl (by rw [hg6_12]; rfl)) (fun w hok => x_move (tmS rfl rfl)) ?_
           refine rg_take 14 rfl rfl (by kernel_rfl) (by kernel_rfl) (by kernel_rfl) (want_y rfl rfl rfl rfl (by rw [hg6_12]; rfl)) (fun w hok => x_bstr Try.underlying22 Try.underlying5 Try.underlying9 (tmS rfl rfl) (viewV hok 0 rfl) hfb hfl) ?_
           refine rg_take 15 rfl rfl (by kernel_rfl) (by kernel_rfl) (by kernel_rfl) (want_y rfl rfl rfl rfl (by rw [hg6_12]; rfl)) (fun w hok => x_move (tmI rfl rfl)) ?_
           refine rg_take 16 rfl rfl (by kernel_rfl) (by kernel_rfl) (by kernel_rfl) (want_y rfl rfl rfl rfl (by rw [hg6_12]; rfl)) (fun w hok => x_move (tmS rfl rfl)) ?_
           refine rg_step 17 rfl (by kernel_rfl) (want_y rfl rfl rfl rfl (by rw [hg6_12]; rfl)) (oks_drop hS 0 rfl) ?_; intro K hK
           refine ow_call Try.func8 rfl rfl (evs_cons (tmI rfl rfl) <| evs_cons (tmS rfl rfl) <| evs_nil) (rframe_c num B nb cb x _ (viewV hS.ok 4 rfl) hlx hN (by omega) hbx) ?_
           rintro e w ⟨Ag, mg, cg, hmg, rfl, hn9, hk⟩
           refine ⟨_, rfl, ?_⟩
           rw [← hfe] at hmg hn9
           replace hS := hS.addn hk (New.view hn9) -- +vh
           clear hk hn9
           refine hK _ _ ?_; clear hK K
           refine rg_step 18 rfl (by kernel_rfl) (want_y rfl rfl rfl rfl (by rw [hg6_12]; rfl)) (oks_drop hS 1 rfl) ?_; intro K hK
           refine ow_v (x_bstr Try.underlying22 Try.underlying5 Try.underlying9 (tmS rfl rfl) (viewV hS.ok 0 rfl) hfb hmg.symm) ?_
           refine hK _ _ ?_; clear hK K
           refine rg_take 19 rfl rfl (by kernel_rfl) (by kernel_rfl) (by kernel_rfl) (want_y rfl rfl rfl rfl (by rw [hg6_12]; rfl)) (fun w hok => x_Gneq (tmG rfl rfl) (tmG rfl rfl) hfb hfb) ?_
           refine rg_take 20 rfl rfl (by kernel_rfl) (by kernel_rfl) (by kernel_rfl) (want_y rfl rfl rfl rfl (by rw [hg6_8]; rfl)) (fun w hok => x_pickT (tmB rfl rfl) hg6_12 (tmB rfl rfl)) ?_
           refine rg_take 21 rfl rfl (by kernel_rfl) (by kernel_rfl) (by kernel_rfl) (want_0) (fun w hok => x_pickF (tmB rfl rfl) hg6_8 (tmB rfl rfl)) ?_
           refine rg_done (oks_drop hS 1 rfl) (by kernel_rfl) ?_
           refine then_n (hK10 _ _ ?_); clear hK10 K10
           refine cnd (tm rfl) (fun hc1 => ?_) (fun hc1 => ?_)
           · exfalso
             first | (simp at hc1; done) | (simp at hc1; omega)
           try (exfalso; first | with_reducible exact absurd hc1 Bool.false_ne_true | with_reducible exact absurd hc1.symm Bool.false_ne_true | (simp only [nrm] at hc1; omega) | (simp at hc1; done))
           all_goals
            try simp only [nrm] at hc1
            refine wp_skip ?_
            refine then_n (hK9 _ _ ?_); clear hK9 K9
            refine wp_seq_k ?_; intro K12 hK12
            replace hv1 := hv1.kept hS.kp
            replace hv2 := hv2.kept hS.kp
            replace hS := hS0.leave [] [0, 1, 2, 3, 4] rfl rfl rfl (hS.pick [] rfl rfl) rfl
            try replace hS := St.nm (M' := [.vw _ _, .vw _ _, .vw _ _, .vw _ _, .vw _ _]) hS rfl
            refine wlit ?_
            refine wl_v (x_move (tmS rfl rfl)) ?_
            refine wl_v (x_move (tmS rfl rfl)) ?_
            refine wl_e rfl ?_; intro K hK
            refine ow_call Try.func9 rfl rfl (evs_cons (tmS rfl rfl) <| evs_cons (tmS rfl rfl) <| evs_nil) (same_c G1 n1 c1 r1 G2 c2 r2 _ (viewV hS.ok 2 rfl) (viewV hS.ok 1 rfl) hn1 hn2 hrr hv1 hv2 hby (by have := hbd.2.1; omega)) ?_
            rintro e w ⟨rfl, hk⟩
            refine ⟨_, rfl, ?_⟩
            replace hS := hS.kept hk
            clear hk
            refine hK _ _ ?_; clear hK K
            refine wl_v (x_move (tmB rfl rfl)) ?_
            refine gs_wl (tm (t := 59) rfl) (fun hg8_3 => ?_) (fun hg8_3 => ?_)
            · have hg8_3' := hg8_3; (try simp only [nrm] at hg8_3'); try (exfalso; first | with_reducible exact absurd hg8_3 Bool.false_ne_true | with_reducible exact absurd hg8_3.symm Bool.false_ne_true | omega | (simp at hg8_3; done))
              all_goals
               refine wl_gv (want_y rfl rfl rfl rfl (by rw [hg8_3]; rfl)) (x_move (tmI rfl rfl)) ?_
               refine wl_gv (want_y rfl rfl rfl rfl (by rw [hg8_3]; rfl)) (x_move (tmI rfl rfl)) ?_
               refine wl_gv (want_y rfl rfl rfl rfl (by rw [hg8_3]; rfl)) (x_eql (tmI rfl rfl) (tmI rfl rfl)) ?_
               refine wl_v (x_pickT (tmB rfl rfl) hg8_3 (tmB rfl rfl)) ?_
               refine wl_v (x_move (tmB rfl rfl)) ?_
               refine gs_wl (tm (t := 64) rfl) (fun hg8_8 => ?_) (fun hg8_8 => ?_)
               · have hg8_8' := hg8_8; (try simp only [nrm] at hg8_8'); try (exfalso; first | with_reducible exact absurd hg8_8 Bool.false_ne_true | with_reducible exact absurd hg8_8.symm Bool.false_ne_true | omega | (simp at hg8_8; done))
                 all_goals
                  refine wl_g (want_y rfl rfl rfl rfl (by rw [hg8_8]; rfl)) ?_; intro K hK
                  refine ow_call Try.func4 rfl rfl (evs_nil) (law25_awake_c _) ?_
                  rintro e w ⟨rfl, hk⟩
                  refine ⟨_, rfl, ?_⟩
                  replace hS := hS.kept hk
                  clear hk
                  refine hK _ _ ?_; clear hK K
                  refine wl_v (x_pickT (tmB rfl rfl) hg8_8 (tmB rfl rfl)) ?_
                  refine wl_v (x_assign (tmB rfl rfl)) ?_
                  refine wl_nil ?_
                  refine then_n (hK12 _ _ ?_); clear hK12 K12
                  refine wp_ret ?_
                  refine ret1 rfl (.tmp rfl (show _ = Value.bool _ from rfl)) ?_
                  first
                    | exact ⟨rfl, hS.kp.below⟩
                    | exact ⟨by simp, hS.kp.below⟩
               have hg8_8' := hg8_8; (try simp only [nrm] at hg8_8'); try (exfalso; first | with_reducible exact absurd hg8_8 Bool.false_ne_true | with_reducible exact absurd hg8_8.symm Bool.false_ne_true | omega | (simp at hg8_8; done))
               all_goals
                refine wl_s rfl (want_n rfl rfl rfl rfl (by rw [hg8_8]; rfl)) ?_
                refine wl_v (x_pickF (tmB rfl rfl) hg8_8 ev_c) ?_
                refine wl_v (x_assign (tmB rfl rfl)) ?_
                refine wl_nil ?_
                refine then_n (hK12 _ _ ?_); clear hK12 K12
                refine wp_ret ?_
                refine ret1 rfl (.tmp rfl (show _ = Value.bool _ from rfl)) ?_
                first
                  | exact ⟨rfl, hS.kp.below⟩
                  | exact ⟨by simp, hS.kp.below⟩
            have hg8_3' := hg8_3; (try simp only [nrm] at hg8_3'); try (exfalso; first | with_reducible exact absurd hg8_3 Bool.false_ne_true | with_reducible exact absurd hg8_3.symm Bool.false_ne_true | omega | (simp at hg8_3; done))
            all_goals
             refine wl_s rfl (want_n rfl rfl rfl rfl (by rw [hg8_3]; rfl)) ?_
             refine wl_s rfl (want_n rfl rfl rfl rfl (by rw [hg8_3]; rfl)) ?_
             refine wl_s rfl (want_n rfl rfl rfl rfl (by rw [hg8_3]; rfl)) ?_
             refine wl_v (x_pickF (tmB rfl rfl) hg8_3 ev_c) ?_
             refine wl_v (x_move (tmB rfl rfl)) ?_
             refine wl_s rfl (want_n rfl rfl rfl rfl rfl) ?_
             refine wl_v (x_pickF (tmB rfl rfl) rfl ev_c) ?_
             refine wl_v (x_assign (tmB rfl rfl)) ?_
             refine wl_nil ?_
             refine then_n (hK12 _ _ ?_); clear hK12 K12
             refine wp_ret ?_
             refine ret1 rfl (.tmp rfl (show _ = Value.bool _ from rfl)) ?_
             first
               | exact ⟨rfl, hS.kp.below⟩
               | exact ⟨by simp, hS.kp.below⟩
        have hg6_12' := hg6_12; (try simp only [nrm] at hg6_12'); try (exfalso; first | with_reducible exact absurd hg6_12 Bool.false_ne_true | with_reducible exact absurd hg6_12.symm Bool.false_ne_true | omega | (simp at hg6_12; done))
        all_goals
         refine rg_skip 13 rfl rfl (by kernel_rfl) (by kernel_rfl) (by kernel_rfl) (want_n rfl rfl rfl rfl (by rw [hg6_12]; rfl)) ?_
         refine rg_skip 14 rfl rfl (by kernel_rfl) (by kernel_rfl) (by kernel_rfl) (want_n rfl rfl rfl rfl (by rw [hg6_12]; rfl)) ?_
         refine rg_skip 15 rfl rfl (by kernel_rfl) (by kernel_rfl) (by kernel_rfl) (want_n rfl rfl rfl rfl (by rw [hg6_12]; rfl)) ?_
         refine rg_skip 16 rfl rfl (by kernel_rfl) (by kernel_rfl) (by kernel_rfl) (want_n rfl rfl rfl rfl (by rw [hg6_12]; rfl)) ?_
         refine rg_skip 17 rfl rfl (by kernel_rfl) (by kernel_rfl) (by kernel_rfl) (want_n rfl rfl rfl rfl (by rw [hg6_12]; rfl)) ?_
         refine rg_skip 18 rfl rfl (by kernel_rfl) (by kernel_rfl) (by kernel_rfl) (want_n rfl rfl rfl rfl (by rw [hg6_12]; rfl)) ?_
         refine rg_skip 19 rfl rfl (by kernel_rfl) (by kernel_rfl) (by kernel_rfl) (want_n rfl rfl rfl rfl (by rw [hg6_12]; rfl)) ?_
         refine rg_take 20 rfl rfl (by kernel_rfl) (by kernel_rfl) (by kernel_rfl) (want_y rfl rfl rfl rfl (by rw [hg6_8]; rfl)) (fun w hok => x_pickF (tmB rfl rfl) hg6_12 ev_c) ?_
         refine rg_take 21 rfl rfl (by kernel_rfl) (by kernel_rfl) (by kernel_rfl) (want_0) (fun w hok => x_pickF (tmB rfl rfl) hg6_8 (tmB rfl rfl)) ?_
         refine rg_done (oks_drop hS 0 rfl) (by kernel_rfl) ?_
         refine then_n (hK10 _ _ ?_); clear hK10 K10
         refine cnd_f (tmB rfl rfl) rfl ?_
         refine wp_skip ?_
         refine then_n (hK9 _ _ ?_); clear hK9 K9
         refine wp_seq_k ?_; intro K13 hK13
         replace hv1 := hv1.kept hS.kp
         replace hv2 := hv2.kept hS.kp
         replace hS := hS0.leave [] [0, 1, 2, 3, 4] rfl rfl rfl (hS.pick [] rfl rfl) rfl
         try replace hS := St.nm (M' := [.vw _ _, .vw _ _, .vw _ _, .vw _ _, .vw _ _]) hS rfl
         refine wlit ?_
         refine wl_v (x_move (tmS rfl rfl)) ?_
         refine wl_v (x_move (tmS rfl rfl)) ?_
         refine wl_e rfl ?_; intro K hK
         refine ow_call Try.func9 rfl rfl (evs_cons (tmS rfl rfl) <| evs_cons (tmS rfl rfl) <| evs_nil) (same_c G1 n1 c1 r1 G2 c2 r2 _ (viewV hS.ok 2 rfl) (viewV hS.ok 1 rfl) hn1 hn2 hrr hv1 hv2 hby (by have := hbd.2.1; omega)) ?_
         rintro e w ⟨rfl, hk⟩
         refine ⟨_, rfl, ?_⟩
         replace hS := hS.kept hk
         clear hk
         refine hK _ _ ?_; clear hK K
         refine wl_v (x_move (tmB rfl rfl)) ?_
         refine gs_wl (tm (t := 59) rfl) (fun hg8_3 => ?_) (fun hg8_3 => ?_)
         · have hg8_3' := hg8_3; (try simp only [nrm] at hg8_3'); try (exfalso; first | with_reducible exact absurd hg8_3 Bool.false_ne_true | with_reducible exact absurd hg8_3.symm Bool.false_ne_true | omega | (simp at hg8_3; done))
           all_goals
            refine wl_gv (want_y rfl rfl rfl rfl (by rw [hg8_3]; rfl)) (x_move (tmI rfl rfl)) ?_
            refine wl_gv (want_y rfl rfl rfl rfl (by rw [hg8_3]; rfl)) (x_move (tmI rfl rfl)) ?_
            refine wl_gv (want_y rfl rfl rfl rfl (by rw [hg8_3]; rfl)) (x_eql (tmI rfl rfl) (tmI rfl rfl)) ?_
            refine wl_v (x_pickT (tmB rfl rfl) hg8_3 (tmB rfl rfl)) ?_
            refine wl_v (x_move (tmB rfl rfl)) ?_
            refine gs_wl (tm (t := 64) rfl) (fun hg8_8 => ?_) (fun hg8_8 => ?_)
            · have hg8_8' := hg8_8; (try simp only [nrm] at hg8_8'); try (exfalso; first | with_reducible exact absurd hg8_8 Bool.false_ne_true | with_reducible exact absurd hg8_8.symm Bool.false_ne_true | omega | (simp at hg8_8; done))
              all_goals
               refine wl_g (want_y rfl rfl rfl rfl (by rw [hg8_8]; rfl)) ?_; intro K hK
               refine ow_call Try.func4 rfl rfl (evs_nil) (law25_awake_c _) ?_
               rintro e w ⟨rfl, hk⟩
               refine ⟨_, rfl, ?_⟩
               replace hS := hS.kept hk
               clear hk
               refine hK _ _ ?_; clear hK K
               refine wl_v (x_pickT (tmB rfl rfl) hg8_8 (tmB rfl rfl)) ?_
               refine wl_v (x_assign (tmB rfl rfl)) ?_
               refine wl_nil ?_
               refine then_n (hK13 _ _ ?_); clear hK13 K13
               refine wp_ret ?_
               refine ret1 rfl (.tmp rfl (show _ = Value.bool _ from rfl)) ?_
               first
                 | exact ⟨rfl, hS.kp.below⟩
                 | exact ⟨by simp, hS.kp.below⟩
            have hg8_8' := hg8_8; (try simp only [nrm] at hg8_8'); try (exfalso; first | with_reducible exact absurd hg8_8 Bool.false_ne_true | with_reducible exact absurd hg8_8.symm Bool.false_ne_true | omega | (simp at hg8_8; done))
            all_goals
             refine wl_s rfl (want_n rfl rfl rfl rfl (by rw [hg8_8]; rfl)) ?_
             refine wl_v (x_pickF (tmB rfl rfl) hg8_8 ev_c) ?_
             refine wl_v (x_assign (tmB rfl rfl)) ?_
             refine wl_nil ?_
             refine then_n (hK13 _ _ ?_); clear hK13 K13
             refine wp_ret ?_
             refine ret1 rfl (.tmp rfl (show _ = Value.bool _ from rfl)) ?_
             first
               | exact ⟨rfl, hS.kp.below⟩
               | exact ⟨by simp, hS.kp.below⟩
         have hg8_3' := hg8_3; (try simp only [nrm] at hg8_3'); try (exfalso; first | with_reducible exact absurd hg8_3 Bool.false_ne_true | with_reducible exact absurd hg8_3.symm Bool.false_ne_true | omega | (simp at hg8_3; done))
         all_goals
          refine wl_s rfl (want_n rfl rfl rfl rfl (by rw [hg8_3]; rfl)) ?_
          refine wl_s rfl (want_n rfl rfl rfl rfl (by rw [hg8_3]; rfl)) ?_
          refine wl_s rfl (want_n rfl rfl rfl rfl (by rw [hg8_3]; rfl)) ?_
          refine wl_v (x_pickF (tmB rfl rfl) hg8_3 ev_c) ?_
          refine wl_v (x_move (tmB rfl rfl)) ?_
          refine wl_s rfl (want_n rfl rfl rfl rfl rfl) ?_
          refine wl_v (x_pickF (tmB rfl rfl) rfl ev_c) ?_
          refine wl_v (x_assign (tmB rfl rfl)) ?_
          refine wl_nil ?_
          refine then_n (hK13 _ _ ?_); clear hK13 K13
          refine wp_ret ?_
          refine ret1 rfl (.tmp rfl (show _ = Value.bool _ from rfl)) ?_
          first
            | exact ⟨rfl, hS.kp.below⟩
            | exact ⟨by simp, hS.kp.below⟩
    have hg6_3' := hg6_3; (try simp only [nrm] at hg6_3'); try (exfalso; first | with_reducible exact absurd hg6_3 Bool.false_ne_true | with_reducible exact absurd hg6_3.symm Bool.false_ne_true | omega | (simp at hg6_3; done))
    all_goals
     have hfe := hf1 (by first | omega | (simp at hg6_3; omega))
     refine rg_skip 4 rfl rfl (by kernel_rfl) (by kernel_rfl) (by kernel_rfl) (want_n rfl rfl rfl rfl (by rw [hg6_3]; rfl)) ?_
     refine rg_skip 5 rfl rfl (by kernel_rfl) (by kernel_rfl) (by kernel_rfl) (want_n rfl rfl rfl rfl (by rw [hg6_3]; rfl)) ?_
     refine rg_skip 6 rfl rfl (by kernel_rfl) (by kernel_rfl) (by kernel_rfl) (want_n rfl rfl rfl rfl (by rw [hg6_3]; rfl)) ?_
     refine rg_take 7 rfl rfl (by kernel_rfl) (by kernel_rfl) (by kernel_rfl) (want_0) (fun w hok => x_pickF (tmB rfl rfl) hg6_3 ev_c) ?_
     refine rg_take 8 rfl rfl (by kernel_rfl) (by kernel_rfl) (by kernel_rfl) (want_0) (fun w hok => x_move (tmB rfl rfl)) ?_
     refine rg_take 9 rfl rfl (by kernel_rfl) (by kernel_rfl) (by kernel_rfl) (want_y rfl rfl rfl rfl rfl) (fun w hok => x_move (tmS rfl rfl)) ?_
     refine rg_take 10 rfl rfl (by kernel_rfl) (by kernel_rfl) (by kernel_rfl) (want_y rfl rfl rfl rfl rfl) (fun w hok => x_len Try.underlying22 (tmS rfl rfl)) ?_
     refine rg_take 11 rfl rfl (by kernel_rfl) (by kernel_rfl) (by kernel_rfl) (want_y rfl rfl rfl rfl rfl) (fun w hok => x_leq (tmI rfl rfl) (ev_cN 4096)) ?_
     refine rg_take 12 rfl rfl (by kernel_rfl) (by kernel_rfl) (by kernel_rfl) (want_y rfl rfl rfl rfl rfl) (fun w hok => x_move (tmB rfl rfl)) ?_
     refine gs_rg (tm (t := 46) rfl) (fun hg6_12 => ?_) (fun hg6_12 => ?_)
     · have hg6_12' := hg6_12; (try simp only [nrm] at hg6_12'); try (exfalso; first | with_reducible exact absurd hg6_12 Bool.false_ne_true | with_reducible exact absurd hg6_12.symm Bool.false_ne_true | omega | (simp at hg6_12; done))
       all_goals
        refine rg_take 13 rfl rfl (by kernel_rfl) (by kernel_rfl) (by kernel_rfl) (want_y rfl rfl rfl rfl (by rw [hg6_12]; rfl)) (fun w hok => x_move (tmS rfl rfl)) ?_
        refine rg_take 14 rfl rfl (by kernel_rfl) (by kernel_rfl) (by kernel_rfl) (want_y rfl rfl rfl rfl (by rw [hg6_12]; rfl)) (fun w hok => x_bstr Try.underlying22 Try.underlying5 Try.underlying9 (tmS rfl rfl) (viewV hok 0 rfl) hfb hfl) ?_
        refine rg_take 15 rfl rfl (by kernel_rfl) (by kernel_rfl) (by kernel_rfl) (want_y rfl rfl rfl rfl (by rw [hg6_12]; rfl)) (fun w hok => x_move (tmI rfl rfl)) ?_
        refine rg_take 16 rfl rfl (by kernel_rfl) (by kernel_rfl) (by kernel_rfl) (want_y rfl rfl rfl rfl (by rw [hg6_12]; rfl)) (fun w hok => x_move (tmS rfl rfl)) ?_
        refine rg_step 17 rfl (by kernel_rfl) (want_y rfl rfl rfl rfl (by rw [hg6_12]; rfl)) (oks_drop hS 0 rfl) ?_; intro K hK
        refine ow_call Try.func8 rfl rfl (evs_cons (tmI rfl rfl) <| evs_cons (tmS rfl rfl) <| evs_nil) (rframe_c num B nb cb x _ (viewV hS.ok 4 rfl) hlx hN (by omega) hbx) ?_
        rintro e w ⟨Ag, mg, cg, hmg, rfl, hn9, hk⟩
        refine ⟨_, rfl, ?_⟩
        rw [← hfe] at hmg hn9
        replace hS := hS.addn hk (New.view hn9) -- +vh
        clear hk hn9
        refine hK _ _ ?_; clear hK K
        refine rg_step 18 rfl (by kernel_rfl) (want_y rfl rfl rfl rfl (by rw [hg6_12]; rfl)) (oks_drop hS 1 rfl) ?_; intro K hK
        refine ow_v (x_bstr Try.underlying22 Try.underlying5 Try.underlying9 (tmS rfl rfl) (viewV hS.ok 0 rfl) hfb hmg.symm) ?_
        refine hK _ _ ?_; clear hK K
        refine rg_take 19 rfl rfl (by kernel_rfl) (by kernel_rfl) (by kernel_rfl) (want_y rfl rfl rfl rfl (by rw [hg6_12]; rfl)) (fun w hok => x_Gneq (tmG rfl rfl) (tmG rfl rfl) hfb hfb) ?_
        refine rg_take 20 rfl rfl (by kernel_rfl) (by kernel_rfl) (by kernel_rfl) (want_y rfl rfl rfl rfl rfl) (fun w hok => x_pickT (tmB rfl rfl) hg6_12 (tmB rfl rfl)) ?_
        refine rg_take 21 rfl rfl (by kernel_rfl) (by kernel_rfl) (by kernel_rfl) (want_0) (fun w hok => x_pickF (tmB rfl rfl) rfl (tmB rfl rfl)) ?_
        refine rg_done (oks_drop hS 1 rfl) (by kernel_rfl) ?_
        refine then_n (hK10 _ _ ?_); clear hK10 K10
        refine cnd (tm rfl) (fun hc1 => ?_) (fun hc1 => ?_)
        · exfalso
          first | (simp at hc1; done) | (simp at hc1; omega)
        try (exfalso; first | with_reducible exact absurd hc1 Bool.false_ne_true | with_reducible exact absurd hc1.symm Bool.false_ne_true | (simp only [nrm] at hc1; omega) | (simp at hc1; done))
        all_goals
         try simp only [nrm] at hc1
         refine wp_skip ?_
         refine then_n (hK9 _ _ ?_); clear hK9 K9
         refine wp_seq_k ?_; intro K14 hK14
         replace hv1 := hv1.kept hS.kp
         replace hv2 := hv2.kept hS.kp
         replace hS := hS0.leave [] [0, 1, 2, 3, 4] rfl rfl rfl (hS.pick [] rfl rfl) rfl
         try replace hS := St.nm (M' := [.vw _ _, .vw _ _, .vw _ _, .vw _ _, .vw _ _]) hS rfl
         refine wlit ?_
         refine wl_v (x_move (tmS rfl rfl)) ?_
         refine wl_v (x_move (tmS rfl rfl)) ?_
         refine wl_e rfl ?_; intro K hK
         refine ow_call Try.func9 rfl rfl (evs_cons (tmS rfl rfl) <| evs_cons (tmS rfl rfl) <| evs_nil) (same_c G1 n1 c1 r1 G2 c2 r2 _ (viewV hS.ok 2 rfl) (viewV hS.ok 1 rfl) hn1 hn2 hrr hv1 hv2 hby (by have := hbd.2.1; omega)) ?_
         rintro e w ⟨rfl, hk⟩
         refine ⟨_, rfl, ?_⟩
         replace hS := hS.kept hk
         clear hk
         refine hK _ _ ?_; clear hK K
         refine wl_v (x_move (tmB rfl rfl)) ?_
         refine gs_wl (tm (t := 59) rfl) (fun hg8_3 => ?_) (fun hg8_3 => ?_)
         · have hg8_3' := hg8_3; (try simp only [nrm] at hg8_3'); try (exfalso; first | with_reducible exact absurd hg8_3 Bool.false_ne_true | with_reducible exact absurd hg8_3.symm Bool.false_ne_true | omega | (simp at hg8_3; done))
           all_goals
            refine wl_gv (want_y rfl rfl rfl rfl (by rw [hg8_3]; rfl)) (x_move (tmI rfl rfl)) ?_
            refine wl_gv (want_y rfl rfl rfl rfl (by rw [hg8_3]; rfl)) (x_move (tmI rfl rfl)) ?_
            refine wl_gv (want_y rfl rfl rfl rfl (by rw [hg8_3]; rfl)) (x_eql (tmI rfl rfl) (tmI rfl rfl)) ?_
            refine wl_v (x_pickT (tmB rfl rfl) hg8_3 (tmB rfl rfl)) ?_
            refine wl_v (x_move (tmB rfl rfl)) ?_
            refine gs_wl (tm (t := 64) rfl) (fun hg8_8 => ?_) (fun hg8_8 => ?_)
            · have hg8_8' := hg8_8; (try simp only [nrm] at hg8_8'); try (exfalso; first | with_reducible exact absurd hg8_8 Bool.false_ne_true | with_reducible exact absurd hg8_8.symm Bool.false_ne_true | omega | (simp at hg8_8; done))
              all_goals
               refine wl_g (want_y rfl rfl rfl rfl (by rw [hg8_8]; rfl)) ?_; intro K hK
               refine ow_call Try.func4 rfl rfl (evs_nil) (law25_awake_c _) ?_
               rintro e w ⟨rfl, hk⟩
               refine ⟨_, rfl, ?_⟩
               replace hS := hS.kept hk
               clear hk
               refine hK _ _ ?_; clear hK K
               refine wl_v (x_pickT (tmB rfl rfl) hg8_8 (tmB rfl rfl)) ?_
               refine wl_v (x_assign (tmB rfl rfl)) ?_
               refine wl_nil ?_
               refine then_n (hK14 _ _ ?_); clear hK14 K14
               refine wp_ret ?_
               refine ret1 rfl (.tmp rfl (show _ = Value.bool _ from rfl)) ?_
               first
                 | exact ⟨rfl, hS.kp.below⟩
                 | exact ⟨by simp, hS.kp.below⟩
            have hg8_8' := hg8_8; (try simp only [nrm] at hg8_8'); try (exfalso; first | with_reducible exact absurd hg8_8 Bool.false_ne_true | with_reducible exact absurd hg8_8.symm Bool.false_ne_true | omega | (simp at hg8_8; done))
            all_goals
             refine wl_s rfl (want_n rfl rfl rfl rfl (by rw [hg8_8]; rfl)) ?_
             refine wl_v (x_pickF (tmB rfl rfl) hg8_8 ev_c) ?_
             refine wl_v (x_assign (tmB rfl rfl)) ?_
             refine wl_nil ?_
             refine then_n (hK14 _ _ ?_); clear hK14 K14
             refine wp_ret ?_
             refine ret1 rfl (.tmp rfl (show _ = Value.bool _ from rfl)) ?_
             first
               | exact ⟨rfl, hS.kp.below⟩
               | exact ⟨by simp, hS.kp.below⟩
         have hg8_3' := hg8_3; (try simp only [nrm] at hg8_3'); try (exfalso; first | with_reducible exact absurd hg8_3 Bool.false_ne_true | with_reducible exact absurd hg8_3.symm Bool.false_ne_true | omega | (simp at hg8_3; done))
         all_goals
          refine wl_s rfl (want_n rfl rfl rfl rfl (by rw [hg8_3]; rfl)) ?_
          refine wl_s rfl (want_n rfl rfl rfl rfl (by rw [hg8_3]; rfl)) ?_
          refine wl_s rfl (want_n rfl rfl rfl rfl (by rw [hg8_3]; rfl)) ?_
          refine wl_v (x_pickF (tmB rfl rfl) hg8_3 ev_c) ?_
          refine wl_v (x_move (tmB rfl rfl)) ?_
          refine wl_s rfl (want_n rfl rfl rfl rfl rfl) ?_
          refine wl_v (x_pickF (tmB rfl rfl) rfl ev_c) ?_
          refine wl_v (x_assign (tmB rfl rfl)) ?_
          refine wl_nil ?_
          refine then_n (hK14 _ _ ?_); clear hK14 K14
          refine wp_ret ?_
          refine ret1 rfl (.tmp rfl (show _ = Value.bool _ from rfl)) ?_
          first
            | exact ⟨rfl, hS.kp.below⟩
            | exact ⟨by simp, hS.kp.below⟩
     have hg6_12' := hg6_12; (try simp only [nrm] at hg6_12'); try (exfalso; first | with_reducible exact absurd hg6_12 Bool.false_ne_true | with_reducible exact absurd hg6_12.symm Bool.false_ne_true | omega | (simp at hg6_12; done))
     all_goals
      refine rg_skip 13 rfl rfl (by kernel_rfl) (by kernel_rfl) (by kernel_rfl) (want_n rfl rfl rfl rfl (by rw [hg6_12]; rfl)) ?_
      refine rg_skip 14 rfl rfl (by kernel_rfl) (by kernel_rfl) (by kernel_rfl) (want_n rfl rfl rfl rfl (by rw [hg6_12]; rfl)) ?_
      refine rg_skip 15 rfl rfl (by kernel_rfl) (by kernel_rfl) (by kernel_rfl) (want_n rfl rfl rfl rfl (by rw [hg6_12]; rfl)) ?_
      refine rg_skip 16 rfl rfl (by kernel_rfl) (by kernel_rfl) (by kernel_rfl) (want_n rfl rfl rfl rfl (by rw [hg6_12]; rfl)) ?_
      refine rg_skip 17 rfl rfl (by kernel_rfl) (by kernel_rfl) (by kernel_rfl) (want_n rfl rfl rfl rfl (by rw [hg6_12]; rfl)) ?_
      refine rg_skip 18 rfl rfl (by kernel_rfl) (by kernel_rfl) (by kernel_rfl) (want_n rfl rfl rfl rfl (by rw [hg6_12]; rfl)) ?_
      refine rg_skip 19 rfl rfl (by kernel_rfl) (by kernel_rfl) (by kernel_rfl) (want_n rfl rfl rfl rfl (by rw [hg6_12]; rfl)) ?_
      refine rg_take 20 rfl rfl (by kernel_rfl) (by kernel_rfl) (by kernel_rfl) (want_y rfl rfl rfl rfl rfl) (fun w hok => x_pickF (tmB rfl rfl) hg6_12 ev_c) ?_
      refine rg_take 21 rfl rfl (by kernel_rfl) (by kernel_rfl) (by kernel_rfl) (want_0) (fun w hok => x_pickF (tmB rfl rfl) rfl (tmB rfl rfl)) ?_
      refine rg_done (oks_drop hS 0 rfl) (by kernel_rfl) ?_
      refine then_n (hK10 _ _ ?_); clear hK10 K10
      refine cnd_f (tmB rfl rfl) rfl ?_
      refine wp_skip ?_
      refine then_n (hK9 _ _ ?_); clear hK9 K9
      refine wp_seq_k ?_; intro K15 hK15
      replace hv1 := hv1.kept hS.kp
      replace hv2 := hv2.kept hS.kp
      replace hS := hS0.leave [] [0, 1, 2, 3, 4] rfl rfl rfl (hS.pick [] rfl rfl) rfl
      try replace hS := St.nm (M' := [.vw _ _, .vw _ _, .vw _ _, .vw _ _, .vw _ _]) hS rfl
      refine wlit ?_
      refine wl_v (x_move (tmS rfl rfl)) ?_
      refine wl_v (x_move (tmS rfl rfl)) ?_
      refine wl_e rfl ?_; intro K hK
      refine ow_call Try.func9 rfl rfl (evs_cons (tmS rfl rfl) <| evs_cons (tmS rfl rfl) <| evs_nil) (same_c G1 n1 c1 r1 G2 c2 r2 _ (viewV hS.ok 2 rfl) (viewV hS.ok 1 rfl) hn1 hn2 hrr hv1 hv2 hby (by have := hbd.2.1; omega)) ?_
      rintro e w ⟨rfl, hk⟩
      refine ⟨_, rfl, ?_⟩
      replace hS := hS.kept hk
      clear hk
      refine hK _ _ ?_; clear hK K
      refine wl_v (x_move (tmB rfl rfl)) ?_
      refine gs_wl (tm (t := 59) rfl) (fun hg8_3 => ?_) (fun hg8_3 => ?_)
      · have hg8_3' := hg8_3; (try simp only [nrm] at hg8_3'); try (exfalso; first | with_reducible exact absurd hg8_3 Bool.false_ne_true | with_reducible exact absurd hg8_3.symm Bool.false_ne_true | omega | (simp at hg8_3; done))
        all_goals
         refine wl_gv (want_y rfl rfl rfl rfl (by rw [hg8_3]; rfl)) (x_move (tmI rfl rfl)) ?_
         refine wl_gv (want_y rfl rfl rfl rfl (by rw [hg8_3]; rfl)) (x_move (tmI rfl rfl)) ?_
         refine wl_gv (want_y rfl rfl rfl rfl (by rw [hg8_3]; rfl)) (x_eql (tmI rfl rfl) (tmI rfl rfl)) ?_
         refine wl_v (x_pickT (tmB rfl rfl) hg8_3 (tmB rfl rfl)) ?_
         refine wl_v (x_move (tmB rfl rfl)) ?_
         refine gs_wl (tm (t := 64) rfl) (fun hg8_8 => ?_) (fun hg8_8 => ?_)
         · have hg8_8' := hg8_8; (try simp only [nrm] at hg8_8'); try (exfalso; first | with_reducible exact absurd hg8_8 Bool.false_ne_true | with_reducible exact absurd hg8_8.symm Bool.false_ne_true | omega | (simp at hg8_8; done))
           all_goals
            refine wl_g (want_y rfl rfl rfl rfl (by rw [hg8_8]; rfl)) ?_; intro K hK
            refine ow_call Try.func4 rfl rfl (evs_nil) (law25_awake_c _) ?_
            rintro e w ⟨rfl, hk⟩
            refine ⟨_, rfl, ?_⟩
            replace hS := hS.kept hk
            clear hk
            refine hK _ _ ?_; clear hK K
            refine wl_v (x_pickT (tmB rfl rfl) hg8_8 (tmB rfl rfl)) ?_
            refine wl_v (x_assign (tmB rfl rfl)) ?_
            refine wl_nil ?_
            refine then_n (hK15 _ _ ?_); clear hK15 K15
            refine wp_ret ?_
            refine ret1 rfl (.tmp rfl (show _ = Value.bool _ from rfl)) ?_
            first
              | exact ⟨rfl, hS.kp.below⟩
              | exact ⟨by simp, hS.kp.below⟩
         have hg8_8' := hg8_8; (try simp only [nrm] at hg8_8'); try (exfalso; first | with_reducible exact absurd hg8_8 Bool.false_ne_true | with_reducible exact absurd hg8_8.symm Bool.false_ne_true | omega | (simp at hg8_8; done))
         all_goals
          refine wl_s rfl (want_n rfl rfl rfl rfl (by rw [hg8_8]; rfl)) ?_
          refine wl_v (x_pickF (tmB rfl rfl) hg8_8 ev_c) ?_
          refine wl_v (x_assign (tmB rfl rfl)) ?_
          refine wl_nil ?_
          refine then_n (hK15 _ _ ?_); clear hK15 K15
          refine wp_ret ?_
          refine ret1 rfl (.tmp rfl (show _ = Value.bool _ from rfl)) ?_
          first
            | exact ⟨rfl, hS.kp.below⟩
            | exact ⟨by simp, hS.kp.below⟩
      have hg8_3' := hg8_3; (try simp only [nrm] at hg8_3'); try (exfalso; first | with_reducible exact absurd hg8_3 Bool.false_ne_true | with_reducible exact absurd hg8_3.symm Bool.false_ne_true | omega | (simp at hg8_3; done))
      all_goals
       refine wl_s rfl (want_n rfl rfl rfl rfl (by rw [hg8_3]; rfl)) ?_
       refine wl_s rfl (want_n rfl rfl rfl rfl (by rw [hg8_3]; rfl)) ?_
       refine wl_s rfl (want_n rfl rfl rfl rfl (by rw [hg8_3]; rfl)) ?_
       refine wl_v (x_pickF (tmB rfl rfl) hg8_3 ev_c) ?_
       refine wl_v (x_move (tmB rfl rfl)) ?_
       refine wl_s rfl (want_n rfl rfl rfl rfl rfl) ?_
       refine wl_v (x_pickF (tmB rfl rfl) rfl ev_c) ?_
       refine wl_v (x_assign (tmB rfl rfl)) ?_
       refine wl_nil ?_
       refine then_n (hK15 _ _ ?_); clear hK15 K15
       refine wp_ret ?_
       refine ret1 rfl (.tmp rfl (show _ = Value.bool _ from rfl)) ?_
       first
         | exact ⟨rfl, hS.kp.below⟩
         | exact ⟨by simp, hS.kp.below⟩
theorem walk (A : Option Addr) (n c : Nat) (l : List Nat) (num : Int) (B : Option Addr) (nb cb : Nat) (x : List Nat) (w0 : World)
    (r1 : l.length = n ∧ (A = none → c = 0) ∧ BView w0 w0.heap.size A l ∧ n ≤ c) (hN : 0 ≤ num ∧ num < 18446744073709551616) (r2 : x.length = nb ∧ (B = none → cb = 0) ∧ BView w0 w0.heap.size B x ∧ nb ≤ cb) :
    Calls Try.prog 3 #[.slice A n c, .int .u64 num, .slice B nb cb] w0 fun e w' => e = .returned (.bool true) ∧ Below w0.heap.size w0 w' := by
  obtain ⟨h1, _, ⟨hb, hv⟩, hc⟩ := r1
  obtain ⟨h2, _, ⟨hbx, hvx⟩, hcx⟩ := r2
  obtain ⟨num, rfl⟩ := Int.eq_ofNat_of_zero_le hN.1
  exact walk_all A n c l num B nb cb x w0 hv hc h1 hb hvx h2 hbx (by omega)
end JournalScans
end Go.Proofs.Ytcimbinkjepkcaa
