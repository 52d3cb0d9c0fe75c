
/- follow: Receive of a Follower that knows nothing; the example. Conditions: none. -/
import Derived.Test.YtmokaeflnlajgaaFwE
namespace Go.Proofs.Ytmokaeflnlajgaa
open Go.ChangeShapes Go.WideShapes Go.ChangeAt Go.RowKit
set_option maxRecDepth 100000 in
set_option maxHeartbeats 8000000 in
theorem fadv_c (gf : Nat) (num : Nat) (L : Option Addr) (n c : Nat) (w0 : World) (hv : View w0 w0.heap.size (some ⟨gf, 0, none⟩) [.pointer none]) :
    Calls Try.prog 26 #[.pointer (some ⟨gf, 0, none⟩), .agg (fmV 1 num L n c).toArray] w0 fun e w' => e = .returned (.tuple #[.pointer none, .int .i64 6]) ∧ Kp [] w0 w' := by
  have hS := (St.sv w0).vcons rfl hv
  refine ent (n := 49) Try.func26 rfl rfl ?_
  refine wp_seq_k ?_; intro K1 hK1
  refine wlit ?_
  refine wl_e rfl ?_; intro K hK
  refine ow_box hS (tmA rfl rfl) rfl ?_
  clear hS; intro g0_0 w hg0_0 hS
  refine hK _ _ ?_; clear hK K
  refine wl_v (x_assign ev_c) ?_
  refine wl_v (x_assign (ev_cN 0)) ?_
  refine wl_nil ?_
  refine then_n (hK1 _ _ ?_); clear hK1 K1
  refine wp_seq_k ?_; intro K2 hK2
  refine wp_seq_k ?_; intro K3 hK3
  refine wlit ?_
  refine wl_v (x_fa 0 Try.underlying29 rfl rfl ts_3 (tmP rfl rfl)) ?_
  first
   | refine wl_v (x_load Try.underlying3 rfl (tmP rfl rfl) (cellB hS.ok 0 rfl rfl)) ?_
   | refine wl_v (x_load Try.underlying3 rfl (tmP rfl rfl) (cellB hS.ok 0 rfl (getm (by omega)))) ?_
  refine wl_v (x_eql (tmI rfl rfl) (ev_cN 2)) ?_
  refine wl_nil ?_
  refine then_n (hK3 _ _ ?_); clear hK3 K3
  refine cnd (tm rfl) (fun hc0 => ?_) (fun hc0 => ?_)
  · exfalso
    simp at hc0
  try (exfalso; first | with_reducible exact absurd hc0 Bool.false_ne_true | with_reducible exact absurd hc0.symm Bool.false_ne_true | (simp only [nrm] at hc0; omega) | (simp at hc0; done))
  all_goals
   try simp only [nrm] at hc0
   refine wp_skip ?_
   refine then_n (hK2 _ _ ?_); clear hK2 K2
   refine wp_seq_k ?_; intro K4 hK4
   refine wp_seq_k ?_; intro K5 hK5
   refine rg_startk 0 hS mixed_ ?_
   clear hS; intro w hS
   refine rg_take 0 rfl rfl (by kernel_rfl) (by kernel_rfl) (by kernel_rfl) (want_0) (fun w hok => x_move (tmP rfl rfl)) ?_
   refine rg_take 1 rfl rfl (by kernel_rfl) (by kernel_rfl) (by kernel_rfl) (want_0) (fun w hok => x_nil (A := none) (tmP rfl rfl)) ?_
   refine rg_take 2 rfl rfl (by kernel_rfl) (by kernel_rfl) (by kernel_rfl) (want_0) (fun w hok => x_fa 0 Try.underlying43 rfl rfl ts_41 (tmP rfl rfl)) ?_
   first
    | refine rg_take 3 rfl rfl (by kernel_rfl) (by kernel_rfl) (by kernel_rfl) (want_0) (fun w hok => x_load Try.underlying41 rfl (tmP rfl rfl) (cellV hok 1 rfl rfl)) ?_
    | refine rg_take 3 rfl rfl (by kernel_rfl) (by kernel_rfl) (by kernel_rfl) (want_0) (fun w hok => x_load Try.underlying41 rfl (tmP rfl rfl) (cellV hok 1 rfl (getm (by omega)))) ?_
    | refine rg_take 3 rfl rfl (by kernel_rfl) (by kernel_rfl) (by kernel_rfl) (want_0) (fun w hok => x_load Try.underlying41 rfl (tmP rfl rfl) (cellVs hok 1 rfl (fun _ => rfl) rfl (by omega) rfl)) ?_
   first
    | refine rg_take 4 rfl rfl (by kernel_rfl) (by kernel_rfl) (by kernel_rfl) (want_0) (fun w hok => x_peql Try.underlying41 (tmP rfl rfl) ev_c) ?_
    | refine rg_take 4 rfl rfl (by kernel_rfl) (by kernel_rfl) (by kernel_rfl) (want_0) (fun w hok => x_peqln Try.underlying41 (tmP rfl rfl) ev_c) ?_
   refine rg_take 5 rfl rfl (by kernel_rfl) (by kernel_rfl) (by kernel_rfl) (want_0) (fun w hok => x_move (tmB rfl rfl)) ?_
   refine gs_rg (tm (t := 20) rfl) (fun hg3_5 => ?_) (fun hg3_5 => ?_)
   · have hg3_5' := hg3_5; (try simp only [nrm] at hg3_5'); try (exfalso; first | with_reducible exact absurd hg3_5 Bool.false_ne_true | with_reducible exact absurd hg3_5.symm Bool.false_ne_true | omega | (simp at hg3_5; done))
     all_goals
      refine rg_skip 6 rfl rfl (by kernel_rfl) (by kernel_rfl) (by kernel_rfl) (want_n rfl rfl rfl rfl (by rw [hg3_5]; rfl)) ?_
      refine rg_skip 7 rfl rfl (by kernel_rfl) (by kernel_rfl) (by kernel_rfl) (want_n rfl rfl rfl rfl (by rw [hg3_5]; rfl)) ?_
      refine rg_skip 8 rfl rfl (by kernel_rfl) (by kernel_rfl) (by kernel_rfl) (want_n rfl rfl rfl rfl (by rw [hg3_5]; rfl)) ?_
      refine rg_skip 9 rfl rfl (by kernel_rfl) (by kernel_rfl) (by kernel_rfl) (want_n rfl rfl rfl rfl (by rw [hg3_5]; rfl)) ?_
      refine rg_skip 10 rfl rfl (by kernel_rfl) (by kernel_rfl) (by kernel_rfl) (want_n rfl rfl rfl rfl (by rw [hg3_5]; rfl)) ?_
      refine rg_take 11 rfl rfl (by kernel_rfl) (by kernel_rfl) (by kernel_rfl) (want_0) (fun w hok => x_pickT (tmB rfl rfl) hg3_5 ev_c) ?_
      refine rg_done (oks_drop hS 0 rfl) (by kernel_rfl) ?_
      refine then_n (hK5 _ _ ?_); clear hK5 K5
      refine cnd_t (tmB rfl rfl) rfl ?_
      refine wp_seq_k ?_; intro K6 hK6
      refine wlit ?_
      refine wl_v (x_assign ev_c) ?_
      refine wl_v (x_assign (ev_cN 6)) ?_
      refine wl_nil ?_
      refine then_n (hK6 _ _ ?_); clear hK6 K6
      refine wp_ret ?_
      refine then_r ?_
      refine ret2 rfl (.tmp rfl (show _ = Value.pointer _ from rfl)) (.tmp rfl (show _ = Value.int _ _ from rfl)) ?_
      exact ⟨rfl, hS.kp⟩
   have hg3_5' := hg3_5; (try simp only [nrm] at hg3_5'); try (exfalso; first | with_reducible exact absurd hg3_5 Bool.false_ne_true | with_reducible exact absurd hg3_5.symm Bool.false_ne_true | omega | (simp at hg3_5; done))
   all_goals
    refine rg_take 6 rfl rfl (by kernel_rfl) (by kernel_rfl) (by kernel_rfl) (want_y rfl rfl rfl rfl (by rw [hg3_5]; rfl)) (fun w hok => x_fa 1 Try.underlying29 rfl rfl ts_22 (tmP rfl rfl)) ?_
    first
     | refine rg_take 7 rfl rfl (by kernel_rfl) (by kernel_rfl) (by kernel_rfl) (want_y rfl rfl rfl rfl (by rw [hg3_5]; rfl)) (fun w hok => x_load Try.underlying22 rfl (tmP rfl rfl) (cellB hok 0 rfl rfl)) ?_
     | refine rg_take 7 rfl rfl (by kernel_rfl) (by kernel_rfl) (by kernel_rfl) (want_y rfl rfl rfl rfl (by rw [hg3_5]; rfl)) (fun w hok => x_load Try.underlying22 rfl (tmP rfl rfl) (cellB hok 0 rfl (getm (by omega)))) ?_
    refine rg_take 8 rfl rfl (by kernel_rfl) (by kernel_rfl) (by kernel_rfl) (want_y rfl rfl rfl rfl (by rw [hg3_5]; rfl)) (fun w hok => x_move (tmP rfl rfl)) ?_
    refine rg_step 9 rfl (by kernel_rfl) (want_y rfl rfl rfl rfl (by rw [hg3_5]; rfl)) (oks_drop hS 0 rfl) ?_; intro K hK
    fail "no contract for (*counterfoil/follow.Follower).Known (r3.9)"
set_option maxRecDepth 100000 in
set_option maxHeartbeats 8000000 in
theorem frecv_c (gf : Nat) (kind : Int) (num : Nat) (L : Option Addr) (n c : Nat) (rows : List Row3) (w0 : World) (hv : View w0 w0.heap.size (some ⟨gf, 0, none⟩) [.pointer none]) (hvl : View w0 w0.heap.size L (rows.map rowV)) (hl : rows.length = n) (hf : frP kind rows) (hk : kind = 1 ∨ kind = 3) :
    Calls Try.prog 14 #[.pointer (some ⟨gf, 0, none⟩), .agg (fmV kind num L n c).toArray] w0 fun e w' => e = .returned (.int .i64 (if kind = 1 then 6 else 1)) ∧ Kp [] w0 w' := by
  have hn16 : n ≤ 16 := by have := hf.2; rw [cntP_iff, hl] at this; omega
  have hS := ((St.sv w0).vcons rfl hvl).vcons rfl hv
  rcases hk with rfl | rfl
  · skip
    refine ent (n := 30) Try.func14 rfl rfl ?_
    refine wp_seq_k ?_; intro K1 hK1
    refine wlit ?_
    refine wl_e rfl ?_; intro K hK
    refine ow_box hS (tmA rfl rfl) rfl ?_
    clear hS; intro g0_0 w hg0_0 hS
    refine hK _ _ ?_; clear hK K
    refine wl_v (x_assign (ev_cN 0)) ?_
    refine wl_nil ?_
    refine then_n (hK1 _ _ ?_); clear hK1 K1
    refine wp_seq_k ?_; intro K2 hK2
    refine wp_seq_k ?_; intro K3 hK3
    refine wlit ?_
    refine wl_v (x_move (tmP rfl rfl)) ?_
    first
     | refine wl_v (x_peql Try.underlying40 (tmP rfl rfl) ev_c) ?_
     | refine wl_v (x_peqln Try.underlying40 (tmP rfl rfl) ev_c) ?_
    refine wl_nil ?_
    refine then_n (hK3 _ _ ?_); clear hK3 K3
    refine cnd (tm rfl) (fun hc0 => ?_) (fun hc0 => ?_)
    · exfalso
      simp at hc0
    try (exfalso; first | with_reducible exact absurd hc0 Bool.false_ne_true | with_reducible exact absurd hc0.symm Bool.false_ne_true | (simp only [nrm] at hc0; omega) | (simp at hc0; done))
    all_goals
     try simp only [nrm] at hc0
     refine wp_skip ?_
     refine then_n (hK2 _ _ ?_); clear hK2 K2
     refine wp_seq_k ?_; intro K4 hK4
     refine wp_seq_k ?_; intro K5 hK5
     refine wlit ?_
     refine wl_v (x_loadA (cs := [_, _, _]) Try.underlying29 rfl ts_29 (tmP rfl rfl) (rangeB hS.ok 0 rfl rfl)) ?_
     refine wl_e rfl ?_; intro K hK
     refine ow_call Try.func10 rfl rfl (evs_cons (tmA rfl rfl) <| evs_nil) (fright_c 1 num L n c rows _ (viewV hS.ok 2 rfl) hl (by omega) (fun r hr => Nat.le_trans (hf.1 r hr) (by decide))) ?_
     rintro e w ⟨rfl, hk2⟩
     refine ⟨_, rfl, ?_⟩
     replace hS := hS.kept hk2
     clear hk2
     refine hK _ _ ?_; clear hK K
     refine wl_v (x_not (tmB rfl rfl)) ?_
     refine wl_v (x_move (tmB rfl rfl)) ?_
     refine gs_wl (tm (t := 12) rfl) (fun hg3_3 => ?_) (fun hg3_3 => ?_)
     · exfalso
       exact absurd hf (by simpa using hg3_3)
     have hg3_3' := hg3_3; (try simp only [nrm] at hg3_3'); try (exfalso; first | with_reducible exact absurd hg3_3 Bool.false_ne_true | with_reducible exact absurd hg3_3.symm Bool.false_ne_true | omega | (simp at hg3_3; done))
     all_goals
      refine wl_gv (want_y rfl rfl rfl rfl (by rw [hg3_3]; rfl)) (x_fa 0 Try.underlying29 rfl rfl ts_3 (tmP rfl rfl)) ?_
      first
       | refine wl_gv (want_y rfl rfl rfl rfl (by rw [hg3_3]; rfl)) (x_load Try.underlying3 rfl (tmP rfl rfl) (cellB hS.ok 0 rfl rfl)) ?_
       | refine wl_gv (want_y rfl rfl rfl rfl (by rw [hg3_3]; rfl)) (x_load Try.underlying3 rfl (tmP rfl rfl) (cellB hS.ok 0 rfl (getm (by omega)))) ?_
      refine wl_gv (want_y rfl rfl rfl rfl (by rw [hg3_3]; rfl)) (x_eql (tmI rfl rfl) (ev_cN 3)) ?_
      refine wl_v (x_pickF (tmB rfl rfl) hg3_3 (tmB rfl rfl)) ?_
      refine wl_nil ?_
      refine then_n (hK5 _ _ ?_); clear hK5 K5
      refine cnd (tm rfl) (fun hc1 => ?_) (fun hc1 => ?_)
      · exfalso
        simp at hc1
      try (exfalso; first | with_reducible exact absurd hc1 Bool.false_ne_true | with_reducible exact absurd hc1.symm Bool.false_ne_true | (simp only [nrm] at hc1; omega) | (simp at hc1; done))
      all_goals
       try simp only [nrm] at hc1
       refine wp_skip ?_
       refine then_n (hK4 _ _ ?_); clear hK4 K4
       refine wp_seq_k ?_; intro K6 hK6
       refine wlit ?_
       refine wl_v (x_move (tmP rfl rfl)) ?_
       refine wl_v (x_loadA (cs := [_, _, _]) Try.underlying29 rfl ts_29 (tmP rfl rfl) (rangeB hS.ok 0 rfl rfl)) ?_
       refine wl_e rfl ?_; intro K hK
       refine ow_call Try.func26 rfl rfl (evs_cons (tmP rfl rfl) <| evs_cons (tmA rfl rfl) <| evs_nil) (fadv_c gf num L n c _ (viewV hS.ok 1 rfl)) ?_
       rintro e w ⟨rfl, hk2⟩
       refine ⟨_, rfl, ?_⟩
       replace hS := hS.kept hk2
       clear hk2
       refine hK _ _ ?_; clear hK K
       refine wl_v (x_move (tmT rfl rfl)) ?_
       refine wl_v (x_ext (tmT rfl rfl) rfl) ?_
       refine wl_v (x_ext (tmT rfl rfl) rfl) ?_
       refine wl_v (x_assign (tmP rfl rfl)) ?_
       refine wl_v (x_assign (tmI rfl rfl)) ?_
       refine wl_nil ?_
       refine then_n (hK6 _ _ ?_); clear hK6 K6
       refine wp_seq_k ?_; intro K7 hK7
       refine wp_seq_k ?_; intro K8 hK8
       refine wlit ?_
       refine wl_v (x_move (tmI rfl rfl)) ?_
       refine wl_v (x_eql (tmI rfl rfl) (ev_cN 0)) ?_
       refine wl_nil ?_
       refine then_n (hK8 _ _ ?_); clear hK8 K8
       refine cnd (tm rfl) (fun hc2 => ?_) (fun hc2 => ?_)
       · exfalso
         simp at hc2
       try (exfalso; first | with_reducible exact absurd hc2 Bool.false_ne_true | with_reducible exact absurd hc2.symm Bool.false_ne_true | (simp only [nrm] at hc2; omega) | (simp at hc2; done))
       all_goals
        try simp only [nrm] at hc2
        refine wp_skip ?_
        refine then_n (hK7 _ _ ?_); clear hK7 K7
        refine wp_seq_k ?_; intro K9 hK9
        refine wlit ?_
        refine wl_v (x_move (tmI rfl rfl)) ?_
        refine wl_v (x_assign (tmI rfl rfl)) ?_
        refine wl_nil ?_
        refine then_n (hK9 _ _ ?_); clear hK9 K9
        refine wp_ret ?_
        refine ret1 rfl (.tmp rfl (show _ = Value.int _ _ from rfl)) ?_
        exact ⟨rfl, hS.kp⟩
  · skip
    refine ent (n := 30) Try.func14 rfl rfl ?_
    refine wp_seq_k ?_; intro K1 hK1
    refine wlit ?_
    refine wl_e rfl ?_; intro K hK
    refine ow_box hS (tmA rfl rfl) rfl ?_
    clear hS; intro g0_0 w hg0_0 hS
    refine hK _ _ ?_; clear hK K
    refine wl_v (x_assign (ev_cN 0)) ?_
    refine wl_nil ?_
    refine then_n (hK1 _ _ ?_); clear hK1 K1
    refine wp_seq_k ?_; intro K2 hK2
    refine wp_seq_k ?_; intro K3 hK3
    refine wlit ?_
    refine wl_v (x_move (tmP rfl rfl)) ?_
    first
     | refine wl_v (x_peql Try.underlying40 (tmP rfl rfl) ev_c) ?_
     | refine wl_v (x_peqln Try.underlying40 (tmP rfl rfl) ev_c) ?_
    refine wl_nil ?_
    refine then_n (hK3 _ _ ?_); clear hK3 K3
    refine cnd (tm rfl) (fun hc0 => ?_) (fun hc0 => ?_)
    · exfalso
      simp at hc0
    try (exfalso; first | with_reducible exact absurd hc0 Bool.false_ne_true | with_reducible exact absurd hc0.symm Bool.false_ne_true | (simp only [nrm] at hc0; omega) | (simp at hc0; done))
    all_goals
     try simp only [nrm] at hc0
     refine wp_skip ?_
     refine then_n (hK2 _ _ ?_); clear hK2 K2
     refine wp_seq_k ?_; intro K4 hK4
     refine wp_seq_k ?_; intro K5 hK5
     refine wlit ?_
     refine wl_v (x_loadA (cs := [_, _, _]) Try.underlying29 rfl ts_29 (tmP rfl rfl) (rangeB hS.ok 0 rfl rfl)) ?_
     refine wl_e rfl ?_; intro K hK
     refine ow_call Try.func10 rfl rfl (evs_cons (tmA rfl rfl) <| evs_nil) (fright_c 3 num L n c rows _ (viewV hS.ok 2 rfl) hl (by omega) (fun r hr => Nat.le_trans (hf.1 r hr) (by decide))) ?_
     rintro e w ⟨rfl, hk2⟩
     refine ⟨_, rfl, ?_⟩
     replace hS := hS.kept hk2
     clear hk2
     refine hK _ _ ?_; clear hK K
     refine wl_v (x_not (tmB rfl rfl)) ?_
     refine wl_v (x_move (tmB rfl rfl)) ?_
     refine gs_wl (tm (t := 12) rfl) (fun hg3_3 => ?_) (fun hg3_3 => ?_)
     · have hg3_3' := hg3_3; (try simp only [nrm] at hg3_3'); try (exfalso; first | with_reducible exact absurd hg3_3 Bool.false_ne_true | with_reducible exact absurd hg3_3.symm Bool.false_ne_true | omega | (simp at hg3_3; done))
       all_goals
        refine wl_s rfl (want_n rfl rfl rfl rfl (by rw [hg3_3]; rfl)) ?_
        refine wl_s rfl (want_n rfl rfl rfl rfl (by rw [hg3_3]; rfl)) ?_
        refine wl_s rfl (want_n rfl rfl rfl rfl (by rw [hg3_3]; rfl)) ?_
        refine wl_v (x_pickT (tmB rfl rfl) hg3_3 ev_c) ?_
        refine wl_nil ?_
        refine then_n (hK5 _ _ ?_); clear hK5 K5
        refine cnd_t (tmB rfl rfl) rfl ?_
        refine wp_seq_k ?_; intro K6 hK6
        refine wlit ?_
        refine wl_v (x_assign (ev_cN 1)) ?_
        refine wl_nil ?_
        refine then_n (hK6 _ _ ?_); clear hK6 K6
        refine wp_ret ?_
        refine then_r ?_
        refine ret1 rfl (.tmp rfl (show _ = Value.int _ _ from rfl)) ?_
        exact ⟨rfl, hS.kp⟩
     have hg3_3' := hg3_3; (try simp only [nrm] at hg3_3'); try (exfalso; first | with_reducible exact absurd hg3_3 Bool.false_ne_true | with_reducible exact absurd hg3_3.symm Bool.false_ne_true | omega | (simp at hg3_3; done))
     all_goals
      refine wl_gv (want_y rfl rfl rfl rfl (by rw [hg3_3]; rfl)) (x_fa 0 Try.underlying29 rfl rfl ts_3 (tmP rfl rfl)) ?_
      first
       | refine wl_gv (want_y rfl rfl rfl rfl (by rw [hg3_3]; rfl)) (x_load Try.underlying3 rfl (tmP rfl rfl) (cellB hS.ok 0 rfl rfl)) ?_
       | refine wl_gv (want_y rfl rfl rfl rfl (by rw [hg3_3]; rfl)) (x_load Try.underlying3 rfl (tmP rfl rfl) (cellB hS.ok 0 rfl (getm (by omega)))) ?_
      refine wl_gv (want_y rfl rfl rfl rfl (by rw [hg3_3]; rfl)) (x_eql (tmI rfl rfl) (ev_cN 3)) ?_
      refine wl_v (x_pickF (tmB rfl rfl) hg3_3 (tmB rfl rfl)) ?_
      refine wl_nil ?_
      refine then_n (hK5 _ _ ?_); clear hK5 K5
      refine cnds (tm rfl) (fun hc1 => ?_) (fun hc1 => ?_)
      · exfalso
        simp at hc1
      try (exfalso; first | with_reducible exact absurd hc1 Bool.false_ne_true | with_reducible exact absurd hc1.symm Bool.false_ne_true | (simp only [nrm] at hc1; omega) | (simp at hc1; done))
      all_goals
       try simp only [nrm] at hc1
       refine wp_seq_k ?_; intro K7 hK7
       refine wlit ?_
       refine wl_v (x_assign (ev_cN 1)) ?_
       refine wl_nil ?_
       refine then_n (hK7 _ _ ?_); clear hK7 K7
       refine wp_ret ?_
       refine then_r ?_
       refine ret1 rfl (.tmp rfl (show _ = Value.int _ _ from rfl)) ?_
       exact ⟨rfl, hS.kp⟩
theorem frP_one (A : Option Addr) : frP 1 [(A, [1], 1)] := ⟨fun r hr => by obtain rfl := List.mem_singleton.1 hr; exact Nat.le_of_ble_eq_true rfl, .inl ⟨rfl, Nat.le_refl _, Nat.le_of_ble_eq_true rfl⟩⟩
theorem frP_zero : frP 3 [] := ⟨fun r hr => (by cases hr), .inr (.inr ⟨rfl, rfl⟩)⟩
set_option maxRecDepth 100000 in
set_option maxHeartbeats 8000000 in
theorem law27_awake_c (w0 : World) : Calls Try.prog 5 #[] w0 fun e w' => e = .returned (.bool true) ∧ Kp [] w0 w' := by
  have hS := St.sv w0
  refine ent (n := 16) Try.func5 rfl rfl ?_
  refine wp_seq_k ?_; intro K1 hK1
  refine wlit ?_
  refine wl_v (x_assign ev_c) ?_
  refine wl_nil ?_
  refine then_n (hK1 _ _ ?_); clear hK1 K1
  refine wp_seq_k ?_; intro K2 hK2
  refine wlit ?_
  refine wl_v (x_build (bc_skip (.pointer none) <| bc_nil) (by kernel_rfl)) ?_
  refine wl_e rfl ?_; intro K hK
  refine ow_box hS (tmA rfl rfl) rfl ?_
  clear hS; intro g1_1 w hg1_1 hS
  refine hK _ _ ?_; clear hK K
  refine wl_v (x_assign (tmP rfl rfl)) ?_
  refine wl_nil ?_
  refine then_n (hK2 _ _ ?_); clear hK2 K2
  refine wp_seq_k ?_; intro K3 hK3
  refine wlit ?_
  refine wl_v (x_move (tmP rfl rfl)) ?_
  refine wl_e rfl ?_; intro K hK
  refine ow_build hS Try.underlying26 tz_5 (bc_take (ev_cN 1) <| bc_nil) rfl rfl (by kernel_rfl) ?_
  clear hS; intro g2_1 w hg2_1 hS
  refine hK _ _ ?_; clear hK K
  refine wl_e rfl ?_; intro K hK
  refine ow_build hS Try.underlying23 tz_26 (bc_take (tmS rfl rfl) <| bc_nil) rfl rfl (by kernel_rfl) ?_
  clear hS; intro g2_2 w hg2_2 hS
  refine hK _ _ ?_; clear hK K
  refine wl_v (x_build (bc_take (ev_cN 1) <| bc_skip (.int .u64 0) <| bc_take (tmS rfl rfl) <| bc_nil) (by kernel_rfl)) ?_
  refine wl_e rfl ?_; intro K hK
  refine ow_call Try.func14 rfl rfl (evs_cons (tmP rfl rfl) <| evs_cons (tmA rfl rfl) <| evs_nil) (frecv_c g1_1 1 0 (some ⟨g2_2, 0, none⟩) 1 1 [(some ⟨g2_1, 0, none⟩, [1], 1)] _ (viewB hS.ok 2 rfl) (viewB hS.ok 0 rfl) rfl (frP_one _) (.inl rfl)) ?_
  rintro e w ⟨rfl, hk2⟩
  refine ⟨_, rfl, ?_⟩
  replace hS := hS.kept hk2
  clear hk2
  refine hK _ _ ?_; clear hK K
  refine wl_v (x_eql (tmI rfl rfl) (ev_cN 6)) ?_
  refine wl_v (x_move (tmB rfl rfl)) ?_
  refine gs_wl (tm (t := 10) rfl) (fun hg2_6 => ?_) (fun hg2_6 => ?_)
  · have hg2_6' := hg2_6; (try simp only [nrm] at hg2_6'); try (exfalso; first | with_reducible exact absurd hg2_6 Bool.false_ne_true | with_reducible exact absurd hg2_6.symm Bool.false_ne_true | omega | (simp at hg2_6; done))
    all_goals
     refine wl_gv (want_y rfl rfl rfl rfl (by rw [hg2_6]; rfl)) (x_move (tmP rfl rfl)) ?_
     refine wl_gv (want_y rfl rfl rfl rfl (by rw [hg2_6]; rfl)) (x_build (bc_take (ev_cN 3) <| bc_skip (.int .u64 0) <| bc_skip (.slice none 0 0) <| bc_nil) (by kernel_rfl)) ?_
     refine wl_g (want_y rfl rfl rfl rfl (by rw [hg2_6]; rfl)) ?_; intro K hK
     refine ow_call Try.func14 rfl rfl (evs_cons (tmP rfl rfl) <| evs_cons (tmA rfl rfl) <| evs_nil) (frecv_c g1_1 3 0 none 0 0 [] _ (viewB hS.ok 2 rfl) View.nil_ rfl frP_zero (.inr rfl)) ?_
     rintro e w ⟨rfl, hk2⟩
     refine ⟨_, rfl, ?_⟩
     replace hS := hS.kept hk2
     clear hk2
     refine hK _ _ ?_; clear hK K
     refine wl_gv (want_y rfl rfl rfl rfl (by rw [hg2_6]; rfl)) (x_eql (tmI rfl rfl) (ev_cN 1)) ?_
     refine wl_v (x_pickT (tmB rfl rfl) hg2_6 (tmB rfl rfl)) ?_
     refine wl_v (x_assign (tmB rfl rfl)) ?_
     refine wl_nil ?_
     refine then_n (hK3 _ _ ?_); clear hK3 K3
     refine wp_ret ?_
     refine ret1 rfl (.tmp rfl (show _ = Value.bool _ from rfl)) ?_
     exact ⟨rfl, hS.kp⟩
  have hg2_6' := hg2_6; (try simp only [nrm] at hg2_6'); try (exfalso; first | with_reducible exact absurd hg2_6 Bool.false_ne_true | with_reducible exact absurd hg2_6.symm Bool.false_ne_true | omega | (simp at hg2_6; done))
  all_goals
   refine wl_s rfl (want_n rfl rfl rfl rfl (by rw [hg2_6]; rfl)) ?_
   refine wl_s rfl (want_n rfl rfl rfl rfl (by rw [hg2_6]; rfl)) ?_
   refine wl_s rfl (want_n rfl rfl rfl rfl (by rw [hg2_6]; rfl)) ?_
   refine wl_s rfl (want_n rfl rfl rfl rfl (by rw [hg2_6]; rfl)) ?_
   refine wl_v (x_pickF (tmB rfl rfl) hg2_6 ev_c) ?_
   refine wl_v (x_assign (tmB rfl rfl)) ?_
   refine wl_nil ?_
   refine then_n (hK3 _ _ ?_); clear hK3 K3
   refine wp_ret ?_
   refine ret1 rfl (.tmp rfl (show _ = Value.bool _ from rfl)) ?_
   exact ⟨rfl, hS.kp⟩
end Go.Proofs.Ytmokaeflnlajgaa
