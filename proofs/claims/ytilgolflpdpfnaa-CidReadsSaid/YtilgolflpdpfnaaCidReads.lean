
/- Proved: CidReads returns true for every ring and all bytes, and changes no memory that was there. Conditions: none. -/
import Derived.Test.YtilgolflpdpfnaaCidA
namespace Go.Proofs.Ytilgolflpdpfnaa
open Go.ChangeShapes Go.WideShapes Go.ChangeAt Go.RowKit
namespace CidReads
set_option maxRecDepth 100000 in
set_option maxHeartbeats 4000000 in
theorem walkC (k : Nat → Nat) (u : Nat) (A : Option Addr) (n c : Nat) (l : List Nat) (w0 : World) (hkb : Bytes (kL k)) (hu : u < 18446744073709551616) (hv : View w0 w0.heap.size A (l.map u8v)) (hl : l.length = n) (hc : n ≤ c) (hb : Bytes l) :
    Calls Try.prog 10 #[.agg (rgC k u).toArray, .slice A n c] w0 fun e w' => e = .returned (.bool true) ∧ Below w0.heap.size w0 w' := by
  have hS := (St.sv w0).vcons rfl hv
  by_cases h100 : 100 < n
  · skip
    refine ent (n := 58) Try.func10 rfl rfl ?_
    refine wp_seq_k ?_; intro K1 hK1
    refine wlit ?_
    refine wl_e rfl ?_; intro K hK
    refine ow_box hS (tmA rfl rfl) rfl ?_
    clear hS; intro g0_0 w hg0_0 hS
    refine hK _ _ ?_; clear hK K
    refine wl_v (x_assign ev_c) ?_
    refine wl_nil ?_
    refine then_n (hK1 _ _ ?_); clear hK1 K1
    refine wp_seq_k ?_; intro K2 hK2
    refine wp_seq_k ?_; intro K3 hK3
    refine wlit ?_
    refine wl_v (x_move (tmS rfl rfl)) ?_
    refine wl_v (x_len Try.underlying22 (tmS rfl rfl)) ?_
    refine wl_v (x_gtr (tmI rfl rfl) (ev_cN 100)) ?_
    refine wl_nil ?_
    refine then_n (hK3 _ _ ?_); clear hK3 K3
    refine cnds (tm rfl) (fun hc0 => ?_) (fun hc0 => ?_)
    · exfalso
      simp only [nrm] at hc0
      omega
    try (exfalso; first | with_reducible exact absurd hc0 Bool.false_ne_true | with_reducible exact absurd hc0.symm Bool.false_ne_true | (simp only [nrm] at hc0; omega) | (simp at hc0; done))
    all_goals
     try simp only [nrm] at hc0
     refine wp_seq_k ?_; intro K4 hK4
     refine wlit ?_
     refine wl_e rfl ?_; intro K hK
     refine ow_call Try.func49 rfl rfl (evs_nil) (law13_awake_c _) ?_
     rintro e w ⟨rfl, hk⟩
     refine ⟨_, rfl, ?_⟩
     replace hS := hS.kept hk
     clear hk
     refine hK _ _ ?_; clear hK K
     refine wl_v (x_assign (tmB rfl rfl)) ?_
     refine wl_nil ?_
     refine then_n (hK4 _ _ ?_); clear hK4 K4
     refine wp_ret ?_
     refine then_r ?_
     refine ret1 rfl (.tmp rfl (show _ = Value.bool _ from rfl)) ?_
     exact ⟨rfl, hS.kp.below⟩
  by_cases h12 : n = 12
  · subst h12
    obtain ⟨x, o, e0, hR⟩ : ∃ x o e0, (tagOk k u l ∧ x = idX k u l ∧ o = numBE (l.take 5) ∧ e0 = 0) ∨ (¬ tagOk k u l ∧ x = 0 ∧ o = 0 ∧ e0 = 26) := by
      by_cases h : tagOk k u l
      · exact ⟨_, _, _, .inl ⟨h, rfl, rfl, rfl⟩⟩
      · exact ⟨_, _, _, .inr ⟨h, rfl, rfl, rfl⟩⟩
    refine ent (n := 58) Try.func10 rfl rfl ?_
    refine wp_seq_k ?_; intro K1 hK1
    refine wlit ?_
    refine wl_e rfl ?_; intro K hK
    refine ow_box hS (tmA rfl rfl) rfl ?_
    clear hS; intro g0_0 w hg0_0 hS
    refine hK _ _ ?_; clear hK K
    refine wl_v (x_assign ev_c) ?_
    refine wl_nil ?_
    refine then_n (hK1 _ _ ?_); clear hK1 K1
    refine wp_seq_k ?_; intro K2 hK2
    refine wp_seq_k ?_; intro K3 hK3
    refine wlit ?_
    refine wl_v (x_move (tmS rfl rfl)) ?_
    refine wl_v (x_len Try.underlying22 (tmS rfl rfl)) ?_
    refine wl_v (x_gtr (tmI rfl rfl) (ev_cN 100)) ?_
    refine wl_nil ?_
    refine then_n (hK3 _ _ ?_); clear hK3 K3
    refine cnd (tm rfl) (fun hc0 => ?_) (fun hc0 => ?_)
    · exfalso
      simp only [nrm] at hc0
      omega
    try (exfalso; first | with_reducible exact absurd hc0 Bool.false_ne_true | with_reducible exact absurd hc0.symm Bool.false_ne_true | (simp only [nrm] at hc0; omega) | (simp at hc0; done))
    all_goals
     try simp only [nrm] at hc0
     refine wp_skip ?_
     refine then_n (hK2 _ _ ?_); clear hK2 K2
     refine wp_seq_k ?_; intro K4 hK4
     refine wlit ?_
     refine wl_v (x_fa 0 Try.underlying66 rfl rfl ts_64 (tmP rfl rfl)) ?_
     refine wl_v (x_loadA (cs := [_, _, _, _, _, _, _, _, _, _, _, _, _, _, _, _]) Try.underlying64 rfl ts_64 (tmP rfl rfl) (rangeB hS.ok 0 rfl rfl)) ?_
     refine wl_v (x_fa 16 Try.underlying66 rfl rfl ts_24 (tmP rfl rfl)) ?_
     first
      | refine wl_v (x_load Try.underlying24 rfl (tmP rfl rfl) (cellB hS.ok 0 rfl rfl)) ?_
      | refine wl_v (x_load Try.underlying24 rfl (tmP rfl rfl) (cellB hS.ok 0 rfl (getm (by omega)))) ?_
     refine wl_e rfl ?_; intro K hK
     refine ow_call Try.func36 rfl rfl (evs_cons (tmA rfl rfl) <| evs_cons (tmI rfl rfl) <| evs_nil) (ring_new_c k u _) ?_
     rintro e w ⟨rfl, hk⟩
     refine ⟨_, rfl, ?_⟩
     replace hS := hS.kept hk
     clear hk
     refine hK _ _ ?_; clear hK K
     refine wl_v (x_move (tmS rfl rfl)) ?_
     refine wl_e rfl ?_; intro K hK
     refine ow_call Try.func51 rfl rfl (evs_cons (tmA rfl rfl) <| evs_cons (tmS rfl rfl) <| evs_nil) (cid_read_c k u A c l _ hkb (by omega) (viewV hS.ok 1 rfl) hl hc hb x o e0 hR) ?_
     rintro e w ⟨rfl, hk⟩
     refine ⟨_, rfl, ?_⟩
     replace hS := hS.kept hk
     clear hk
     refine hK _ _ ?_; clear hK K
     refine wl_v (x_move (tmT rfl rfl)) ?_
     refine wl_v (x_ext (tmT rfl rfl) rfl) ?_
     refine wl_v (x_ext (tmT rfl rfl) rfl) ?_
     refine wl_v (x_ext (tmT rfl rfl) rfl) ?_
     refine wl_e rfl ?_; intro K hK
     refine ow_alloc hS tz_88 rfl ?_
     clear hS; intro g3_11 w hg3_11 hS
     refine hK _ _ ?_; clear hK K
     refine wl_e rfl ?_; intro K hK
     refine ow_storeA hS 0 rfl ts_88 (tmP rfl rfl) (tmA rfl rfl) rfl rfl rfl ?_
     clear hS; intro w hS
     refine hK _ _ ?_; clear hK K
     refine wl_v (x_assign (tmI rfl rfl)) ?_
     refine wl_v (x_assign (tmI rfl rfl)) ?_
     refine wl_nil ?_
     refine then_n (hK4 _ _ ?_); clear hK4 K4
     refine wp_seq_k ?_; intro K5 hK5
     refine wlit ?_
     refine wl_v (x_loadA (cs := [_, _, _, _, _, _, _, _, _, _, _, _, _, _, _, _, _]) Try.underlying66 rfl ts_66 (tmP rfl rfl) (rangeB hS.ok 1 rfl rfl)) ?_
     refine wl_v (x_move (tmS rfl rfl)) ?_
     refine wl_e rfl ?_; intro K hK
     refine ow_call Try.func52 rfl rfl (evs_cons (tmA rfl rfl) <| evs_cons (tmS rfl rfl) <| evs_nil) (rcid_read_c k u A c l _ hkb (by omega) (viewV hS.ok 2 rfl) hl hc hb x o e0 hR) ?_
     rintro e w ⟨rfl, hk⟩
     refine ⟨_, rfl, ?_⟩
     replace hS := hS.kept hk
     clear hk
     refine hK _ _ ?_; clear hK K
     refine wl_v (x_move (tmT rfl rfl)) ?_
     refine wl_v (x_ext (tmT rfl rfl) rfl) ?_
     refine wl_v (x_ext (tmT rfl rfl) rfl) ?_
     refine wl_v (x_ext (tmT rfl rfl) rfl) ?_
     refine wl_v (x_ext (tmT rfl rfl) rfl) ?_
     refine wl_v (x_assign (tmI rfl rfl)) ?_
     refine wl_v (x_assign (tmI rfl rfl)) ?_
     refine wl_v (x_assign (tmI rfl rfl)) ?_
     refine wl_v (x_assign (tmI rfl rfl)) ?_
     refine wl_nil ?_
     refine then_n (hK5 _ _ ?_); clear hK5 K5
     refine wp_seq_k ?_; intro K6 hK6
     refine wlit ?_
     refine wl_v (x_fa 0 Try.underlying88 rfl rfl ts_3 (tmP rfl rfl)) ?_
     first
      | refine wl_v (x_load Try.underlying3 rfl (tmP rfl rfl) (cellB hS.ok 0 rfl rfl)) ?_
      | refine wl_v (x_load Try.underlying3 rfl (tmP rfl rfl) (cellB hS.ok 0 rfl (getm (by omega)))) ?_
     refine wl_v (x_move (tmI rfl rfl)) ?_
     refine wl_v (x_eql (tmI rfl rfl) (tmI rfl rfl)) ?_
     refine wl_v (x_move (tmB rfl rfl)) ?_
     refine gs_wls (tm (t := 39) rfl) (fun hg5_4 => ?_) (fun hg5_4 => ?_)
     · exfalso
       simp at hg5_4
     have hg5_4' := hg5_4; (try simp only [nrm] at hg5_4'); try (exfalso; first | with_reducible exact absurd hg5_4 Bool.false_ne_true | with_reducible exact absurd hg5_4.symm Bool.false_ne_true | omega | (simp at hg5_4; done))
     all_goals
      refine wl_gv (want_y rfl rfl rfl rfl (by rw [hg5_4]; rfl)) (x_fa 1 Try.underlying88 rfl rfl ts_3 (tmP rfl rfl)) ?_
      first
       | refine wl_gv (want_y rfl rfl rfl rfl (by rw [hg5_4]; rfl)) (x_load Try.underlying3 rfl (tmP rfl rfl) (cellB hS.ok 0 rfl rfl)) ?_
       | refine wl_gv (want_y rfl rfl rfl rfl (by rw [hg5_4]; rfl)) (x_load Try.underlying3 rfl (tmP rfl rfl) (cellB hS.ok 0 rfl (getm (by omega)))) ?_
      refine wl_gv (want_y rfl rfl rfl rfl (by rw [hg5_4]; rfl)) (x_move (tmI rfl rfl)) ?_
      refine wl_gv (want_y rfl rfl rfl rfl (by rw [hg5_4]; rfl)) (x_eql (tmI rfl rfl) (tmI rfl rfl)) ?_
      refine wl_v (x_pickT (tmB rfl rfl) hg5_4 (tmB rfl rfl)) ?_
      refine wl_v (x_move (tmB rfl rfl)) ?_
      refine gs_wls (tm (t := 45) rfl) (fun hg5_10 => ?_) (fun hg5_10 => ?_)
      · exfalso
        simp at hg5_10
      have hg5_10' := hg5_10; (try simp only [nrm] at hg5_10'); try (exfalso; first | with_reducible exact absurd hg5_10 Bool.false_ne_true | with_reducible exact absurd hg5_10.symm Bool.false_ne_true | omega | (simp at hg5_10; done))
      all_goals
       refine wl_gv (want_y rfl rfl rfl rfl (by rw [hg5_10]; rfl)) (x_move (tmI rfl rfl)) ?_
       refine wl_gv (want_y rfl rfl rfl rfl (by rw [hg5_10]; rfl)) (x_move (tmI rfl rfl)) ?_
       refine wl_gv (want_y rfl rfl rfl rfl (by rw [hg5_10]; rfl)) (x_eql (tmI rfl rfl) (tmI rfl rfl)) ?_
       refine wl_v (x_pickT (tmB rfl rfl) hg5_10 (tmB rfl rfl)) ?_
       refine wl_v (x_move (tmB rfl rfl)) ?_
       refine gs_wls (tm (t := 50) rfl) (fun hg5_15 => ?_) (fun hg5_15 => ?_)
       · exfalso
         simp at hg5_15
       have hg5_15' := hg5_15; (try simp only [nrm] at hg5_15'); try (exfalso; first | with_reducible exact absurd hg5_15 Bool.false_ne_true | with_reducible exact absurd hg5_15.symm Bool.false_ne_true | omega | (simp at hg5_15; done))
       all_goals
        refine wl_gv (want_y rfl rfl rfl rfl (by rw [hg5_15]; rfl)) (x_move (tmI rfl rfl)) ?_
        refine wl_gv (want_y rfl rfl rfl rfl (by rw [hg5_15]; rfl)) (x_move (tmI rfl rfl)) ?_
        refine wl_gv (want_y rfl rfl rfl rfl (by rw [hg5_15]; rfl)) (x_eql (tmI rfl rfl) (tmI rfl rfl)) ?_
        refine wl_v (x_pickT (tmB rfl rfl) hg5_15 (tmB rfl rfl)) ?_
        refine wl_v (x_move (tmB rfl rfl)) ?_
        refine gs_wls (tm (t := 55) rfl) (fun hg5_20 => ?_) (fun hg5_20 => ?_)
        · exfalso
          simp at hg5_20
        have hg5_20' := hg5_20; (try simp only [nrm] at hg5_20'); try (exfalso; first | with_reducible exact absurd hg5_20 Bool.false_ne_true | with_reducible exact absurd hg5_20.symm Bool.false_ne_true | omega | (simp at hg5_20; done))
        all_goals
         refine wl_g (want_y rfl rfl rfl rfl (by rw [hg5_20]; rfl)) ?_; intro K hK
         refine ow_call Try.func49 rfl rfl (evs_nil) (law13_awake_c _) ?_
         rintro e w ⟨rfl, hk⟩
         refine ⟨_, rfl, ?_⟩
         replace hS := hS.kept hk
         clear hk
         refine hK _ _ ?_; clear hK K
         refine wl_v (x_pickT (tmB rfl rfl) hg5_20 (tmB rfl rfl)) ?_
         refine wl_v (x_assign (tmB rfl rfl)) ?_
         refine wl_nil ?_
         refine then_n (hK6 _ _ ?_); clear hK6 K6
         refine wp_ret ?_
         refine ret1 rfl (.tmp rfl (show _ = Value.bool _ from rfl)) ?_
         exact ⟨rfl, hS.kp.below⟩
  · skip
    refine ent (n := 58) Try.func10 rfl rfl ?_
    refine wp_seq_k ?_; intro K1 hK1
    refine wlit ?_
    refine wl_e rfl ?_; intro K hK
    refine ow_box hS (tmA rfl rfl) rfl ?_
    clear hS; intro g0_0 w hg0_0 hS
    refine hK _ _ ?_; clear hK K
    refine wl_v (x_assign ev_c) ?_
    refine wl_nil ?_
    refine then_n (hK1 _ _ ?_); clear hK1 K1
    refine wp_seq_k ?_; intro K2 hK2
    refine wp_seq_k ?_; intro K3 hK3
    refine wlit ?_
    refine wl_v (x_move (tmS rfl rfl)) ?_
    refine wl_v (x_len Try.underlying22 (tmS rfl rfl)) ?_
    refine wl_v (x_gtr (tmI rfl rfl) (ev_cN 100)) ?_
    refine wl_nil ?_
    refine then_n (hK3 _ _ ?_); clear hK3 K3
    refine cnd (tm rfl) (fun hc0 => ?_) (fun hc0 => ?_)
    · exfalso
      simp only [nrm] at hc0
      omega
    try (exfalso; first | with_reducible exact absurd hc0 Bool.false_ne_true | with_reducible exact absurd hc0.symm Bool.false_ne_true | (simp only [nrm] at hc0; omega) | (simp at hc0; done))
    all_goals
     try simp only [nrm] at hc0
     refine wp_skip ?_
     refine then_n (hK2 _ _ ?_); clear hK2 K2
     refine wp_seq_k ?_; intro K4 hK4
     refine wlit ?_
     refine wl_v (x_fa 0 Try.underlying66 rfl rfl ts_64 (tmP rfl rfl)) ?_
     refine wl_v (x_loadA (cs := [_, _, _, _, _, _, _, _, _, _, _, _, _, _, _, _]) Try.underlying64 rfl ts_64 (tmP rfl rfl) (rangeB hS.ok 0 rfl rfl)) ?_
     refine wl_v (x_fa 16 Try.underlying66 rfl rfl ts_24 (tmP rfl rfl)) ?_
     first
      | refine wl_v (x_load Try.underlying24 rfl (tmP rfl rfl) (cellB hS.ok 0 rfl rfl)) ?_
      | refine wl_v (x_load Try.underlying24 rfl (tmP rfl rfl) (cellB hS.ok 0 rfl (getm (by omega)))) ?_
     refine wl_e rfl ?_; intro K hK
     refine ow_call Try.func36 rfl rfl (evs_cons (tmA rfl rfl) <| evs_cons (tmI rfl rfl) <| evs_nil) (ring_new_c k u _) ?_
     rintro e w ⟨rfl, hk⟩
     refine ⟨_, rfl, ?_⟩
     replace hS := hS.kept hk
     clear hk
     refine hK _ _ ?_; clear hK K
     refine wl_v (x_move (tmS rfl rfl)) ?_
     refine wl_e rfl ?_; intro K hK
     refine ow_call Try.func51 rfl rfl (evs_cons (tmA rfl rfl) <| evs_cons (tmS rfl rfl) <| evs_nil) (cid_read_short k u A n c _ h12) ?_
     rintro e w ⟨rfl, hk⟩
     refine ⟨_, rfl, ?_⟩
     replace hS := hS.kept hk
     clear hk
     refine hK _ _ ?_; clear hK K
     refine wl_v (x_move (tmT rfl rfl)) ?_
     refine wl_v (x_ext (tmT rfl rfl) rfl) ?_
     refine wl_v (x_ext (tmT rfl rfl) rfl) ?_
     refine wl_v (x_ext (tmT rfl rfl) rfl) ?_
     refine wl_e rfl ?_; intro K hK
     refine ow_alloc hS tz_88 rfl ?_
     clear hS; intro g3_11 w hg3_11 hS
     refine hK _ _ ?_; clear hK K
     refine wl_e rfl ?_; intro K hK
     refine ow_storeA hS 0 rfl ts_88 (tmP rfl rfl) (tmA rfl rfl) rfl rfl rfl ?_
     clear hS; intro w hS
     refine hK _ _ ?_; clear hK K
     refine wl_v (x_assign (tmI rfl rfl)) ?_
     refine wl_v (x_assign (tmI rfl rfl)) ?_
     refine wl_nil ?_
     refine then_n (hK4 _ _ ?_); clear hK4 K4
     refine wp_seq_k ?_; intro K5 hK5
     refine wlit ?_
     refine wl_v (x_loadA (cs := [_, _, _, _, _, _, _, _, _, _, _, _, _, _, _, _, _]) Try.underlying66 rfl ts_66 (tmP rfl rfl) (rangeB hS.ok 1 rfl rfl)) ?_
     refine wl_v (x_move (tmS rfl rfl)) ?_
     refine wl_e rfl ?_; intro K hK
     refine ow_call Try.func52 rfl rfl (evs_cons (tmA rfl rfl) <| evs_cons (tmS rfl rfl) <| evs_nil) (rcid_read_short k u A n c _ h12) ?_
     rintro e w ⟨rfl, hk⟩
     refine ⟨_, rfl, ?_⟩
     replace hS := hS.kept hk
     clear hk
     refine hK _ _ ?_; clear hK K
     refine wl_v (x_move (tmT rfl rfl)) ?_
     refine wl_v (x_ext (tmT rfl rfl) rfl) ?_
     refine wl_v (x_ext (tmT rfl rfl) rfl) ?_
     refine wl_v (x_ext (tmT rfl rfl) rfl) ?_
     refine wl_v (x_ext (tmT rfl rfl) rfl) ?_
     refine wl_v (x_assign (tmI rfl rfl)) ?_
     refine wl_v (x_assign (tmI rfl rfl)) ?_
     refine wl_v (x_assign (tmI rfl rfl)) ?_
     refine wl_v (x_assign (tmI rfl rfl)) ?_
     refine wl_nil ?_
     refine then_n (hK5 _ _ ?_); clear hK5 K5
     refine wp_seq_k ?_; intro K6 hK6
     refine wlit ?_
     refine wl_v (x_fa 0 Try.underlying88 rfl rfl ts_3 (tmP rfl rfl)) ?_
     first
      | refine wl_v (x_load Try.underlying3 rfl (tmP rfl rfl) (cellB hS.ok 0 rfl rfl)) ?_
      | refine wl_v (x_load Try.underlying3 rfl (tmP rfl rfl) (cellB hS.ok 0 rfl (getm (by omega)))) ?_
     refine wl_v (x_move (tmI rfl rfl)) ?_
     refine wl_v (x_eql (tmI rfl rfl) (tmI rfl rfl)) ?_
     refine wl_v (x_move (tmB rfl rfl)) ?_
     refine gs_wls (tm (t := 39) rfl) (fun hg5_4 => ?_) (fun hg5_4 => ?_)
     · exfalso
       simp at hg5_4
     have hg5_4' := hg5_4; (try simp only [nrm] at hg5_4'); try (exfalso; first | with_reducible exact absurd hg5_4 Bool.false_ne_true | with_reducible exact absurd hg5_4.symm Bool.false_ne_true | omega | (simp at hg5_4; done))
     all_goals
      refine wl_gv (want_y rfl rfl rfl rfl (by rw [hg5_4]; rfl)) (x_fa 1 Try.underlying88 rfl rfl ts_3 (tmP rfl rfl)) ?_
      first
       | refine wl_gv (want_y rfl rfl rfl rfl (by rw [hg5_4]; rfl)) (x_load Try.underlying3 rfl (tmP rfl rfl) (cellB hS.ok 0 rfl rfl)) ?_
       | refine wl_gv (want_y rfl rfl rfl rfl (by rw [hg5_4]; rfl)) (x_load Try.underlying3 rfl (tmP rfl rfl) (cellB hS.ok 0 rfl (getm (by omega)))) ?_
      refine wl_gv (want_y rfl rfl rfl rfl (by rw [hg5_4]; rfl)) (x_move (tmI rfl rfl)) ?_
      refine wl_gv (want_y rfl rfl rfl rfl (by rw [hg5_4]; rfl)) (x_eql (tmI rfl rfl) (tmI rfl rfl)) ?_
      refine wl_v (x_pickT (tmB rfl rfl) hg5_4 (tmB rfl rfl)) ?_
      refine wl_v (x_move (tmB rfl rfl)) ?_
      refine gs_wls (tm (t := 45) rfl) (fun hg5_10 => ?_) (fun hg5_10 => ?_)
      · exfalso
        simp at hg5_10
      have hg5_10' := hg5_10; (try simp only [nrm] at hg5_10'); try (exfalso; first | with_reducible exact absurd hg5_10 Bool.false_ne_true | with_reducible exact absurd hg5_10.symm Bool.false_ne_true | omega | (simp at hg5_10; done))
      all_goals
       refine wl_gv (want_y rfl rfl rfl rfl (by rw [hg5_10]; rfl)) (x_move (tmI rfl rfl)) ?_
       refine wl_gv (want_y rfl rfl rfl rfl (by rw [hg5_10]; rfl)) (x_move (tmI rfl rfl)) ?_
       refine wl_gv (want_y rfl rfl rfl rfl (by rw [hg5_10]; rfl)) (x_eql (tmI rfl rfl) (tmI rfl rfl)) ?_
       refine wl_v (x_pickT (tmB rfl rfl) hg5_10 (tmB rfl rfl)) ?_
       refine wl_v (x_move (tmB rfl rfl)) ?_
       refine gs_wls (tm (t := 50) rfl) (fun hg5_15 => ?_) (fun hg5_15 => ?_)
       · exfalso
         simp at hg5_15
       have hg5_15' := hg5_15; (try simp only [nrm] at hg5_15'); try (exfalso; first | with_reducible exact absurd hg5_15 Bool.false_ne_true | with_reducible exact absurd hg5_15.symm Bool.false_ne_true | omega | (simp at hg5_15; done))
       all_goals
        refine wl_gv (want_y rfl rfl rfl rfl (by rw [hg5_15]; rfl)) (x_move (tmI rfl rfl)) ?_
        refine wl_gv (want_y rfl rfl rfl rfl (by rw [hg5_15]; rfl)) (x_move (tmI rfl rfl)) ?_
        refine wl_gv (want_y rfl rfl rfl rfl (by rw [hg5_15]; rfl)) (x_eql (tmI rfl rfl) (tmI rfl rfl)) ?_
        refine wl_v (x_pickT (tmB rfl rfl) hg5_15 (tmB rfl rfl)) ?_
        refine wl_v (x_move (tmB rfl rfl)) ?_
        refine gs_wls (tm (t := 55) rfl) (fun hg5_20 => ?_) (fun hg5_20 => ?_)
        · exfalso
          simp at hg5_20
        have hg5_20' := hg5_20; (try simp only [nrm] at hg5_20'); try (exfalso; first | with_reducible exact absurd hg5_20 Bool.false_ne_true | with_reducible exact absurd hg5_20.symm Bool.false_ne_true | omega | (simp at hg5_20; done))
        all_goals
         refine wl_g (want_y rfl rfl rfl rfl (by rw [hg5_20]; rfl)) ?_; intro K hK
         refine ow_call Try.func49 rfl rfl (evs_nil) (law13_awake_c _) ?_
         rintro e w ⟨rfl, hk⟩
         refine ⟨_, rfl, ?_⟩
         replace hS := hS.kept hk
         clear hk
         refine hK _ _ ?_; clear hK K
         refine wl_v (x_pickT (tmB rfl rfl) hg5_20 (tmB rfl rfl)) ?_
         refine wl_v (x_assign (tmB rfl rfl)) ?_
         refine wl_nil ?_
         refine then_n (hK6 _ _ ?_); clear hK6 K6
         refine wp_ret ?_
         refine ret1 rfl (.tmp rfl (show _ = Value.bool _ from rfl)) ?_
         exact ⟨rfl, hS.kp.below⟩
set_option maxRecDepth 100000 in
theorem walk (v : Value) (A : Option Addr) (n c : Nat) (l : List Nat) (w0 : World) {H : Type} {enc : TypeId × Value → H} {r : Reach} {b0 : Nat} {d : DataW H} {ps : List MemPlace} (hval : Value.okWide Try.prog w0 r b0 66 v) (hd : DataW.Trod enc Try.prog w0 0 (fun _ => true) true 66 v d ps) (hlt : ∀ p ∈ ps, p.block < w0.heap.size)
    (r1 : l.length = n ∧ (A = none → c = 0) ∧ BView w0 w0.heap.size A l ∧ n ≤ c) :
    Calls Try.prog 10 #[v, .slice A n c] w0 fun e w' => e = .returned (.bool true) ∧ Below w0.heap.size w0 w' := by
  obtain ⟨s, rfl, hs⟩ := RRing.open_a hval hd hlt
  obtain ⟨k, u⟩ := s
  obtain ⟨hl, _, ⟨hb, hv⟩, hc⟩ := r1
  exact walkC k u A n c l w0 hs.1 hs.2 hv hl hc hb
end CidReads
end Go.Proofs.Ytilgolflpdpfnaa
