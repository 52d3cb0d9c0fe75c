/- Proved: RingKeeps returns true for every ring, and changes no memory that was there. Conditions: none. -/
import Derived.Test.YtilgolflpdpfnaaRingA
namespace Go.Proofs.Ytilgolflpdpfnaa
open Go.ChangeShapes Go.WideShapes Go.ChangeAt Go.RowKit
namespace RingKeeps
theorem at_now (k : Nat → Nat) (u : Nat) : atK k u ((u % 2 : Nat) : Int) = derF k u ∧ atB u ((u % 2 : Nat) : Int) = true := at1 rfl
theorem at_next (k : Nat → Nat) (u : Nat) : atK k (u + 1) ((u % 2 : Nat) : Int) = derF k u ∧ atB (u + 1) ((u % 2 : Nat) : Int) = true := by
  have h := at2 (k := k) (u := u + 1) (bit := ((u % 2 : Nat) : Int)) (by omega) (by omega) (by omega)
  rwa [Nat.add_sub_cancel] at h
set_option maxRecDepth 100000 in
set_option maxHeartbeats 4000000 in
theorem walkC (k : Nat → Nat) (u : Nat) (w0 : World) (hkb : Bytes (kL k)) (hu : u < 18446744073709551616) :
    Calls Try.prog 8 #[.agg (rgC k u).toArray] w0 fun e w' => e = .returned (.bool true) ∧ Below w0.heap.size w0 w' := by
  have hS := St.sv w0
  have hA := fun w => ring_at_c k u ((u % 2 : Nat) : Int) w hkb (by omega)
  rw [(at_now k u).1, (at_now k u).2] at hA
  refine ent (n := 44) Try.func8 rfl rfl ?_
  refine wp_seq_k ?_; intro K1 hK1
  refine wlit ?_
  refine wl_e rfl ?_; intro K hK
  refine ow_box hS (tmA rfl rfl) rfl ?_
  clear hS; intro g0_0 w hg0_0 hS
  refine hK _ _ ?_; clear hK K
  refine wl_v (x_assign ev_c) ?_
  refine wl_nil ?_
  refine then_n (hK1 _ _ ?_); clear hK1 K1
  refine wp_seq_k ?_; intro K2 hK2
  refine wlit ?_
  refine wl_v (x_fa 0 Try.underlying66 rfl rfl ts_64 (tmP rfl rfl)) ?_
  refine wl_v (x_loadA (cs := [_, _, _, _, _, _, _, _, _, _, _, _, _, _, _, _]) Try.underlying64 rfl ts_64 (tmP rfl rfl) (rangeB hS.ok 0 rfl rfl)) ?_
  refine wl_v (x_fa 16 Try.underlying66 rfl rfl ts_24 (tmP rfl rfl)) ?_
  first
   | refine wl_v (x_load Try.underlying24 rfl (tmP rfl rfl) (cellB hS.ok 0 rfl rfl)) ?_
   | refine wl_v (x_load Try.underlying24 rfl (tmP rfl rfl) (cellB hS.ok 0 rfl (getm (by omega)))) ?_
  refine wl_e rfl ?_; intro K hK
  refine ow_call Try.func36 rfl rfl (evs_cons (tmA rfl rfl) <| evs_cons (tmI rfl rfl) <| evs_nil) (ring_new_c k u _) ?_
  rintro e w ⟨rfl, hk⟩
  refine ⟨_, rfl, ?_⟩
  replace hS := hS.kept hk
  clear hk
  refine hK _ _ ?_; clear hK K
  refine wl_e rfl ?_; intro K hK
  refine ow_alloc hS tz_69 rfl ?_
  clear hS; intro g1_5 w hg1_5 hS
  refine hK _ _ ?_; clear hK K
  refine wl_e rfl ?_; intro K hK
  refine ow_storeA hS 0 rfl ts_69 (tmP rfl rfl) (tmA rfl rfl) rfl rfl rfl ?_
  clear hS; intro w hS
  try replace hS := St.nm (M' := [.blk _ _ [_, _, _, _, _, _, _, _, _, _, _, _, _, _, _, _, _], .blk _ _ [_, _, _, _, _, _, _, _, _, _, _, _, _, _, _, _, _], _]) hS rfl
  refine hK _ _ ?_; clear hK K
  refine wl_nil ?_
  refine then_n (hK2 _ _ ?_); clear hK2 K2
  refine wp_seq_k ?_; intro K3 hK3
  refine wp_seq_k ?_; intro K4 hK4
  refine wlit ?_
  refine wl_v (x_fa 16 Try.underlying66 rfl rfl ts_24 (tmP rfl rfl)) ?_
  first
   | refine wl_v (x_load Try.underlying24 rfl (tmP rfl rfl) (cellB hS.ok 1 rfl rfl)) ?_
   | refine wl_v (x_load Try.underlying24 rfl (tmP rfl rfl) (cellB hS.ok 1 rfl (getm (by omega)))) ?_
  refine wl_v (x_eql (tmI rfl rfl) (ev_cN 18446744073709551615)) ?_
  refine wl_nil ?_
  refine then_n (hK4 _ _ ?_); clear hK4 K4
  refine cnd (tm rfl) (fun hc0 => ?_) (fun hc0 => ?_)
  · try (exfalso; first | with_reducible exact absurd hc0 Bool.false_ne_true | with_reducible exact absurd hc0.symm Bool.false_ne_true | (simp only [nrm] at hc0; omega) | (simp at hc0; done))
    all_goals
     try simp only [nrm] at hc0
     refine wp_seq_k ?_; intro K5 hK5
     refine wlit ?_
     refine wl_e rfl ?_; intro K hK
     refine ow_call Try.func42 rfl rfl (evs_nil) (law11_awake_c _) ?_
     rintro e w ⟨rfl, hk⟩
     refine ⟨_, rfl, ?_⟩
     replace hS := hS.kept hk
     clear hk
     refine hK _ _ ?_; clear hK K
     refine wl_v (x_assign (tmB rfl rfl)) ?_
     refine wl_nil ?_
     refine then_n (hK5 _ _ ?_); clear hK5 K5
     refine wp_ret ?_
     refine then_r ?_
     refine ret1 rfl (.tmp rfl (show _ = Value.bool _ from rfl)) ?_
     exact ⟨rfl, hS.kp.below⟩
  try (exfalso; first | with_reducible exact absurd hc0 Bool.false_ne_true | with_reducible exact absurd hc0.symm Bool.false_ne_true | (simp only [nrm] at hc0; omega) | (simp at hc0; done))
  all_goals
   try simp only [nrm] at hc0
   have hu1 : (u + 1) % 2 ^ 64 = u + 1 := by omega
   have hN := fun w => ring_next_c k u w
   rw [hu1] at hN
   have hB := fun w => ring_at_c k (u + 1) ((u % 2 : Nat) : Int) w hkb (by omega)
   rw [(at_next k u).1, (at_next k u).2] at hB
   refine wp_skip ?_
   refine then_n (hK3 _ _ ?_); clear hK3 K3
   refine wp_seq_k ?_; intro K6 hK6
   refine rg_startk 0 hS mixed_ ?_
   clear hS; intro w hS
   refine rg_take 0 rfl rfl (by kernel_rfl) (by kernel_rfl) (by kernel_rfl) (want_0) (fun w hok => x_loadA (cs := [_, _, _, _, _, _, _, _, _, _, _, _, _, _, _, _, _]) Try.underlying69 rfl ts_69 (tmP rfl rfl) (rangeB hok 0 rfl rfl)) ?_
   refine rg_take 1 rfl rfl (by kernel_rfl) (by kernel_rfl) (by kernel_rfl) (want_0) (fun w hok => x_loadA (cs := [_, _, _, _, _, _, _, _, _, _, _, _, _, _, _, _, _]) Try.underlying69 rfl ts_69 (tmP rfl rfl) (rangeB hok 0 rfl rfl)) ?_
   refine rg_step2 2 7 rfl rfl (by kernel_rfl) (want_0) (want_0) (oks_drop hS 0 rfl) ?_ ?_
   · intro K hK
     refine ow_call Try.func40 rfl rfl (evs_cons (tmA rfl rfl) <| evs_nil) (ring_bit_c k u _) ?_
     rintro e w ⟨rfl, hk⟩
     refine ⟨_, rfl, ?_⟩
     replace hS := hS.kept hk
     clear hk
     refine hK _ _ ?_; clear hK K
     refine rg_step2 3 7 rfl rfl (by kernel_rfl) (want_0) (want_0) (oks_drop hS 0 rfl) ?_ ?_
     · intro K hK
       refine ow_call Try.func37 rfl rfl (evs_cons (tmA rfl rfl) <| evs_cons (tmI rfl rfl) <| evs_nil) (hA _) ?_
       rintro e w ⟨rfl, hk⟩
       refine ⟨_, rfl, ?_⟩
       replace hS := hS.kept hk
       clear hk
       refine hK _ _ ?_; clear hK K
       refine rg_take 4 rfl rfl (by kernel_rfl) (by kernel_rfl) (by kernel_rfl) (want_0) (fun w hok => x_move (tmT rfl rfl)) ?_
       refine rg_take 5 rfl rfl (by kernel_rfl) (by kernel_rfl) (by kernel_rfl) (want_0) (fun w hok => x_ext (tmT rfl rfl) rfl) ?_
       refine rg_take 6 rfl rfl (by kernel_rfl) (by kernel_rfl) (by kernel_rfl) (want_0) (fun w hok => x_ext (tmT rfl rfl) rfl) ?_
       refine rg_step 7 rfl (by kernel_rfl) (want_0) (oks_drop hS 0 rfl) ?_; intro K hK
       refine ow_alloc hS tz_67 rfl ?_
       clear hS; intro g4_7 w hg4_7 hS
       refine hK _ _ ?_; clear hK K
       refine rg_step 8 rfl (by kernel_rfl) (want_0) (oks_drop hS 1 rfl) ?_; intro K hK
       refine ow_storeA hS 0 rfl ts_67 (tmP rfl rfl) (tmA rfl rfl) rfl rfl rfl ?_
       clear hS; intro w hS
       try replace hS := St.nm (M' := [.blk _ _ [_, _, _, _, _, _, _, _, _, _, _, _, _, _, _, _], .blk _ _ [_, _, _, _, _, _, _, _, _, _, _, _, _, _, _, _, _], .blk _ _ [_, _, _, _, _, _, _, _, _, _, _, _, _, _, _, _, _], _]) hS rfl
       refine hK _ _ ?_; clear hK K
       refine rg_take 9 rfl rfl (by kernel_rfl) (by kernel_rfl) (by kernel_rfl) (want_0) (fun w hok => x_assign (tmB rfl rfl)) ?_
       refine rg_done (oks_drop hS 1 rfl) (by kernel_rfl) ?_
       refine then_n (hK6 _ _ ?_); clear hK6 K6
       refine wp_seq_k ?_; intro K7 hK7
       refine rg_startk 0 hS mixed_ ?_
       clear hS; intro w hS
       refine rg_take 0 rfl rfl (by kernel_rfl) (by kernel_rfl) (by kernel_rfl) (want_0) (fun w hok => x_loadA (cs := [_, _, _, _, _, _, _, _, _, _, _, _, _, _, _, _, _]) Try.underlying69 rfl ts_69 (tmP rfl rfl) (rangeB hok 1 rfl rfl)) ?_
       refine rg_take 2 rfl rfl (by kernel_rfl) (by kernel_rfl) (by kernel_rfl) (want_0) (fun w hok => x_loadA (cs := [_, _, _, _, _, _, _, _, _, _, _, _, _, _, _, _, _]) Try.underlying69 rfl ts_69 (tmP rfl rfl) (rangeB hok 1 rfl rfl)) ?_
       refine rg_step2 1 8 rfl rfl (by kernel_rfl) (want_0) (want_0) (oks_drop hS 0 rfl) ?_ ?_
       · intro K hK
         refine ow_call Try.func41 rfl rfl (evs_cons (tmA rfl rfl) <| evs_nil) (hN _) ?_
         rintro e w ⟨rfl, hk⟩
         refine ⟨_, rfl, ?_⟩
         replace hS := hS.kept hk
         clear hk
         refine hK _ _ ?_; clear hK K
         refine rg_step2 3 8 rfl rfl (by kernel_rfl) (want_0) (want_0) (oks_drop hS 0 rfl) ?_ ?_
         · intro K hK
           refine ow_call Try.func40 rfl rfl (evs_cons (tmA rfl rfl) <| evs_nil) (ring_bit_c k u _) ?_
           rintro e w ⟨rfl, hk⟩
           refine ⟨_, rfl, ?_⟩
           replace hS := hS.kept hk
           clear hk
           refine hK _ _ ?_; clear hK K
           refine rg_step2 4 8 rfl rfl (by kernel_rfl) (want_0) (want_0) (oks_drop hS 0 rfl) ?_ ?_
           · intro K hK
             refine ow_call Try.func37 rfl rfl (evs_cons (tmA rfl rfl) <| evs_cons (tmI rfl rfl) <| evs_nil) (hB _) ?_
             rintro e w ⟨rfl, hk⟩
             refine ⟨_, rfl, ?_⟩
             replace hS := hS.kept hk
             clear hk
             refine hK _ _ ?_; clear hK K
             refine rg_take 5 rfl rfl (by kernel_rfl) (by kernel_rfl) (by kernel_rfl) (want_0) (fun w hok => x_move (tmT rfl rfl)) ?_
             refine rg_take 6 rfl rfl (by kernel_rfl) (by kernel_rfl) (by kernel_rfl) (want_0) (fun w hok => x_ext (tmT rfl rfl) rfl) ?_
             refine rg_take 7 rfl rfl (by kernel_rfl) (by kernel_rfl) (by kernel_rfl) (want_0) (fun w hok => x_ext (tmT rfl rfl) rfl) ?_
             refine rg_step 8 rfl (by kernel_rfl) (want_0) (oks_drop hS 0 rfl) ?_; intro K hK
             refine ow_alloc hS tz_67 rfl ?_
             clear hS; intro g5_8 w hg5_8 hS
             refine hK _ _ ?_; clear hK K
             refine rg_step 9 rfl (by kernel_rfl) (want_0) (oks_drop hS 1 rfl) ?_; intro K hK
             refine ow_storeA hS 0 rfl ts_67 (tmP rfl rfl) (tmA rfl rfl) rfl rfl rfl ?_
             clear hS; intro w hS
             try replace hS := St.nm (M' := [.blk _ _ [_, _, _, _, _, _, _, _, _, _, _, _, _, _, _, _], .blk _ _ [_, _, _, _, _, _, _, _, _, _, _, _, _, _, _, _], .blk _ _ [_, _, _, _, _, _, _, _, _, _, _, _, _, _, _, _, _], .blk _ _ [_, _, _, _, _, _, _, _, _, _, _, _, _, _, _, _, _], _]) hS rfl
             refine hK _ _ ?_; clear hK K
             refine rg_take 10 rfl rfl (by kernel_rfl) (by kernel_rfl) (by kernel_rfl) (want_0) (fun w hok => x_assign (tmB rfl rfl)) ?_
             refine rg_done (oks_drop hS 1 rfl) (by kernel_rfl) ?_
             refine then_n (hK7 _ _ ?_); clear hK7 K7
             refine wp_seq_k ?_; intro K8 hK8
             refine wlit ?_
             refine wl_v (x_move (tmB rfl rfl)) ?_
             refine wl_v (x_move (tmB rfl rfl)) ?_
             refine gs_wls (tm (t := 33) rfl) (fun hg6_1 => ?_) (fun hg6_1 => ?_)
             · exfalso
               simp at hg6_1
             have hg6_1' := hg6_1; (try simp only [nrm] at hg6_1'); try (exfalso; first | with_reducible exact absurd hg6_1 Bool.false_ne_true | with_reducible exact absurd hg6_1.symm Bool.false_ne_true | omega | (simp at hg6_1; done))
             all_goals
              refine wl_gv (want_y rfl rfl rfl rfl (by rw [hg6_1]; rfl)) (x_move (tmB rfl rfl)) ?_
              refine wl_v (x_pickT (tmB rfl rfl) hg6_1 (tmB rfl rfl)) ?_
              refine wl_v (x_move (tmB rfl rfl)) ?_
              refine gs_wls (tm (t := 36) rfl) (fun hg6_4 => ?_) (fun hg6_4 => ?_)
              · exfalso
                simp at hg6_4
              have hg6_4' := hg6_4; (try simp only [nrm] at hg6_4'); try (exfalso; first | with_reducible exact absurd hg6_4 Bool.false_ne_true | with_reducible exact absurd hg6_4.symm Bool.false_ne_true | omega | (simp at hg6_4; done))
              all_goals
               refine wl_gv (want_y rfl rfl rfl rfl (by rw [hg6_4]; rfl)) (x_loadA (cs := [_, _, _, _, _, _, _, _, _, _, _, _, _, _, _, _]) Try.underlying67 rfl ts_67 (tmP rfl rfl) (rangeB hS.ok 1 rfl rfl)) ?_
               refine wl_gv (want_y rfl rfl rfl rfl (by rw [hg6_4]; rfl)) (x_loadA (cs := [_, _, _, _, _, _, _, _, _, _, _, _, _, _, _, _]) Try.underlying67 rfl ts_67 (tmP rfl rfl) (rangeB hS.ok 0 rfl rfl)) ?_
               refine wl_gv (want_y rfl rfl rfl rfl (by rw [hg6_4]; rfl)) (x_Aeql (by kernel_rfl) (tmA rfl rfl) (tmA rfl rfl) (eqv_k16 Try.underlying67 (by kernel_rfl) Try.underlying5 (by kernel_rfl) (by kernel_rfl))) ?_
               refine wl_v (x_pickT (tmB rfl rfl) hg6_4 (tmB rfl rfl)) ?_
               refine wl_v (x_move (tmB rfl rfl)) ?_
               refine gs_wls (tm (t := 41) rfl) (fun hg6_9 => ?_) (fun hg6_9 => ?_)
               · exfalso
                 simp at hg6_9
               have hg6_9' := hg6_9; (try simp only [nrm] at hg6_9'); try (exfalso; first | with_reducible exact absurd hg6_9 Bool.false_ne_true | with_reducible exact absurd hg6_9.symm Bool.false_ne_true | omega | (simp at hg6_9; done))
               all_goals
                refine wl_g (want_y rfl rfl rfl rfl (by rw [hg6_9]; rfl)) ?_; intro K hK
                refine ow_call Try.func42 rfl rfl (evs_nil) (law11_awake_c _) ?_
                rintro e w ⟨rfl, hk⟩
                refine ⟨_, rfl, ?_⟩
                replace hS := hS.kept hk
                clear hk
                refine hK _ _ ?_; clear hK K
                refine wl_v (x_pickT (tmB rfl rfl) hg6_9 (tmB rfl rfl)) ?_
                refine wl_v (x_assign (tmB rfl rfl)) ?_
                refine wl_nil ?_
                refine then_n (hK8 _ _ ?_); clear hK8 K8
                refine wp_ret ?_
                refine ret1 rfl (.tmp rfl (show _ = Value.bool _ from rfl)) ?_
                exact ⟨rfl, hS.kp.below⟩
           · intro K hK
             refine ow_alloc hS tz_67 rfl ?_
             clear hS; intro g5_8 w hg5_8 hS
             refine hK _ _ ?_; clear hK K
             refine rg_step 4 rfl (by kernel_rfl) (want_0) (oks_drop hS 1 rfl) ?_; intro K hK
             refine ow_call Try.func37 rfl rfl (evs_cons (tmA rfl rfl) <| evs_cons (tmI rfl rfl) <| evs_nil) (hB _) ?_
             rintro e w ⟨rfl, hk⟩
             refine ⟨_, rfl, ?_⟩
             replace hS := hS.kept hk
             clear hk
             refine hK _ _ ?_; clear hK K
             refine rg_take 5 rfl rfl (by kernel_rfl) (by kernel_rfl) (by kernel_rfl) (want_0) (fun w hok => x_move (tmT rfl rfl)) ?_
             refine rg_take 6 rfl rfl (by kernel_rfl) (by kernel_rfl) (by kernel_rfl) (want_0) (fun w hok => x_ext (tmT rfl rfl) rfl) ?_
             refine rg_take 7 rfl rfl (by kernel_rfl) (by kernel_rfl) (by kernel_rfl) (want_0) (fun w hok => x_ext (tmT rfl rfl) rfl) ?_
             refine rg_step 9 rfl (by kernel_rfl) (want_0) (oks_drop hS 1 rfl) ?_; intro K hK
             refine ow_storeA hS 0 rfl ts_67 (tmP rfl rfl) (tmA rfl rfl) rfl rfl rfl ?_
             clear hS; intro w hS
             try replace hS := St.nm (M' := [.blk _ _ [_, _, _, _, _, _, _, _, _, _, _, _, _, _, _, _], .blk _ _ [_, _, _, _, _, _, _, _, _, _, _, _, _, _, _, _], .blk _ _ [_, _, _, _, _, _, _, _, _, _, _, _, _, _, _, _, _], .blk _ _ [_, _, _, _, _, _, _, _, _, _, _, _, _, _, _, _, _], _]) hS rfl
             refine hK _ _ ?_; clear hK K
             refine rg_take 10 rfl rfl (by kernel_rfl) (by kernel_rfl) (by kernel_rfl) (want_0) (fun w hok => x_assign (tmB rfl rfl)) ?_
             refine rg_done (oks_drop hS 1 rfl) (by kernel_rfl) ?_
             refine then_n (hK7 _ _ ?_); clear hK7 K7
             refine wp_seq_k ?_; intro K9 hK9
             refine wlit ?_
             refine wl_v (x_move (tmB rfl rfl)) ?_
             refine wl_v (x_move (tmB rfl rfl)) ?_
             refine gs_wls (tm (t := 33) rfl) (fun hg6_1 => ?_) (fun hg6_1 => ?_)
             · exfalso
               simp at hg6_1
             have hg6_1' := hg6_1; (try simp only [nrm] at hg6_1'); try (exfalso; first | with_reducible exact absurd hg6_1 Bool.false_ne_true | with_reducible exact absurd hg6_1.symm Bool.false_ne_true | omega | (simp at hg6_1; done))
             all_goals
              refine wl_gv (want_y rfl rfl rfl rfl (by rw [hg6_1]; rfl)) (x_move (tmB rfl rfl)) ?_
              refine wl_v (x_pickT (tmB rfl rfl) hg6_1 (tmB rfl rfl)) ?_
              refine wl_v (x_move (tmB rfl rfl)) ?_
              refine gs_wls (tm (t := 36) rfl) (fun hg6_4 => ?_) (fun hg6_4 => ?_)
              · exfalso
                simp at hg6_4
              have hg6_4' := hg6_4; (try simp only [nrm] at hg6_4'); try (exfalso; first | with_reducible exact absurd hg6_4 Bool.false_ne_true | with_reducible exact absurd hg6_4.symm Bool.false_ne_true | omega | (simp at hg6_4; done))
              all_goals
               refine wl_gv (want_y rfl rfl rfl rfl (by rw [hg6_4]; rfl)) (x_loadA (cs := [_, _, _, _, _, _, _, _, _, _, _, _, _, _, _, _]) Try.underlying67 rfl ts_67 (tmP rfl rfl) (rangeB hS.ok 1 rfl rfl)) ?_
               refine wl_gv (want_y rfl rfl rfl rfl (by rw [hg6_4]; rfl)) (x_loadA (cs := [_, _, _, _, _, _, _, _, _, _, _, _, _, _, _, _]) Try.underlying67 rfl ts_67 (tmP rfl rfl) (rangeB hS.ok 0 rfl rfl)) ?_
               refine wl_gv (want_y rfl rfl rfl rfl (by rw [hg6_4]; rfl)) (x_Aeql (by kernel_rfl) (tmA rfl rfl) (tmA rfl rfl) (eqv_k16 Try.underlying67 (by kernel_rfl) Try.underlying5 (by kernel_rfl) (by kernel_rfl))) ?_
               refine wl_v (x_pickT (tmB rfl rfl) hg6_4 (tmB rfl rfl)) ?_
               refine wl_v (x_move (tmB rfl rfl)) ?_
               refine gs_wls (tm (t := 41) rfl) (fun hg6_9 => ?_) (fun hg6_9 => ?_)
               · exfalso
                 simp at hg6_9
               have hg6_9' := hg6_9; (try simp only [nrm] at hg6_9'); try (exfalso; first | with_reducible exact absurd hg6_9 Bool.false_ne_true | with_reducible exact absurd hg6_9.symm Bool.false_ne_true | omega | (simp at hg6_9; done))
               all_goals
                refine wl_g (want_y rfl rfl rfl rfl (by rw [hg6_9]; rfl)) ?_; intro K hK
                refine ow_call Try.func42 rfl rfl (evs_nil) (law11_awake_c _) ?_
                rintro e w ⟨rfl, hk⟩
                refine ⟨_, rfl, ?_⟩
                replace hS := hS.kept hk
                clear hk
                refine hK _ _ ?_; clear hK K
                refine wl_v (x_pickT (tmB rfl rfl) hg6_9 (tmB rfl rfl)) ?_
                refine wl_v (x_assign (tmB rfl rfl)) ?_
                refine wl_nil ?_
                refine then_n (hK9 _ _ ?_); clear hK9 K9
                refine wp_ret ?_
                refine ret1 rfl (.tmp rfl (show _ = Value.bool _ from rfl)) ?_
                exact ⟨rfl, hS.kp.below⟩
         · intro K hK
           refine ow_alloc hS tz_67 rfl ?_
           clear hS; intro g5_8 w hg5_8 hS
           refine hK _ _ ?_; clear hK K
           refine rg_step 3 rfl (by kernel_rfl) (want_0) (oks_drop hS 1 rfl) ?_; intro K hK
           refine ow_call Try.func40 rfl rfl (evs_cons (tmA rfl rfl) <| evs_nil) (ring_bit_c k u _) ?_
           rintro e w ⟨rfl, hk⟩
           refine ⟨_, rfl, ?_⟩
           replace hS := hS.kept hk
           clear hk
           refine hK _ _ ?_; clear hK K
           refine rg_step 4 rfl (by kernel_rfl) (want_0) (oks_drop hS 1 rfl) ?_; intro K hK
           refine ow_call Try.func37 rfl rfl (evs_cons (tmA rfl rfl) <| evs_cons (tmI rfl rfl) <| evs_nil) (hB _) ?_
           rintro e w ⟨rfl, hk⟩
           refine ⟨_, rfl, ?_⟩
           replace hS := hS.kept hk
           clear hk
           refine hK _ _ ?_; clear hK K
           refine rg_take 5 rfl rfl (by kernel_rfl) (by kernel_rfl) (by kernel_rfl) (want_0) (fun w hok => x_move (tmT rfl rfl)) ?_
           refine rg_take 6 rfl rfl (by kernel_rfl) (by kernel_rfl) (by kernel_rfl) (want_0) (fun w hok => x_ext (tmT rfl rfl) rfl) ?_
           refine rg_take 7 rfl rfl (by kernel_rfl) (by kernel_rfl) (by kernel_rfl) (want_0) (fun w hok => x_ext (tmT rfl rfl) rfl) ?_
           refine rg_step 9 rfl (by kernel_rfl) (want_0) (oks_drop hS 1 rfl) ?_; intro K hK
           refine ow_storeA hS 0 rfl ts_67 (tmP rfl rfl) (tmA rfl rfl) rfl rfl rfl ?_
           clear hS; intro w hS
           try replace hS := St.nm (M' := [.blk _ _ [_, _, _, _, _, _, _, _, _, _, _, _, _, _, _, _], .blk _ _ [_, _, _, _, _, _, _, _, _, _, _, _, _, _, _, _], .blk _ _ [_, _, _, _, _, _, _, _, _, _, _, _, _, _, _, _, _], .blk _ _ [_, _, _, _, _, _, _, _, _, _, _, _, _, _, _, _, _], _]) hS rfl
           refine hK _ _ ?_; clear hK K
           refine rg_take 10 rfl rfl (by kernel_rfl) (by kernel_rfl) (by kernel_rfl) (want_0) (fun w hok => x_assign (tmB rfl rfl)) ?_
           refine rg_done (oks_drop hS 1 rfl) (by kernel_rfl) ?_
           refine then_n (hK7 _ _ ?_); clear hK7 K7
           refine wp_seq_k ?_; intro K10 hK10
           refine wlit ?_
           refine wl_v (x_move (tmB rfl rfl)) ?_
           refine wl_v (x_move (tmB rfl rfl)) ?_
           refine gs_wls (tm (t := 33) rfl) (fun hg6_1 => ?_) (fun hg6_1 => ?_)
           · exfalso
             simp at hg6_1
           have hg6_1' := hg6_1; (try simp only [nrm] at hg6_1'); try (exfalso; first | with_reducible exact absurd hg6_1 Bool.false_ne_true | with_reducible exact absurd hg6_1.symm Bool.false_ne_true | omega | (simp at hg6_1; done))
           all_goals
            refine wl_gv (want_y rfl rfl rfl rfl (by rw [hg6_1]; rfl)) (x_move (tmB rfl rfl)) ?_
            refine wl_v (x_pickT (tmB rfl rfl) hg6_1 (tmB rfl rfl)) ?_
            refine wl_v (x_move (tmB rfl rfl)) ?_
            refine gs_wls (tm (t := 36) rfl) (fun hg6_4 => ?_) (fun hg6_4 => ?_)
            · exfalso
              simp at hg6_4
            have hg6_4' := hg6_4; (try simp only [nrm] at hg6_4'); try (exfalso; first | with_reducible exact absurd hg6_4 Bool.false_ne_true | with_reducible exact absurd hg6_4.symm Bool.false_ne_true | omega | (simp at hg6_4; done))
            all_goals
             refine wl_gv (want_y rfl rfl rfl rfl (by rw [hg6_4]; rfl)) (x_loadA (cs := [_, _, _, _, _, _, _, _, _, _, _, _, _, _, _, _]) Try.underlying67 rfl ts_67 (tmP rfl rfl) (rangeB hS.ok 1 rfl rfl)) ?_
             refine wl_gv (want_y rfl rfl rfl rfl (by rw [hg6_4]; rfl)) (x_loadA (cs := [_, _, _, _, _, _, _, _, _, _, _, _, _, _, _, _]) Try.underlying67 rfl ts_67 (tmP rfl rfl) (rangeB hS.ok 0 rfl rfl)) ?_
             refine wl_gv (want_y rfl rfl rfl rfl (by rw [hg6_4]; rfl)) (x_Aeql (by kernel_rfl) (tmA rfl rfl) (tmA rfl rfl) (eqv_k16 Try.underlying67 (by kernel_rfl) Try.underlying5 (by kernel_rfl) (by kernel_rfl))) ?_
             refine wl_v (x_pickT (tmB rfl rfl) hg6_4 (tmB rfl rfl)) ?_
             refine wl_v (x_move (tmB rfl rfl)) ?_
             refine gs_wls (tm (t := 41) rfl) (fun hg6_9 => ?_) (fun hg6_9 => ?_)
             · exfalso
               simp at hg6_9
             have hg6_9' := hg6_9; (try simp only [nrm] at hg6_9'); try (exfalso; first | with_reducible exact absurd hg6_9 Bool.false_ne_true | with_reducible exact absurd hg6_9.symm Bool.false_ne_true | omega | (simp at hg6_9; done))
             all_goals
              refine wl_g (want_y rfl rfl rfl rfl (by rw [hg6_9]; rfl)) ?_; intro K hK
              refine ow_call Try.func42 rfl rfl (evs_nil) (law11_awake_c _) ?_
              rintro e w ⟨rfl, hk⟩
              refine ⟨_, rfl, ?_⟩
              replace hS := hS.kept hk
              clear hk
              refine hK _ _ ?_; clear hK K
              refine wl_v (x_pickT (tmB rfl rfl) hg6_9 (tmB rfl rfl)) ?_
              refine wl_v (x_assign (tmB rfl rfl)) ?_
              refine wl_nil ?_
              refine then_n (hK10 _ _ ?_); clear hK10 K10
              refine wp_ret ?_
              refine ret1 rfl (.tmp rfl (show _ = Value.bool _ from rfl)) ?_
              exact ⟨rfl, hS.kp.below⟩
       · intro K hK
         refine ow_alloc hS tz_67 rfl ?_
         clear hS; intro g5_8 w hg5_8 hS
         refine hK _ _ ?_; clear hK K
         refine rg_step 1 rfl (by kernel_rfl) (want_0) (oks_drop hS 1 rfl) ?_; intro K hK
         refine ow_call Try.func41 rfl rfl (evs_cons (tmA rfl rfl) <| evs_nil) (hN _) ?_
         rintro e w ⟨rfl, hk⟩
         refine ⟨_, rfl, ?_⟩
         replace hS := hS.kept hk
         clear hk
         refine hK _ _ ?_; clear hK K
         refine rg_step 3 rfl (by kernel_rfl) (want_0) (oks_drop hS 1 rfl) ?_; intro K hK
         refine ow_call Try.func40 rfl rfl (evs_cons (tmA rfl rfl) <| evs_nil) (ring_bit_c k u _) ?_
         rintro e w ⟨rfl, hk⟩
         refine ⟨_, rfl, ?_⟩
         replace hS := hS.kept hk
         clear hk
         refine hK _ _ ?_; clear hK K
         refine rg_step 4 rfl (by kernel_rfl) (want_0) (oks_drop hS 1 rfl) ?_; intro K hK
         refine ow_call Try.func37 rfl rfl (evs_cons (tmA rfl rfl) <| evs_cons (tmI rfl rfl) <| evs_nil) (hB _) ?_
         rintro e w ⟨rfl, hk⟩
         refine ⟨_, rfl, ?_⟩
         replace hS := hS.kept hk
         clear hk
         refine hK _ _ ?_; clear hK K
         refine rg_take 5 rfl rfl (by kernel_rfl) (by kernel_rfl) (by kernel_rfl) (want_0) (fun w hok => x_move (tmT rfl rfl)) ?_
         refine rg_take 6 rfl rfl (by kernel_rfl) (by kernel_rfl) (by kernel_rfl) (want_0) (fun w hok => x_ext (tmT rfl rfl) rfl) ?_
         refine rg_take 7 rfl rfl (by kernel_rfl) (by kernel_rfl) (by kernel_rfl) (want_0) (fun w hok => x_ext (tmT rfl rfl) rfl) ?_
         refine rg_step 9 rfl (by kernel_rfl) (want_0) (oks_drop hS 1 rfl) ?_; intro K hK
         refine ow_storeA hS 0 rfl ts_67 (tmP rfl rfl) (tmA rfl rfl) rfl rfl rfl ?_
         clear hS; intro w hS
         try replace hS := St.nm (M' := [.blk _ _ [_, _, _, _, _, _, _, _, _, _, _, _, _, _, _, _], .blk _ _ [_, _, _, _, _, _, _, _, _, _, _, _, _, _, _, _], .blk _ _ [_, _, _, _, _, _, _, _, _, _, _, _, _, _, _, _, _], .blk _ _ [_, _, _, _, _, _, _, _, _, _, _, _, _, _, _, _, _], _]) hS rfl
         refine hK _ _ ?_; clear hK K
         refine rg_take 10 rfl rfl (by kernel_rfl) (by kernel_rfl) (by kernel_rfl) (want_0) (fun w hok => x_assign (tmB rfl rfl)) ?_
         refine rg_done (oks_drop hS 1 rfl) (by kernel_rfl) ?_
         refine then_n (hK7 _ _ ?_); clear hK7 K7
         refine wp_seq_k ?_; intro K11 hK11
         refine wlit ?_
         refine wl_v (x_move (tmB rfl rfl)) ?_
         refine wl_v (x_move (tmB rfl rfl)) ?_
         refine gs_wls (tm (t := 33) rfl) (fun hg6_1 => ?_) (fun hg6_1 => ?_)
         · exfalso
           simp at hg6_1
         have hg6_1' := hg6_1; (try simp only [nrm] at hg6_1'); try (exfalso; first | with_reducible exact absurd hg6_1 Bool.false_ne_true | with_reducible exact absurd hg6_1.symm Bool.false_ne_true | omega | (simp at hg6_1; done))
         all_goals
          refine wl_gv (want_y rfl rfl rfl rfl (by rw [hg6_1]; rfl)) (x_move (tmB rfl rfl)) ?_
          refine wl_v (x_pickT (tmB rfl rfl) hg6_1 (tmB rfl rfl)) ?_
          refine wl_v (x_move (tmB rfl rfl)) ?_
          refine gs_wls (tm (t := 36) rfl) (fun hg6_4 => ?_) (fun hg6_4 => ?_)
          · exfalso
            simp at hg6_4
          have hg6_4' := hg6_4; (try simp only [nrm] at hg6_4'); try (exfalso; first | with_reducible exact absurd hg6_4 Bool.false_ne_true | with_reducible exact absurd hg6_4.symm Bool.false_ne_true | omega | (simp at hg6_4; done))
          all_goals
           refine wl_gv (want_y rfl rfl rfl rfl (by rw [hg6_4]; rfl)) (x_loadA (cs := [_, _, _, _, _, _, _, _, _, _, _, _, _, _, _, _]) Try.underlying67 rfl ts_67 (tmP rfl rfl) (rangeB hS.ok 1 rfl rfl)) ?_
           refine wl_gv (want_y rfl rfl rfl rfl (by rw [hg6_4]; rfl)) (x_loadA (cs := [_, _, _, _, _, _, _, _, _, _, _, _, _, _, _, _]) Try.underlying67 rfl ts_67 (tmP rfl rfl) (rangeB hS.ok 0 rfl rfl)) ?_
           refine wl_gv (want_y rfl rfl rfl rfl (by rw [hg6_4]; rfl)) (x_Aeql (by kernel_rfl) (tmA rfl rfl) (tmA rfl rfl) (eqv_k16 Try.underlying67 (by kernel_rfl) Try.underlying5 (by kernel_rfl) (by kernel_rfl))) ?_
           refine wl_v (x_pickT (tmB rfl rfl) hg6_4 (tmB rfl rfl)) ?_
           refine wl_v (x_move (tmB rfl rfl)) ?_
           refine gs_wls (tm (t := 41) rfl) (fun hg6_9 => ?_) (fun hg6_9 => ?_)
           · exfalso
             simp at hg6_9
           have hg6_9' := hg6_9; (try simp only [nrm] at hg6_9'); try (exfalso; first | with_reducible exact absurd hg6_9 Bool.false_ne_true | with_reducible exact absurd hg6_9.symm Bool.false_ne_true | omega | (simp at hg6_9; done))
           all_goals
            refine wl_g (want_y rfl rfl rfl rfl (by rw [hg6_9]; rfl)) ?_; intro K hK
            refine ow_call Try.func42 rfl rfl (evs_nil) (law11_awake_c _) ?_
            rintro e w ⟨rfl, hk⟩
            refine ⟨_, rfl, ?_⟩
            replace hS := hS.kept hk
            clear hk
            refine hK _ _ ?_; clear hK K
            refine wl_v (x_pickT (tmB rfl rfl) hg6_9 (tmB rfl rfl)) ?_
            refine wl_v (x_assign (tmB rfl rfl)) ?_
            refine wl_nil ?_
            refine then_n (hK11 _ _ ?_); clear hK11 K11
            refine wp_ret ?_
            refine ret1 rfl (.tmp rfl (show _ = Value.bool _ from rfl)) ?_
            exact ⟨rfl, hS.kp.below⟩
     · intro K hK
       refine ow_alloc hS tz_67 rfl ?_
       clear hS; intro g4_7 w hg4_7 hS
       refine hK _ _ ?_; clear hK K
       refine rg_step 3 rfl (by kernel_rfl) (want_0) (oks_drop hS 1 rfl) ?_; intro K hK
       refine ow_call Try.func37 rfl rfl (evs_cons (tmA rfl rfl) <| evs_cons (tmI rfl rfl) <| evs_nil) (hA _) ?_
       rintro e w ⟨rfl, hk⟩
       refine ⟨_, rfl, ?_⟩
       replace hS := hS.kept hk
       clear hk
       refine hK _ _ ?_; clear hK K
       refine rg_take 4 rfl rfl (by kernel_rfl) (by kernel_rfl) (by kernel_rfl) (want_0) (fun w hok => x_move (tmT rfl rfl)) ?_
       refine rg_take 5 rfl rfl (by kernel_rfl) (by kernel_rfl) (by kernel_rfl) (want_0) (fun w hok => x_ext (tmT rfl rfl) rfl) ?_
       refine rg_take 6 rfl rfl (by kernel_rfl) (by kernel_rfl) (by kernel_rfl) (want_0) (fun w hok => x_ext (tmT rfl rfl) rfl) ?_
       refine rg_step 8 rfl (by kernel_rfl) (want_0) (oks_drop hS 1 rfl) ?_; intro K hK
       refine ow_storeA hS 0 rfl ts_67 (tmP rfl rfl) (tmA rfl rfl) rfl rfl rfl ?_
       clear hS; intro w hS
       try replace hS := St.nm (M' := [.blk _ _ [_, _, _, _, _, _, _, _, _, _, _, _, _, _, _, _], .blk _ _ [_, _, _, _, _, _, _, _, _, _, _, _, _, _, _, _, _], .blk _ _ [_, _, _, _, _, _, _, _, _, _, _, _, _, _, _, _, _], _]) hS rfl
       refine hK _ _ ?_; clear hK K
       refine rg_take 9 rfl rfl (by kernel_rfl) (by kernel_rfl) (by kernel_rfl) (want_0) (fun w hok => x_assign (tmB rfl rfl)) ?_
       refine rg_done (oks_drop hS 1 rfl) (by kernel_rfl) ?_
       refine then_n (hK6 _ _ ?_); clear hK6 K6
       refine wp_seq_k ?_; intro K12 hK12
       refine rg_startk 0 hS mixed_ ?_
       clear hS; intro w hS
       refine rg_take 0 rfl rfl (by kernel_rfl) (by kernel_rfl) (by kernel_rfl) (want_0) (fun w hok => x_loadA (cs := [_, _, _, _, _, _, _, _, _, _, _, _, _, _, _, _, _]) Try.underlying69 rfl ts_69 (tmP rfl rfl) (rangeB hok 1 rfl rfl)) ?_
       refine rg_take 2 rfl rfl (by kernel_rfl) (by kernel_rfl) (by kernel_rfl) (want_0) (fun w hok => x_loadA (cs := [_, _, _, _, _, _, _, _, _, _, _, _, _, _, _, _, _]) Try.underlying69 rfl ts_69 (tmP rfl rfl) (rangeB hok 1 rfl rfl)) ?_
       refine rg_step2 1 8 rfl rfl (by kernel_rfl) (want_0) (want_0) (oks_drop hS 0 rfl) ?_ ?_
       · intro K hK
         refine ow_call Try.func41 rfl rfl (evs_cons (tmA rfl rfl) <| evs_nil) (hN _) ?_
         rintro e w ⟨rfl, hk⟩
         refine ⟨_, rfl, ?_⟩
         replace hS := hS.kept hk
         clear hk
         refine hK _ _ ?_; clear hK K
         refine rg_step2 3 8 rfl rfl (by kernel_rfl) (want_0) (want_0) (oks_drop hS 0 rfl) ?_ ?_
         · intro K hK
           refine ow_call Try.func40 rfl rfl (evs_cons (tmA rfl rfl) <| evs_nil) (ring_bit_c k u _) ?_
           rintro e w ⟨rfl, hk⟩
           refine ⟨_, rfl, ?_⟩
           replace hS := hS.kept hk
           clear hk
           refine hK _ _ ?_; clear hK K
           refine rg_step2 4 8 rfl rfl (by kernel_rfl) (want_0) (want_0) (oks_drop hS 0 rfl) ?_ ?_
           · intro K hK
             refine ow_call Try.func37 rfl rfl (evs_cons (tmA rfl rfl) <| evs_cons (tmI rfl rfl) <| evs_nil) (hB _) ?_
             rintro e w ⟨rfl, hk⟩
             refine ⟨_, rfl, ?_⟩
             replace hS := hS.kept hk
             clear hk
             refine hK _ _ ?_; clear hK K
             refine rg_take 5 rfl rfl (by kernel_rfl) (by kernel_rfl) (by kernel_rfl) (want_0) (fun w hok => x_move (tmT rfl rfl)) ?_
             refine rg_take 6 rfl rfl (by kernel_rfl) (by kernel_rfl) (by kernel_rfl) (want_0) (fun w hok => x_ext (tmT rfl rfl) rfl) ?_
             refine rg_take 7 rfl rfl (by kernel_rfl) (by kernel_rfl) (by kernel_rfl) (want_0) (fun w hok => x_ext (tmT rfl rfl) rfl) ?_
             refine rg_step 8 rfl (by kernel_rfl) (want_0) (oks_drop hS 0 rfl) ?_; intro K hK
             refine ow_alloc hS tz_67 rfl ?_
             clear hS; intro g5_8 w hg5_8 hS
             refine hK _ _ ?_; clear hK K
             refine rg_step 9 rfl (by kernel_rfl) (want_0) (oks_drop hS 1 rfl) ?_; intro K hK
             refine ow_storeA hS 0 rfl ts_67 (tmP rfl rfl) (tmA rfl rfl) rfl rfl rfl ?_
             clear hS; intro w hS
             try replace hS := St.nm (M' := [.blk _ _ [_, _, _, _, _, _, _, _, _, _, _, _, _, _, _, _], .blk _ _ [_, _, _, _, _, _, _, _, _, _, _, _, _, _, _, _], .blk _ _ [_, _, _, _, _, _, _, _, _, _, _, _, _, _, _, _, _], .blk _ _ [_, _, _, _, _, _, _, _, _, _, _, _, _, _, _, _, _], _]) hS rfl
             refine hK _ _ ?_; clear hK K
             refine rg_take 10 rfl rfl (by kernel_rfl) (by kernel_rfl) (by kernel_rfl) (want_0) (fun w hok => x_assign (tmB rfl rfl)) ?_
             refine rg_done (oks_drop hS 1 rfl) (by kernel_rfl) ?_
             refine then_n (hK12 _ _ ?_); clear hK12 K12
             refine wp_seq_k ?_; intro K13 hK13
             refine wlit ?_
             refine wl_v (x_move (tmB rfl rfl)) ?_
             refine wl_v (x_move (tmB rfl rfl)) ?_
             refine gs_wls (tm (t := 33) rfl) (fun hg6_1 => ?_) (fun hg6_1 => ?_)
             · exfalso
               simp at hg6_1
             have hg6_1' := hg6_1; (try simp only [nrm] at hg6_1'); try (exfalso; first | with_reducible exact absurd hg6_1 Bool.false_ne_true | with_reducible exact absurd hg6_1.symm Bool.false_ne_true | omega | (simp at hg6_1; done))
             all_goals
              refine wl_gv (want_y rfl rfl rfl rfl (by rw [hg6_1]; rfl)) (x_move (tmB rfl rfl)) ?_
              refine wl_v (x_pickT (tmB rfl rfl) hg6_1 (tmB rfl rfl)) ?_
              refine wl_v (x_move (tmB rfl rfl)) ?_
              refine gs_wls (tm (t := 36) rfl) (fun hg6_4 => ?_) (fun hg6_4 => ?_)
              · exfalso
                simp at hg6_4
              have hg6_4' := hg6_4; (try simp only [nrm] at hg6_4'); try (exfalso; first | with_reducible exact absurd hg6_4 Bool.false_ne_true | with_reducible exact absurd hg6_4.symm Bool.false_ne_true | omega | (simp at hg6_4; done))
              all_goals
               refine wl_gv (want_y rfl rfl rfl rfl (by rw [hg6_4]; rfl)) (x_loadA (cs := [_, _, _, _, _, _, _, _, _, _, _, _, _, _, _, _]) Try.underlying67 rfl ts_67 (tmP rfl rfl) (rangeB hS.ok 1 rfl rfl)) ?_
               refine wl_gv (want_y rfl rfl rfl rfl (by rw [hg6_4]; rfl)) (x_loadA (cs := [_, _, _, _, _, _, _, _, _, _, _, _, _, _, _, _]) Try.underlying67 rfl ts_67 (tmP rfl rfl) (rangeB hS.ok 0 rfl rfl)) ?_
               refine wl_gv (want_y rfl rfl rfl rfl (by rw [hg6_4]; rfl)) (x_Aeql (by kernel_rfl) (tmA rfl rfl) (tmA rfl rfl) (eqv_k16 Try.underlying67 (by kernel_rfl) Try.underlying5 (by kernel_rfl) (by kernel_rfl))) ?_
               refine wl_v (x_pickT (tmB rfl rfl) hg6_4 (tmB rfl rfl)) ?_
               refine wl_v (x_move (tmB rfl rfl)) ?_
               refine gs_wls (tm (t := 41) rfl) (fun hg6_9 => ?_) (fun hg6_9 => ?_)
               · exfalso
                 simp at hg6_9
               have hg6_9' := hg6_9; (try simp only [nrm] at hg6_9'); try (exfalso; first | with_reducible exact absurd hg6_9 Bool.false_ne_true | with_reducible exact absurd hg6_9.symm Bool.false_ne_true | omega | (simp at hg6_9; done))
               all_goals
                refine wl_g (want_y rfl rfl rfl rfl (by rw [hg6_9]; rfl)) ?_; intro K hK
                refine ow_call Try.func42 rfl rfl (evs_nil) (law11_awake_c _) ?_
                rintro e w ⟨rfl, hk⟩
                refine ⟨_, rfl, ?_⟩
                replace hS := hS.kept hk
                clear hk
                refine hK _ _ ?_; clear hK K
                refine wl_v (x_pickT (tmB rfl rfl) hg6_9 (tmB rfl rfl)) ?_
                refine wl_v (x_assign (tmB rfl rfl)) ?_
                refine wl_nil ?_
                refine then_n (hK13 _ _ ?_); clear hK13 K13
                refine wp_ret ?_
                refine ret1 rfl (.tmp rfl (show _ = Value.bool _ from rfl)) ?_
                exact ⟨rfl, hS.kp.below⟩
           · intro K hK
             refine ow_alloc hS tz_67 rfl ?_
             clear hS; intro g5_8 w hg5_8 hS
             refine hK _ _ ?_; clear hK K
             refine rg_step 4 rfl (by kernel_rfl) (want_0) (oks_drop hS 1 rfl) ?_; intro K hK
             refine ow_call Try.func37 rfl rfl (evs_cons (tmA rfl rfl) <| evs_cons (tmI rfl rfl) <| evs_nil) (hB _) ?_
             rintro e w ⟨rfl, hk⟩
             refine ⟨_, rfl, ?_⟩
             replace hS := hS.kept hk
             clear hk
             refine hK _ _ ?_; clear hK K
             refine rg_take 5 rfl rfl (by kernel_rfl) (by kernel_rfl) (by kernel_rfl) (want_0) (fun w hok => x_move (tmT rfl rfl)) ?_
             refine rg_take 6 rfl rfl (by kernel_rfl) (by kernel_rfl) (by kernel_rfl) (want_0) (fun w hok => x_ext (tmT rfl rfl) rfl) ?_
             refine rg_take 7 rfl rfl (by kernel_rfl) (by kernel_rfl) (by kernel_rfl) (want_0) (fun w hok => x_ext (tmT rfl rfl) rfl) ?_
             refine rg_step 9 rfl (by kernel_rfl) (want_0) (oks_drop hS 1 rfl) ?_; intro K hK
             refine ow_storeA hS 0 rfl ts_67 (tmP rfl rfl) (tmA rfl rfl) rfl rfl rfl ?_
             clear hS; intro w hS
             try replace hS := St.nm (M' := [.blk _ _ [_, _, _, _, _, _, _, _, _, _, _, _, _, _, _, _], .blk _ _ [_, _, _, _, _, _, _, _, _, _, _, _, _, _, _, _], .blk _ _ [_, _, _, _, _, _, _, _, _, _, _, _, _, _, _, _, _], .blk _ _ [_, _, _, _, _, _, _, _, _, _, _, _, _, _, _, _, _], _]) hS rfl
             refine hK _ _ ?_; clear hK K
             refine rg_take 10 rfl rfl (by kernel_rfl) (by kernel_rfl) (by kernel_rfl) (want_0) (fun w hok => x_assign (tmB rfl rfl)) ?_
             refine rg_done (oks_drop hS 1 rfl) (by kernel_rfl) ?_
             refine then_n (hK12 _ _ ?_); clear hK12 K12
             refine wp_seq_k ?_; intro K14 hK14
             refine wlit ?_
             refine wl_v (x_move (tmB rfl rfl)) ?_
             refine wl_v (x_move (tmB rfl rfl)) ?_
             refine gs_wls (tm (t := 33) rfl) (fun hg6_1 => ?_) (fun hg6_1 => ?_)
             · exfalso
               simp at hg6_1
             have hg6_1' := hg6_1; (try simp only [nrm] at hg6_1'); try (exfalso; first | with_reducible exact absurd hg6_1 Bool.false_ne_true | with_reducible exact absurd hg6_1.symm Bool.false_ne_true | omega | (simp at hg6_1; done))
             all_goals
              refine wl_gv (want_y rfl rfl rfl rfl (by rw [hg6_1]; rfl)) (x_move (tmB rfl rfl)) ?_
              refine wl_v (x_pickT (tmB rfl rfl) hg6_1 (tmB rfl rfl)) ?_
              refine wl_v (x_move (tmB rfl rfl)) ?_
              refine gs_wls (tm (t := 36) rfl) (fun hg6_4 => ?_) (fun hg6_4 => ?_)
              · exfalso
                simp at hg6_4
              have hg6_4' := hg6_4; (try simp only [nrm] at hg6_4'); try (exfalso; first | with_reducible exact absurd hg6_4 Bool.false_ne_true | with_reducible exact absurd hg6_4.symm Bool.false_ne_true | omega | (simp at hg6_4; done))
              all_goals
               refine wl_gv (want_y rfl rfl rfl rfl (by rw [hg6_4]; rfl)) (x_loadA (cs := [_, _, _, _, _, _, _, _, _, _, _, _, _, _, _, _]) Try.underlying67 rfl ts_67 (tmP rfl rfl) (rangeB hS.ok 1 rfl rfl)) ?_
               refine wl_gv (want_y rfl rfl rfl rfl (by rw [hg6_4]; rfl)) (x_loadA (cs := [_, _, _, _, _, _, _, _, _, _, _, _, _, _, _, _]) Try.underlying67 rfl ts_67 (tmP rfl rfl) (rangeB hS.ok 0 rfl rfl)) ?_
               refine wl_gv (want_y rfl rfl rfl rfl (by rw [hg6_4]; rfl)) (x_Aeql (by kernel_rfl) (tmA rfl rfl) (tmA rfl rfl) (eqv_k16 Try.underlying67 (by kernel_rfl) Try.underlying5 (by kernel_rfl) (by kernel_rfl))) ?_
               refine wl_v (x_pickT (tmB rfl rfl) hg6_4 (tmB rfl rfl)) ?_
               refine wl_v (x_move (tmB rfl rfl)) ?_
               refine gs_wls (tm (t := 41) rfl) (fun hg6_9 => ?_) (fun hg6_9 => ?_)
               · exfalso
                 simp at hg6_9
               have hg6_9' := hg6_9; (try simp only [nrm] at hg6_9'); try (exfalso; first | with_reducible exact absurd hg6_9 Bool.false_ne_true | with_reducible exact absurd hg6_9.symm Bool.false_ne_true | omega | (simp at hg6_9; done))
               all_goals
                refine wl_g (want_y rfl rfl rfl rfl (by rw [hg6_9]; rfl)) ?_; intro K hK
                refine ow_call Try.func42 rfl rfl (evs_nil) (law11_awake_c _) ?_
                rintro e w ⟨rfl, hk⟩
                refine ⟨_, rfl, ?_⟩
                replace hS := hS.kept hk
                clear hk
                refine hK _ _ ?_; clear hK K
                refine wl_v (x_pickT (tmB rfl rfl) hg6_9 (tmB rfl rfl)) ?_
                refine wl_v (x_assign (tmB rfl rfl)) ?_
                refine wl_nil ?_
                refine then_n (hK14 _ _ ?_); clear hK14 K14
                refine wp_ret ?_
                refine ret1 rfl (.tmp rfl (show _ = Value.bool _ from rfl)) ?_
                exact ⟨rfl, hS.kp.below⟩
         · intro K hK
           refine ow_alloc hS tz_67 rfl ?_
           clear hS; intro g5_8 w hg5_8 hS
           refine hK _ _ ?_; clear hK K
           refine rg_step 3 rfl (by kernel_rfl) (want_0) (oks_drop hS 1 rfl) ?_; intro K hK
           refine ow_call Try.func40 rfl rfl (evs_cons (tmA rfl rfl) <| evs_nil) (ring_bit_c k u _) ?_
           rintro e w ⟨rfl, hk⟩
           refine ⟨_, rfl, ?_⟩
           replace hS := hS.kept hk
           clear hk
           refine hK _ _ ?_; clear hK K
           refine rg_step 4 rfl (by kernel_rfl) (want_0) (oks_drop hS 1 rfl) ?_; intro K hK
           refine ow_call Try.func37 rfl rfl (evs_cons (tmA rfl rfl) <| evs_cons (tmI rfl rfl) <| evs_nil) (hB _) ?_
           rintro e w ⟨rfl, hk⟩
           refine ⟨_, rfl, ?_⟩
           replace hS := hS.kept hk
           clear hk
           refine hK _ _ ?_; clear hK K
           refine rg_take 5 rfl rfl (by kernel_rfl) (by kernel_rfl) (by kernel_rfl) (want_0) (fun w hok => x_move (tmT rfl rfl)) ?_
           refine rg_take 6 rfl rfl (by kernel_rfl) (by kernel_rfl) (by kernel_rfl) (want_0) (fun w hok => x_ext (tmT rfl rfl) rfl) ?_
           refine rg_take 7 rfl rfl (by kernel_rfl) (by kernel_rfl) (by kernel_rfl) (want_0) (fun w hok => x_ext (tmT rfl rfl) rfl) ?_
           refine rg_step 9 rfl (by kernel_rfl) (want_0) (oks_drop hS 1 rfl) ?_; intro K hK
           refine ow_storeA hS 0 rfl ts_67 (tmP rfl rfl) (tmA rfl rfl) rfl rfl rfl ?_
           clear hS; intro w hS
           try replace hS := St.nm (M' := [.blk _ _ [_, _, _, _, _, _, _, _, _, _, _, _, _, _, _, _], .blk _ _ [_, _, _, _, _, _, _, _, _, _, _, _, _, _, _, _], .blk _ _ [_, _, _, _, _, _, _, _, _, _, _, _, _, _, _, _, _], .blk _ _ [_, _, _, _, _, _, _, _, _, _, _, _, _, _, _, _, _], _]) hS rfl
           refine hK _ _ ?_; clear hK K
           refine rg_take 10 rfl rfl (by kernel_rfl) (by kernel_rfl) (by kernel_rfl) (want_0) (fun w hok => x_assign (tmB rfl rfl)) ?_
           refine rg_done (oks_drop hS 1 rfl) (by kernel_rfl) ?_
           refine then_n (hK12 _ _ ?_); clear hK12 K12
           refine wp_seq_k ?_; intro K15 hK15
           refine wlit ?_
           refine wl_v (x_move (tmB rfl rfl)) ?_
           refine wl_v (x_move (tmB rfl rfl)) ?_
           refine gs_wls (tm (t := 33) rfl) (fun hg6_1 => ?_) (fun hg6_1 => ?_)
           · exfalso
             simp at hg6_1
           have hg6_1' := hg6_1; (try simp only [nrm] at hg6_1'); try (exfalso; first | with_reducible exact absurd hg6_1 Bool.false_ne_true | with_reducible exact absurd hg6_1.symm Bool.false_ne_true | omega | (simp at hg6_1; done))
           all_goals
            refine wl_gv (want_y rfl rfl rfl rfl (by rw [hg6_1]; rfl)) (x_move (tmB rfl rfl)) ?_
            refine wl_v (x_pickT (tmB rfl rfl) hg6_1 (tmB rfl rfl)) ?_
            refine wl_v (x_move (tmB rfl rfl)) ?_
            refine gs_wls (tm (t := 36) rfl) (fun hg6_4 => ?_) (fun hg6_4 => ?_)
            · exfalso
              simp at hg6_4
            have hg6_4' := hg6_4; (try simp only [nrm] at hg6_4'); try (exfalso; first | with_reducible exact absurd hg6_4 Bool.false_ne_true | with_reducible exact absurd hg6_4.symm Bool.false_ne_true | omega | (simp at hg6_4; done))
            all_goals
             refine wl_gv (want_y rfl rfl rfl rfl (by rw [hg6_4]; rfl)) (x_loadA (cs := [_, _, _, _, _, _, _, _, _, _, _, _, _, _, _, _]) Try.underlying67 rfl ts_67 (tmP rfl rfl) (rangeB hS.ok 1 rfl rfl)) ?_
             refine wl_gv (want_y rfl rfl rfl rfl (by rw [hg6_4]; rfl)) (x_loadA (cs := [_, _, _, _, _, _, _, _, _, _, _, _, _, _, _, _]) Try.underlying67 rfl ts_67 (tmP rfl rfl) (rangeB hS.ok 0 rfl rfl)) ?_
             refine wl_gv (want_y rfl rfl rfl rfl (by rw [hg6_4]; rfl)) (x_Aeql (by kernel_rfl) (tmA rfl rfl) (tmA rfl rfl) (eqv_k16 Try.underlying67 (by kernel_rfl) Try.underlying5 (by kernel_rfl) (by kernel_rfl))) ?_
             refine wl_v (x_pickT (tmB rfl rfl) hg6_4 (tmB rfl rfl)) ?_
             refine wl_v (x_move (tmB rfl rfl)) ?_
             refine gs_wls (tm (t := 41) rfl) (fun hg6_9 => ?_) (fun hg6_9 => ?_)
             · exfalso
               simp at hg6_9
             have hg6_9' := hg6_9; (try simp only [nrm] at hg6_9'); try (exfalso; first | with_reducible exact absurd hg6_9 Bool.false_ne_true | with_reducible exact absurd hg6_9.symm Bool.false_ne_true | omega | (simp at hg6_9; done))
             all_goals
              refine wl_g (want_y rfl rfl rfl rfl (by rw [hg6_9]; rfl)) ?_; intro K hK
              refine ow_call Try.func42 rfl rfl (evs_nil) (law11_awake_c _) ?_
              rintro e w ⟨rfl, hk⟩
              refine ⟨_, rfl, ?_⟩
              replace hS := hS.kept hk
              clear hk
              refine hK _ _ ?_; clear hK K
              refine wl_v (x_pickT (tmB rfl rfl) hg6_9 (tmB rfl rfl)) ?_
              refine wl_v (x_assign (tmB rfl rfl)) ?_
              refine wl_nil ?_
              refine then_n (hK15 _ _ ?_); clear hK15 K15
              refine wp_ret ?_
              refine ret1 rfl (.tmp rfl (show _ = Value.bool _ from rfl)) ?_
              exact ⟨rfl, hS.kp.below⟩
       · intro K hK
         refine ow_alloc hS tz_67 rfl ?_
         clear hS; intro g5_8 w hg5_8 hS
         refine hK _ _ ?_; clear hK K
         refine rg_step 1 rfl (by kernel_rfl) (want_0) (oks_drop hS 1 rfl) ?_; intro K hK
         refine ow_call Try.func41 rfl rfl (evs_cons (tmA rfl rfl) <| evs_nil) (hN _) ?_
         rintro e w ⟨rfl, hk⟩
         refine ⟨_, rfl, ?_⟩
         replace hS := hS.kept hk
         clear hk
         refine hK _ _ ?_; clear hK K
         refine rg_step 3 rfl (by kernel_rfl) (want_0) (oks_drop hS 1 rfl) ?_; intro K hK
         refine ow_call Try.func40 rfl rfl (evs_cons (tmA rfl rfl) <| evs_nil) (ring_bit_c k u _) ?_
         rintro e w ⟨rfl, hk⟩
         refine ⟨_, rfl, ?_⟩
         replace hS := hS.kept hk
         clear hk
         refine hK _ _ ?_; clear hK K
         refine rg_step 4 rfl (by kernel_rfl) (want_0) (oks_drop hS 1 rfl) ?_; intro K hK
         refine ow_call Try.func37 rfl rfl (evs_cons (tmA rfl rfl) <| evs_cons (tmI rfl rfl) <| evs_nil) (hB _) ?_
         rintro e w ⟨rfl, hk⟩
         refine ⟨_, rfl, ?_⟩
         replace hS := hS.kept hk
         clear hk
         refine hK _ _ ?_; clear hK K
         refine rg_take 5 rfl rfl (by kernel_rfl) (by kernel_rfl) (by kernel_rfl) (want_0) (fun w hok => x_move (tmT rfl rfl)) ?_
         refine rg_take 6 rfl rfl (by kernel_rfl) (by kernel_rfl) (by kernel_rfl) (want_0) (fun w hok => x_ext (tmT rfl rfl) rfl) ?_
         refine rg_take 7 rfl rfl (by kernel_rfl) (by kernel_rfl) (by kernel_rfl) (want_0) (fun w hok => x_ext (tmT rfl rfl) rfl) ?_
         refine rg_step 9 rfl (by kernel_rfl) (want_0) (oks_drop hS 1 rfl) ?_; intro K hK
         refine ow_storeA hS 0 rfl ts_67 (tmP rfl rfl) (tmA rfl rfl) rfl rfl rfl ?_
         clear hS; intro w hS
         try replace hS := St.nm (M' := [.blk _ _ [_, _, _, _, _, _, _, _, _, _, _, _, _, _, _, _], .blk _ _ [_, _, _, _, _, _, _, _, _, _, _, _, _, _, _, _], .blk _ _ [_, _, _, _, _, _, _, _, _, _, _, _, _, _, _, _, _], .blk _ _ [_, _, _, _, _, _, _, _, _, _, _, _, _, _, _, _, _], _]) hS rfl
         refine hK _ _ ?_; clear hK K
         refine rg_take 10 rfl rfl (by kernel_rfl) (by kernel_rfl) (by kernel_rfl) (want_0) (fun w hok => x_assign (tmB rfl rfl)) ?_
         refine rg_done (oks_drop hS 1 rfl) (by kernel_rfl) ?_
         refine then_n (hK12 _ _ ?_); clear hK12 K12
         refine wp_seq_k ?_; intro K16 hK16
         refine wlit ?_
         refine wl_v (x_move (tmB rfl rfl)) ?_
         refine wl_v (x_move (tmB rfl rfl)) ?_
         refine gs_wls (tm (t := 33) rfl) (fun hg6_1 => ?_) (fun hg6_1 => ?_)
         · exfalso
           simp at hg6_1
         have hg6_1' := hg6_1; (try simp only [nrm] at hg6_1'); try (exfalso; first | with_reducible exact absurd hg6_1 Bool.false_ne_true | with_reducible exact absurd hg6_1.symm Bool.false_ne_true | omega | (simp at hg6_1; done))
         all_goals
          refine wl_gv (want_y rfl rfl rfl rfl (by rw [hg6_1]; rfl)) (x_move (tmB rfl rfl)) ?_
          refine wl_v (x_pickT (tmB rfl rfl) hg6_1 (tmB rfl rfl)) ?_
          refine wl_v (x_move (tmB rfl rfl)) ?_
          refine gs_wls (tm (t := 36) rfl) (fun hg6_4 => ?_) (fun hg6_4 => ?_)
          · exfalso
            simp at hg6_4
          have hg6_4' := hg6_4; (try simp only [nrm] at hg6_4'); try (exfalso; first | with_reducible exact absurd hg6_4 Bool.false_ne_true | with_reducible exact absurd hg6_4.symm Bool.false_ne_true | omega | (simp at hg6_4; done))
          all_goals
           refine wl_gv (want_y rfl rfl rfl rfl (by rw [hg6_4]; rfl)) (x_loadA (cs := [_, _, _, _, _, _, _, _, _, _, _, _, _, _, _, _]) Try.underlying67 rfl ts_67 (tmP rfl rfl) (rangeB hS.ok 1 rfl rfl)) ?_
           refine wl_gv (want_y rfl rfl rfl rfl (by rw [hg6_4]; rfl)) (x_loadA (cs := [_, _, _, _, _, _, _, _, _, _, _, _, _, _, _, _]) Try.underlying67 rfl ts_67 (tmP rfl rfl) (rangeB hS.ok 0 rfl rfl)) ?_
           refine wl_gv (want_y rfl rfl rfl rfl (by rw [hg6_4]; rfl)) (x_Aeql (by kernel_rfl) (tmA rfl rfl) (tmA rfl rfl) (eqv_k16 Try.underlying67 (by kernel_rfl) Try.underlying5 (by kernel_rfl) (by kernel_rfl))) ?_
           refine wl_v (x_pickT (tmB rfl rfl) hg6_4 (tmB rfl rfl)) ?_
           refine wl_v (x_move (tmB rfl rfl)) ?_
           refine gs_wls (tm (t := 41) rfl) (fun hg6_9 => ?_) (fun hg6_9 => ?_)
           · exfalso
             simp at hg6_9
           have hg6_9' := hg6_9; (try simp only [nrm] at hg6_9'); try (exfalso; first | with_reducible exact absurd hg6_9 Bool.false_ne_true | with_reducible exact absurd hg6_9.symm Bool.false_ne_true | omega | (simp at hg6_9; done))
           all_goals
            refine wl_g (want_y rfl rfl rfl rfl (by rw [hg6_9]; rfl)) ?_; intro K hK
            refine ow_call Try.func42 rfl rfl (evs_nil) (law11_awake_c _) ?_
            rintro e w ⟨rfl, hk⟩
            refine ⟨_, rfl, ?_⟩
            replace hS := hS.kept hk
            clear hk
            refine hK _ _ ?_; clear hK K
            refine wl_v (x_pickT (tmB rfl rfl) hg6_9 (tmB rfl rfl)) ?_
            refine wl_v (x_assign (tmB rfl rfl)) ?_
            refine wl_nil ?_
            refine then_n (hK16 _ _ ?_); clear hK16 K16
            refine wp_ret ?_
            refine ret1 rfl (.tmp rfl (show _ = Value.bool _ from rfl)) ?_
            exact ⟨rfl, hS.kp.below⟩
   · intro K hK
     refine ow_alloc hS tz_67 rfl ?_
     clear hS; intro g4_7 w hg4_7 hS
     refine hK _ _ ?_; clear hK K
     refine rg_step 2 rfl (by kernel_rfl) (want_0) (oks_drop hS 1 rfl) ?_; intro K hK
     refine ow_call Try.func40 rfl rfl (evs_cons (tmA rfl rfl) <| evs_nil) (ring_bit_c k u _) ?_
     rintro e w ⟨rfl, hk⟩
     refine ⟨_, rfl, ?_⟩
     replace hS := hS.kept hk
     clear hk
     refine hK _ _ ?_; clear hK K
     refine rg_step 3 rfl (by kernel_rfl) (want_0) (oks_drop hS 1 rfl) ?_; intro K hK
     refine ow_call Try.func37 rfl rfl (evs_cons (tmA rfl rfl) <| evs_cons (tmI rfl rfl) <| evs_nil) (hA _) ?_
     rintro e w ⟨rfl, hk⟩
     refine ⟨_, rfl, ?_⟩
     replace hS := hS.kept hk
     clear hk
     refine hK _ _ ?_; clear hK K
     refine rg_take 4 rfl rfl (by kernel_rfl) (by kernel_rfl) (by kernel_rfl) (want_0) (fun w hok => x_move (tmT rfl rfl)) ?_
     refine rg_take 5 rfl rfl (by kernel_rfl) (by kernel_rfl) (by kernel_rfl) (want_0) (fun w hok => x_ext (tmT rfl rfl) rfl) ?_
     refine rg_take 6 rfl rfl (by kernel_rfl) (by kernel_rfl) (by kernel_rfl) (want_0) (fun w hok => x_ext (tmT rfl rfl) rfl) ?_
     refine rg_step 8 rfl (by kernel_rfl) (want_0) (oks_drop hS 1 rfl) ?_; intro K hK
     refine ow_storeA hS 0 rfl ts_67 (tmP rfl rfl) (tmA rfl rfl) rfl rfl rfl ?_
     clear hS; intro w hS
     try replace hS := St.nm (M' := [.blk _ _ [_, _, _, _, _, _, _, _, _, _, _, _, _, _, _, _], .blk _ _ [_, _, _, _, _, _, _, _, _, _, _, _, _, _, _, _, _], .blk _ _ [_, _, _, _, _, _, _, _, _, _, _, _, _, _, _, _, _], _]) hS rfl
     refine hK _ _ ?_; clear hK K
     refine rg_take 9 rfl rfl (by kernel_rfl) (by kernel_rfl) (by kernel_rfl) (want_0) (fun w hok => x_assign (tmB rfl rfl)) ?_
     refine rg_done (oks_drop hS 1 rfl) (by kernel_rfl) ?_
     refine then_n (hK6 _ _ ?_); clear hK6 K6
     refine wp_seq_k ?_; intro K17 hK17
     refine rg_startk 0 hS mixed_ ?_
     clear hS; intro w hS
     refine rg_take 0 rfl rfl (by kernel_rfl) (by kernel_rfl) (by kernel_rfl) (want_0) (fun w hok => x_loadA (cs := [_, _, _, _, _, _, _, _, _, _, _, _, _, _, _, _, _]) Try.underlying69 rfl ts_69 (tmP rfl rfl) (rangeB hok 1 rfl rfl)) ?_
     refine rg_take 2 rfl rfl (by kernel_rfl) (by kernel_rfl) (by kernel_rfl) (want_0) (fun w hok => x_loadA (cs := [_, _, _, _, _, _, _, _, _, _, _, _, _, _, _, _, _]) Try.underlying69 rfl ts_69 (tmP rfl rfl) (rangeB hok 1 rfl rfl)) ?_
     refine rg_step2 1 8 rfl rfl (by kernel_rfl) (want_0) (want_0) (oks_drop hS 0 rfl) ?_ ?_
     · intro K hK
       refine ow_call Try.func41 rfl rfl (evs_cons (tmA rfl rfl) <| evs_nil) (hN _) ?_
       rintro e w ⟨rfl, hk⟩
       refine ⟨_, rfl, ?_⟩
       replace hS := hS.kept hk
       clear hk
       refine hK _ _ ?_; clear hK K
       refine rg_step2 3 8 rfl rfl (by kernel_rfl) (want_0) (want_0) (oks_drop hS 0 rfl) ?_ ?_
       · intro K hK
         refine ow_call Try.func40 rfl rfl (evs_cons (tmA rfl rfl) <| evs_nil) (ring_bit_c k u _) ?_
         rintro e w ⟨rfl, hk⟩
         refine ⟨_, rfl, ?_⟩
         replace hS := hS.kept hk
         clear hk
         refine hK _ _ ?_; clear hK K
         refine rg_step2 4 8 rfl rfl (by kernel_rfl) (want_0) (want_0) (oks_drop hS 0 rfl) ?_ ?_
         · intro K hK
           refine ow_call Try.func37 rfl rfl (evs_cons (tmA rfl rfl) <| evs_cons (tmI rfl rfl) <| evs_nil) (hB _) ?_
           rintro e w ⟨rfl, hk⟩
           refine ⟨_, rfl, ?_⟩
           replace hS := hS.kept hk
           clear hk
           refine hK _ _ ?_; clear hK K
           refine rg_take 5 rfl rfl (by kernel_rfl) (by kernel_rfl) (by kernel_rfl) (want_0) (fun w hok => x_move (tmT rfl rfl)) ?_
           refine rg_take 6 rfl rfl (by kernel_rfl) (by kernel_rfl) (by kernel_rfl) (want_0) (fun w hok => x_ext (tmT rfl rfl) rfl) ?_
           refine rg_take 7 rfl rfl (by kernel_rfl) (by kernel_rfl) (by kernel_rfl) (want_0) (fun w hok => x_ext (tmT rfl rfl) rfl) ?_
           refine rg_step 8 rfl (by kernel_rfl) (want_0) (oks_drop hS 0 rfl) ?_; intro K hK
           refine ow_alloc hS tz_67 rfl ?_
           clear hS; intro g5_8 w hg5_8 hS
           refine hK _ _ ?_; clear hK K
           refine rg_step 9 rfl (by kernel_rfl) (want_0) (oks_drop hS 1 rfl) ?_; intro K hK
           refine ow_storeA hS 0 rfl ts_67 (tmP rfl rfl) (tmA rfl rfl) rfl rfl rfl ?_
           clear hS; intro w hS
           try replace hS := St.nm (M' := [.blk _ _ [_, _, _, _, _, _, _, _, _, _, _, _, _, _, _, _], .blk _ _ [_, _, _, _, _, _, _, _, _, _, _, _, _, _, _, _], .blk _ _ [_, _, _, _, _, _, _, _, _, _, _, _, _, _, _, _, _], .blk _ _ [_, _, _, _, _, _, _, _, _, _, _, _, _, _, _, _, _], _]) hS rfl
           refine hK _ _ ?_; clear hK K
           refine rg_take 10 rfl rfl (by kernel_rfl) (by kernel_rfl) (by kernel_rfl) (want_0) (fun w hok => x_assign (tmB rfl rfl)) ?_
           refine rg_done (oks_drop hS 1 rfl) (by kernel_rfl) ?_
           refine then_n (hK17 _ _ ?_); clear hK17 K17
           refine wp_seq_k ?_; intro K18 hK18
           refine wlit ?_
           refine wl_v (x_move (tmB rfl rfl)) ?_
           refine wl_v (x_move (tmB rfl rfl)) ?_
           refine gs_wls (tm (t := 33) rfl) (fun hg6_1 => ?_) (fun hg6_1 => ?_)
           · exfalso
             simp at hg6_1
           have hg6_1' := hg6_1; (try simp only [nrm] at hg6_1'); try (exfalso; first | with_reducible exact absurd hg6_1 Bool.false_ne_true | with_reducible exact absurd hg6_1.symm Bool.false_ne_true | omega | (simp at hg6_1; done))
           all_goals
            refine wl_gv (want_y rfl rfl rfl rfl (by rw [hg6_1]; rfl)) (x_move (tmB rfl rfl)) ?_
            refine wl_v (x_pickT (tmB rfl rfl) hg6_1 (tmB rfl rfl)) ?_
            refine wl_v (x_move (tmB rfl rfl)) ?_
            refine gs_wls (tm (t := 36) rfl) (fun hg6_4 => ?_) (fun hg6_4 => ?_)
            · exfalso
              simp at hg6_4
            have hg6_4' := hg6_4; (try simp only [nrm] at hg6_4'); try (exfalso; first | with_reducible exact absurd hg6_4 Bool.false_ne_true | with_reducible exact absurd hg6_4.symm Bool.false_ne_true | omega | (simp at hg6_4; done))
            all_goals
             refine wl_gv (want_y rfl rfl rfl rfl (by rw [hg6_4]; rfl)) (x_loadA (cs := [_, _, _, _, _, _, _, _, _, _, _, _, _, _, _, _]) Try.underlying67 rfl ts_67 (tmP rfl rfl) (rangeB hS.ok 1 rfl rfl)) ?_
             refine wl_gv (want_y rfl rfl rfl rfl (by rw [hg6_4]; rfl)) (x_loadA (cs := [_, _, _, _, _, _, _, _, _, _, _, _, _, _, _, _]) Try.underlying67 rfl ts_67 (tmP rfl rfl) (rangeB hS.ok 0 rfl rfl)) ?_
             refine wl_gv (want_y rfl rfl rfl rfl (by rw [hg6_4]; rfl)) (x_Aeql (by kernel_rfl) (tmA rfl rfl) (tmA rfl rfl) (eqv_k16 Try.underlying67 (by kernel_rfl) Try.underlying5 (by kernel_rfl) (by kernel_rfl))) ?_
             refine wl_v (x_pickT (tmB rfl rfl) hg6_4 (tmB rfl rfl)) ?_
             refine wl_v (x_move (tmB rfl rfl)) ?_
             refine gs_wls (tm (t := 41) rfl) (fun hg6_9 => ?_) (fun hg6_9 => ?_)
             · exfalso
               simp at hg6_9
             have hg6_9' := hg6_9; (try simp only [nrm] at hg6_9'); try (exfalso; first | with_reducible exact absurd hg6_9 Bool.false_ne_true | with_reducible exact absurd hg6_9.symm Bool.false_ne_true | omega | (simp at hg6_9; done))
             all_goals
              refine wl_g (want_y rfl rfl rfl rfl (by rw [hg6_9]; rfl)) ?_; intro K hK
              refine ow_call Try.func42 rfl rfl (evs_nil) (law11_awake_c _) ?_
              rintro e w ⟨rfl, hk⟩
              refine ⟨_, rfl, ?_⟩
              replace hS := hS.kept hk
              clear hk
              refine hK _ _ ?_; clear hK K
              refine wl_v (x_pickT (tmB rfl rfl) hg6_9 (tmB rfl rfl)) ?_
              refine wl_v (x_assign (tmB rfl rfl)) ?_
              refine wl_nil ?_
              refine then_n (hK18 _ _ ?_); clear hK18 K18
              refine wp_ret ?_
              refine ret1 rfl (.tmp rfl (show _ = Value.bool _ from rfl)) ?_
              exact ⟨rfl, hS.kp.below⟩
         · intro K hK
           refine ow_alloc hS tz_67 rfl ?_
           clear hS; intro g5_8 w hg5_8 hS
           refine hK _ _ ?_; clear hK K
           refine rg_step 4 rfl (by kernel_rfl) (want_0) (oks_drop hS 1 rfl) ?_; intro K hK
           refine ow_call Try.func37 rfl rfl (evs_cons (tmA rfl rfl) <| evs_cons (tmI rfl rfl) <| evs_nil) (hB _) ?_
           rintro e w ⟨rfl, hk⟩
           refine ⟨_, rfl, ?_⟩
           replace hS := hS.kept hk
           clear hk
           refine hK _ _ ?_; clear hK K
           refine rg_take 5 rfl rfl (by kernel_rfl) (by kernel_rfl) (by kernel_rfl) (want_0) (fun w hok => x_move (tmT rfl rfl)) ?_
           refine rg_take 6 rfl rfl (by kernel_rfl) (by kernel_rfl) (by kernel_rfl) (want_0) (fun w hok => x_ext (tmT rfl rfl) rfl) ?_
           refine rg_take 7 rfl rfl (by kernel_rfl) (by kernel_rfl) (by kernel_rfl) (want_0) (fun w hok => x_ext (tmT rfl rfl) rfl) ?_
           refine rg_step 9 rfl (by kernel_rfl) (want_0) (oks_drop hS 1 rfl) ?_; intro K hK
           refine ow_storeA hS 0 rfl ts_67 (tmP rfl rfl) (tmA rfl rfl) rfl rfl rfl ?_
           clear hS; intro w hS
           try replace hS := St.nm (M' := [.blk _ _ [_, _, _, _, _, _, _, _, _, _, _, _, _, _, _, _], .blk _ _ [_, _, _, _, _, _, _, _, _, _, _, _, _, _, _, _], .blk _ _ [_, _, _, _, _, _, _, _, _, _, _, _, _, _, _, _, _], .blk _ _ [_, _, _, _, _, _, _, _, _, _, _, _, _, _, _, _, _], _]) hS rfl
           refine hK _ _ ?_; clear hK K
           refine rg_take 10 rfl rfl (by kernel_rfl) (by kernel_rfl) (by kernel_rfl) (want_0) (fun w hok => x_assign (tmB rfl rfl)) ?_
           refine rg_done (oks_drop hS 1 rfl) (by kernel_rfl) ?_
           refine then_n (hK17 _ _ ?_); clear hK17 K17
           refine wp_seq_k ?_; intro K19 hK19
           refine wlit ?_
           refine wl_v (x_move (tmB rfl rfl)) ?_
           refine wl_v (x_move (tmB rfl rfl)) ?_
           refine gs_wls (tm (t := 33) rfl) (fun hg6_1 => ?_) (fun hg6_1 => ?_)
           · exfalso
             simp at hg6_1
           have hg6_1' := hg6_1; (try simp only [nrm] at hg6_1'); try (exfalso; first | with_reducible exact absurd hg6_1 Bool.false_ne_true | with_reducible exact absurd hg6_1.symm Bool.false_ne_true | omega | (simp at hg6_1; done))
           all_goals
            refine wl_gv (want_y rfl rfl rfl rfl (by rw [hg6_1]; rfl)) (x_move (tmB rfl rfl)) ?_
            refine wl_v (x_pickT (tmB rfl rfl) hg6_1 (tmB rfl rfl)) ?_
            refine wl_v (x_move (tmB rfl rfl)) ?_
            refine gs_wls (tm (t := 36) rfl) (fun hg6_4 => ?_) (fun hg6_4 => ?_)
            · exfalso
              simp at hg6_4
            have hg6_4' := hg6_4; (try simp only [nrm] at hg6_4'); try (exfalso; first | with_reducible exact absurd hg6_4 Bool.false_ne_true | with_reducible exact absurd hg6_4.symm Bool.false_ne_true | omega | (simp at hg6_4; done))
            all_goals
             refine wl_gv (want_y rfl rfl rfl rfl (by rw [hg6_4]; rfl)) (x_loadA (cs := [_, _, _, _, _, _, _, _, _, _, _, _, _, _, _, _]) Try.underlying67 rfl ts_67 (tmP rfl rfl) (rangeB hS.ok 1 rfl rfl)) ?_
             refine wl_gv (want_y rfl rfl rfl rfl (by rw [hg6_4]; rfl)) (x_loadA (cs := [_, _, _, _, _, _, _, _, _, _, _, _, _, _, _, _]) Try.underlying67 rfl ts_67 (tmP rfl rfl) (rangeB hS.ok 0 rfl rfl)) ?_
             refine wl_gv (want_y rfl rfl rfl rfl (by rw [hg6_4]; rfl)) (x_Aeql (by kernel_rfl) (tmA rfl rfl) (tmA rfl rfl) (eqv_k16 Try.underlying67 (by kernel_rfl) Try.underlying5 (by kernel_rfl) (by kernel_rfl))) ?_
             refine wl_v (x_pickT (tmB rfl rfl) hg6_4 (tmB rfl rfl)) ?_
             refine wl_v (x_move (tmB rfl rfl)) ?_
             refine gs_wls (tm (t := 41) rfl) (fun hg6_9 => ?_) (fun hg6_9 => ?_)
             · exfalso
               simp at hg6_9
             have hg6_9' := hg6_9; (try simp only [nrm] at hg6_9'); try (exfalso; first | with_reducible exact absurd hg6_9 Bool.false_ne_true | with_reducible exact absurd hg6_9.symm Bool.false_ne_true | omega | (simp at hg6_9; done))
             all_goals
              refine wl_g (want_y rfl rfl rfl rfl (by rw [hg6_9]; rfl)) ?_; intro K hK
              refine ow_call Try.func42 rfl rfl (evs_nil) (law11_awake_c _) ?_
              rintro e w ⟨rfl, hk⟩
              refine ⟨_, rfl, ?_⟩
              replace hS := hS.kept hk
              clear hk
              refine hK _ _ ?_; clear hK K
              refine wl_v (x_pickT (tmB rfl rfl) hg6_9 (tmB rfl rfl)) ?_
              refine wl_v (x_assign (tmB rfl rfl)) ?_
              refine wl_nil ?_
              refine then_n (hK19 _ _ ?_); clear hK19 K19
              refine wp_ret ?_
              refine ret1 rfl (.tmp rfl (show _ = Value.bool _ from rfl)) ?_
              exact ⟨rfl, hS.kp.below⟩
       · intro K hK
         refine ow_alloc hS tz_67 rfl ?_
         clear hS; intro g5_8 w hg5_8 hS
         refine hK _ _ ?_; clear hK K
         refine rg_step 3 rfl (by kernel_rfl) (want_0) (oks_drop hS 1 rfl) ?_; intro K hK
         refine ow_call Try.func40 rfl rfl (evs_cons (tmA rfl rfl) <| evs_nil) (ring_bit_c k u _) ?_
         rintro e w ⟨rfl, hk⟩
         refine ⟨_, rfl, ?_⟩
         replace hS := hS.kept hk
         clear hk
         refine hK _ _ ?_; clear hK K
         refine rg_step 4 rfl (by kernel_rfl) (want_0) (oks_drop hS 1 rfl) ?_; intro K hK
         refine ow_call Try.func37 rfl rfl (evs_cons (tmA rfl rfl) <| evs_cons (tmI rfl rfl) <| evs_nil) (hB _) ?_
         rintro e w ⟨rfl, hk⟩
         refine ⟨_, rfl, ?_⟩
         replace hS := hS.kept hk
         clear hk
         refine hK _ _ ?_; clear hK K
         refine rg_take 5 rfl rfl (by kernel_rfl) (by kernel_rfl) (by kernel_rfl) (want_0) (fun w hok => x_move (tmT rfl rfl)) ?_
         refine rg_take 6 rfl rfl (by kernel_rfl) (by kernel_rfl) (by kernel_rfl) (want_0) (fun w hok => x_ext (tmT rfl rfl) rfl) ?_
         refine rg_take 7 rfl rfl (by kernel_rfl) (by kernel_rfl) (by kernel_rfl) (want_0) (fun w hok => x_ext (tmT rfl rfl) rfl) ?_
         refine rg_step 9 rfl (by kernel_rfl) (want_0) (oks_drop hS 1 rfl) ?_; intro K hK
         refine ow_storeA hS 0 rfl ts_67 (tmP rfl rfl) (tmA rfl rfl) rfl rfl rfl ?_
         clear hS; intro w hS
         try replace hS := St.nm (M' := [.blk _ _ [_, _, _, _, _, _, _, _, _, _, _, _, _, _, _, _], .blk _ _ [_, _, _, _, _, _, _, _, _, _, _, _, _, _, _, _], .blk _ _ [_, _, _, _, _, _, _, _, _, _, _, _, _, _, _, _, _], .blk _ _ [_, _, _, _, _, _, _, _, _, _, _, _, _, _, _, _, _], _]) hS rfl
         refine hK _ _ ?_; clear hK K
         refine rg_take 10 rfl rfl (by kernel_rfl) (by kernel_rfl) (by kernel_rfl) (want_0) (fun w hok => x_assign (tmB rfl rfl)) ?_
         refine rg_done (oks_drop hS 1 rfl) (by kernel_rfl) ?_
         refine then_n (hK17 _ _ ?_); clear hK17 K17
         refine wp_seq_k ?_; intro K20 hK20
         refine wlit ?_
         refine wl_v (x_move (tmB rfl rfl)) ?_
         refine wl_v (x_move (tmB rfl rfl)) ?_
         refine gs_wls (tm (t := 33) rfl) (fun hg6_1 => ?_) (fun hg6_1 => ?_)
         · exfalso
           simp at hg6_1
         have hg6_1' := hg6_1; (try simp only [nrm] at hg6_1'); try (exfalso; first | with_reducible exact absurd hg6_1 Bool.false_ne_true | with_reducible exact absurd hg6_1.symm Bool.false_ne_true | omega | (simp at hg6_1; done))
         all_goals
          refine wl_gv (want_y rfl rfl rfl rfl (by rw [hg6_1]; rfl)) (x_move (tmB rfl rfl)) ?_
          refine wl_v (x_pickT (tmB rfl rfl) hg6_1 (tmB rfl rfl)) ?_
          refine wl_v (x_move (tmB rfl rfl)) ?_
          refine gs_wls (tm (t := 36) rfl) (fun hg6_4 => ?_) (fun hg6_4 => ?_)
          · exfalso
            simp at hg6_4
          have hg6_4' := hg6_4; (try simp only [nrm] at hg6_4'); try (exfalso; first | with_reducible exact absurd hg6_4 Bool.false_ne_true | with_reducible exact absurd hg6_4.symm Bool.false_ne_true | omega | (simp at hg6_4; done))
          all_goals
           refine wl_gv (want_y rfl rfl rfl rfl (by rw [hg6_4]; rfl)) (x_loadA (cs := [_, _, _, _, _, _, _, _, _, _, _, _, _, _, _, _]) Try.underlying67 rfl ts_67 (tmP rfl rfl) (rangeB hS.ok 1 rfl rfl)) ?_
           refine wl_gv (want_y rfl rfl rfl rfl (by rw [hg6_4]; rfl)) (x_loadA (cs := [_, _, _, _, _, _, _, _, _, _, _, _, _, _, _, _]) Try.underlying67 rfl ts_67 (tmP rfl rfl) (rangeB hS.ok 0 rfl rfl)) ?_
           refine wl_gv (want_y rfl rfl rfl rfl (by rw [hg6_4]; rfl)) (x_Aeql (by kernel_rfl) (tmA rfl rfl) (tmA rfl rfl) (eqv_k16 Try.underlying67 (by kernel_rfl) Try.underlying5 (by kernel_rfl) (by kernel_rfl))) ?_
           refine wl_v (x_pickT (tmB rfl rfl) hg6_4 (tmB rfl rfl)) ?_
           refine wl_v (x_move (tmB rfl rfl)) ?_
           refine gs_wls (tm (t := 41) rfl) (fun hg6_9 => ?_) (fun hg6_9 => ?_)
           · exfalso
             simp at hg6_9
           have hg6_9' := hg6_9; (try simp only [nrm] at hg6_9'); try (exfalso; first | with_reducible exact absurd hg6_9 Bool.false_ne_true | with_reducible exact absurd hg6_9.symm Bool.false_ne_true | omega | (simp at hg6_9; done))
           all_goals
            refine wl_g (want_y rfl rfl rfl rfl (by rw [hg6_9]; rfl)) ?_; intro K hK
            refine ow_call Try.func42 rfl rfl (evs_nil) (law11_awake_c _) ?_
            rintro e w ⟨rfl, hk⟩
            refine ⟨_, rfl, ?_⟩
            replace hS := hS.kept hk
            clear hk
            refine hK _ _ ?_; clear hK K
            refine wl_v (x_pickT (tmB rfl rfl) hg6_9 (tmB rfl rfl)) ?_
            refine wl_v (x_assign (tmB rfl rfl)) ?_
            refine wl_nil ?_
            refine then_n (hK20 _ _ ?_); clear hK20 K20
            refine wp_ret ?_
            refine ret1 rfl (.tmp rfl (show _ = Value.bool _ from rfl)) ?_
            exact ⟨rfl, hS.kp.below⟩
     · intro K hK
       refine ow_alloc hS tz_67 rfl ?_
       clear hS; intro g5_8 w hg5_8 hS
       refine hK _ _ ?_; clear hK K
       refine rg_step 1 rfl (by kernel_rfl) (want_0) (oks_drop hS 1 rfl) ?_; intro K hK
       refine ow_call Try.func41 rfl rfl (evs_cons (tmA rfl rfl) <| evs_nil) (hN _) ?_
       rintro e w ⟨rfl, hk⟩
       refine ⟨_, rfl, ?_⟩
       replace hS := hS.kept hk
       clear hk
       refine hK _ _ ?_; clear hK K
       refine rg_step 3 rfl (by kernel_rfl) (want_0) (oks_drop hS 1 rfl) ?_; intro K hK
       refine ow_call Try.func40 rfl rfl (evs_cons (tmA rfl rfl) <| evs_nil) (ring_bit_c k u _) ?_
       rintro e w ⟨rfl, hk⟩
       refine ⟨_, rfl, ?_⟩
       replace hS := hS.kept hk
       clear hk
       refine hK _ _ ?_; clear hK K
       refine rg_step 4 rfl (by kernel_rfl) (want_0) (oks_drop hS 1 rfl) ?_; intro K hK
       refine ow_call Try.func37 rfl rfl (evs_cons (tmA rfl rfl) <| evs_cons (tmI rfl rfl) <| evs_nil) (hB _) ?_
       rintro e w ⟨rfl, hk⟩
       refine ⟨_, rfl, ?_⟩
       replace hS := hS.kept hk
       clear hk
       refine hK _ _ ?_; clear hK K
       refine rg_take 5 rfl rfl (by kernel_rfl) (by kernel_rfl) (by kernel_rfl) (want_0) (fun w hok => x_move (tmT rfl rfl)) ?_
       refine rg_take 6 rfl rfl (by kernel_rfl) (by kernel_rfl) (by kernel_rfl) (want_0) (fun w hok => x_ext (tmT rfl rfl) rfl) ?_
       refine rg_take 7 rfl rfl (by kernel_rfl) (by kernel_rfl) (by kernel_rfl) (want_0) (fun w hok => x_ext (tmT rfl rfl) rfl) ?_
       refine rg_step 9 rfl (by kernel_rfl) (want_0) (oks_drop hS 1 rfl) ?_; intro K hK
       refine ow_storeA hS 0 rfl ts_67 (tmP rfl rfl) (tmA rfl rfl) rfl rfl rfl ?_
       clear hS; intro w hS
       try replace hS := St.nm (M' := [.blk _ _ [_, _, _, _, _, _, _, _, _, _, _, _, _, _, _, _], .blk _ _ [_, _, _, _, _, _, _, _, _, _, _, _, _, _, _, _], .blk _ _ [_, _, _, _, _, _, _, _, _, _, _, _, _, _, _, _, _], .blk _ _ [_, _, _, _, _, _, _, _, _, _, _, _, _, _, _, _, _], _]) hS rfl
       refine hK _ _ ?_; clear hK K
       refine rg_take 10 rfl rfl (by kernel_rfl) (by kernel_rfl) (by kernel_rfl) (want_0) (fun w hok => x_assign (tmB rfl rfl)) ?_
       refine rg_done (oks_drop hS 1 rfl) (by kernel_rfl) ?_
       refine then_n (hK17 _ _ ?_); clear hK17 K17
       refine wp_seq_k ?_; intro K21 hK21
       refine wlit ?_
       refine wl_v (x_move (tmB rfl rfl)) ?_
       refine wl_v (x_move (tmB rfl rfl)) ?_
       refine gs_wls (tm (t := 33) rfl) (fun hg6_1 => ?_) (fun hg6_1 => ?_)
       · exfalso
         simp at hg6_1
       have hg6_1' := hg6_1; (try simp only [nrm] at hg6_1'); try (exfalso; first | with_reducible exact absurd hg6_1 Bool.false_ne_true | with_reducible exact absurd hg6_1.symm Bool.false_ne_true | omega | (simp at hg6_1; done))
       all_goals
        refine wl_gv (want_y rfl rfl rfl rfl (by rw [hg6_1]; rfl)) (x_move (tmB rfl rfl)) ?_
        refine wl_v (x_pickT (tmB rfl rfl) hg6_1 (tmB rfl rfl)) ?_
        refine wl_v (x_move (tmB rfl rfl)) ?_
        refine gs_wls (tm (t := 36) rfl) (fun hg6_4 => ?_) (fun hg6_4 => ?_)
        · exfalso
          simp at hg6_4
        have hg6_4' := hg6_4; (try simp only [nrm] at hg6_4'); try (exfalso; first | with_reducible exact absurd hg6_4 Bool.false_ne_true | with_reducible exact absurd hg6_4.symm Bool.false_ne_true | omega | (simp at hg6_4; done))
        all_goals
         refine wl_gv (want_y rfl rfl rfl rfl (by rw [hg6_4]; rfl)) (x_loadA (cs := [_, _, _, _, _, _, _, _, _, _, _, _, _, _, _, _]) Try.underlying67 rfl ts_67 (tmP rfl rfl) (rangeB hS.ok 1 rfl rfl)) ?_
         refine wl_gv (want_y rfl rfl rfl rfl (by rw [hg6_4]; rfl)) (x_loadA (cs := [_, _, _, _, _, _, _, _, _, _, _, _, _, _, _, _]) Try.underlying67 rfl ts_67 (tmP rfl rfl) (rangeB hS.ok 0 rfl rfl)) ?_
         refine wl_gv (want_y rfl rfl rfl rfl (by rw [hg6_4]; rfl)) (x_Aeql (by kernel_rfl) (tmA rfl rfl) (tmA rfl rfl) (eqv_k16 Try.underlying67 (by kernel_rfl) Try.underlying5 (by kernel_rfl) (by kernel_rfl))) ?_
         refine wl_v (x_pickT (tmB rfl rfl) hg6_4 (tmB rfl rfl)) ?_
         refine wl_v (x_move (tmB rfl rfl)) ?_
         refine gs_wls (tm (t := 41) rfl) (fun hg6_9 => ?_) (fun hg6_9 => ?_)
         · exfalso
           simp at hg6_9
         have hg6_9' := hg6_9; (try simp only [nrm] at hg6_9'); try (exfalso; first | with_reducible exact absurd hg6_9 Bool.false_ne_true | with_reducible exact absurd hg6_9.symm Bool.false_ne_true | omega | (simp at hg6_9; done))
         all_goals
          refine wl_g (want_y rfl rfl rfl rfl (by rw [hg6_9]; rfl)) ?_; intro K hK
          refine ow_call Try.func42 rfl rfl (evs_nil) (law11_awake_c _) ?_
          rintro e w ⟨rfl, hk⟩
          refine ⟨_, rfl, ?_⟩
          replace hS := hS.kept hk
          clear hk
          refine hK _ _ ?_; clear hK K
          refine wl_v (x_pickT (tmB rfl rfl) hg6_9 (tmB rfl rfl)) ?_
          refine wl_v (x_assign (tmB rfl rfl)) ?_
          refine wl_nil ?_
          refine then_n (hK21 _ _ ?_); clear hK21 K21
          refine wp_ret ?_
          refine ret1 rfl (.tmp rfl (show _ = Value.bool _ from rfl)) ?_
          exact ⟨rfl, hS.kp.below⟩
set_option maxRecDepth 100000 in
theorem walk (v : Value) (w0 : World) {H : Type} {enc : TypeId × Value → H} {r : Reach} {b0 : Nat} {d : DataW H} {ps : List MemPlace} (hval : Value.okWide Try.prog w0 r b0 66 v) (hd : DataW.Trod enc Try.prog w0 0 (fun _ => true) true 66 v d ps) (hlt : ∀ p ∈ ps, p.block < w0.heap.size) :
    Calls Try.prog 8 #[v] w0 fun e w' => e = .returned (.bool true) ∧ Below w0.heap.size w0 w' := by
  obtain ⟨s, rfl, hs⟩ := RRing.open_a hval hd hlt
  obtain ⟨k, u⟩ := s
  exact walkC k u w0 hs.1 hs.2
end RingKeeps
end Go.Proofs.Ytilgolflpdpfnaa
