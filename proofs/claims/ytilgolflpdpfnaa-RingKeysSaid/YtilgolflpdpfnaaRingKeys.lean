/- Proved: RingKeys returns true for every ring and bit, and changes no memory that was there. Conditions: none. -/
import Derived.Test.YtilgolflpdpfnaaRingA
namespace Go.Proofs.Ytilgolflpdpfnaa
open Go.ChangeShapes Go.WideShapes Go.ChangeAt Go.RowKit
namespace RingKeys
def el (bit : Int) (j : Nat) : Int := if j = 0 then 0 else if j = 1 then 1 else bit
theorem el_get {bit : Int} {j : Nat} (h : j < 3) : ([.int .i64 0, .int .i64 1, .int .i64 bit] : List Value)[j]? = some (.int .i64 (el bit j)) := by
  match j, h with
  | 0, _ => rfl
  | 1, _ => rfl
  | 2, _ => rfl
set_option maxRecDepth 100000 in
set_option maxHeartbeats 4000000 in
theorem walkC (k : Nat → Nat) (u : Nat) (bit : Int) (w0 : World) (hkb : Bytes (kL k)) (hu : u < 18446744073709551616) :
    Calls Try.prog 6 #[.agg (rgC k u).toArray, .int .i64 bit] w0 fun e w' => e = .returned (.bool true) ∧ Below w0.heap.size w0 w' := by
  have hS := St.sv w0
  refine ent (n := 71) Try.func6 rfl rfl ?_
  refine wp_seq_k ?_; intro K1 hK1
  refine wlit ?_
  refine wl_e rfl ?_; intro K hK
  refine ow_box hS (tmA rfl rfl) rfl ?_
  clear hS; intro g0_0 w hg0_0 hS
  refine hK _ _ ?_; clear hK K
  refine wl_v (x_assign ev_c) ?_
  refine wl_nil ?_
  refine then_n (hK1 _ _ ?_); clear hK1 K1
  refine wp_seq_k ?_; intro K2 hK2
  refine wlit ?_
  refine wl_v (x_fa 0 Try.underlying66 rfl rfl ts_64 (tmP rfl rfl)) ?_
  refine wl_v (x_loadA (cs := [_, _, _, _, _, _, _, _, _, _, _, _, _, _, _, _]) Try.underlying64 rfl ts_64 (tmP rfl rfl) (rangeB hS.ok 0 rfl rfl)) ?_
  refine wl_v (x_fa 16 Try.underlying66 rfl rfl ts_24 (tmP rfl rfl)) ?_
  first
   | refine wl_v (x_load Try.underlying24 rfl (tmP rfl rfl) (cellB hS.ok 0 rfl rfl)) ?_
   | refine wl_v (x_load Try.underlying24 rfl (tmP rfl rfl) (cellB hS.ok 0 rfl (getm (by omega)))) ?_
  refine wl_e rfl ?_; intro K hK
  refine ow_call Try.func36 rfl rfl (evs_cons (tmA rfl rfl) <| evs_cons (tmI rfl rfl) <| evs_nil) (ring_new_c k u _) ?_
  rintro e w ⟨rfl, hk⟩
  refine ⟨_, rfl, ?_⟩
  replace hS := hS.kept hk
  clear hk
  refine hK _ _ ?_; clear hK K
  refine wl_e rfl ?_; intro K hK
  refine ow_alloc hS tz_69 rfl ?_
  clear hS; intro g1_5 w hg1_5 hS
  refine hK _ _ ?_; clear hK K
  refine wl_e rfl ?_; intro K hK
  refine ow_storeA hS 0 rfl ts_69 (tmP rfl rfl) (tmA rfl rfl) rfl rfl rfl ?_
  clear hS; intro w hS
  try replace hS := St.nm (M' := [.blk _ _ [_, _, _, _, _, _, _, _, _, _, _, _, _, _, _, _, _], .blk _ _ [_, _, _, _, _, _, _, _, _, _, _, _, _, _, _, _, _], _]) hS rfl
  refine hK _ _ ?_; clear hK K
  refine wl_nil ?_
  refine then_n (hK2 _ _ ?_); clear hK2 K2
  refine wp_seq_k ?_; intro K3 hK3
  refine wp_seq_k ?_; intro K4 hK4
  refine wlit ?_
  refine wl_v (x_move (tmI rfl rfl)) ?_
  refine wl_e rfl ?_; intro K hK
  refine ow_build hS Try.underlying71 tz_3 (bc_take (ev_cN 0) <| bc_take (ev_cN 1) <| bc_take (tmI rfl rfl) <| bc_nil) rfl rfl (by kernel_rfl) ?_
  clear hS; intro g2_1 w hg2_1 hS
  refine hK _ _ ?_; clear hK K
  refine wl_v (x_len Try.underlying71 (tmS rfl rfl)) ?_
  refine wl_v (x_move (ev_cN 0)) ?_
  refine wl_nil ?_
  refine then_n (hK4 _ _ ?_); clear hK4 K4
  refine wp_block ?_
  refine lp [4, 7, 8, 9, 10, 11, 20, 21, 22, 23, 24, 25, 26, 27, 28, 29, 30, 31, 32, 33, 34, 35, 36, 37, 38, 39, 40, 41, 42, 43, 44] (fun mz g w => ∃ (j : Nat), mz = 3 - j ∧ g 20 = .int .i64 (j : Int) ∧ St [] w0 [.blk g2_1 3 [.int .i64 0, .int .i64 1, .int .i64 bit], .blk g1_5 69 (rgC k u), .blk g0_0 66 (rgC k u)] w ∧ (j ≤ 3)) ?_ ?_
  · exact ⟨_, 0, rfl, (by first | rfl | go_num | exact congrArg (Value.int _) (by first | omega | (simp; done) | (simp; omega))), hS, (by omega)⟩
  · clear hS; intro mz g w hI
    obtain ⟨j, rfl, hs20, hS, hj⟩ := hI
    refine fr_know (d := 20) hs20 ?_; clear hs20
    refine wp_seq_k ?_; intro K5 hK5
    refine wlit ?_
    refine wl_v (x_lss (tmI rfl rfl) (tmI rfl rfl)) ?_
    refine wl_nil ?_
    refine then_n (hK5 _ _ ?_); clear hK5 K5
    refine wp_seq_k ?_; intro K6 hK6
    refine cnd (tm rfl) (fun hc0 => ?_) (fun hc0 => ?_)
    · try (exfalso; first | with_reducible exact absurd hc0 Bool.false_ne_true | with_reducible exact absurd hc0.symm Bool.false_ne_true | (simp only [nrm] at hc0; omega) | (simp at hc0; done))
      all_goals
       try simp only [nrm] at hc0
       refine wp_skip ?_
       refine then_n (hK6 _ _ ?_); clear hK6 K6
       refine wp_seq_k ?_; intro K7 hK7
       refine wp_block ?_
       refine wp_seq_k ?_; intro K8 hK8
       refine wlit ?_
       refine wl_v (x_ixs1 Try.underlying71 ts_3 (tmS rfl rfl) (tmI rfl rfl) (by omega)) ?_
       refine wl_v (x_load Try.underlying3 rfl (tmP rfl rfl) (cellB hS.ok 0 rfl (by rw [Nat.zero_add]; exact el_get (by omega)))) ?_
       refine wl_v (x_assign (tmI rfl rfl)) ?_
       refine wl_nil ?_
       refine then_n (hK8 _ _ ?_); clear hK8 K8
       refine wp_seq_k ?_; intro K9 hK9
       refine wlit ?_
       refine wl_v (x_loadA (cs := [_, _, _, _, _, _, _, _, _, _, _, _, _, _, _, _, _]) Try.underlying69 rfl ts_69 (tmP rfl rfl) (rangeB hS.ok 1 rfl rfl)) ?_
       refine wl_v (x_move (tmI rfl rfl)) ?_
       refine wl_e rfl ?_; intro K hK
       refine ow_call Try.func37 rfl rfl (evs_cons (tmA rfl rfl) <| evs_cons (tmI rfl rfl) <| evs_nil) (ring_at_c k u _ _ hkb (by omega)) ?_
       rintro e w ⟨rfl, hk⟩
       refine ⟨_, rfl, ?_⟩
       replace hS := hS.kept hk
       clear hk
       refine hK _ _ ?_; clear hK K
       refine wl_v (x_move (tmT rfl rfl)) ?_
       refine wl_v (x_ext (tmT rfl rfl) rfl) ?_
       refine wl_v (x_ext (tmT rfl rfl) rfl) ?_
       refine wl_e rfl ?_; intro K hK
       refine ow_alloc hS tz_67 rfl ?_
       clear hS; intro g5_6 w hg5_6 hS
       refine hK _ _ ?_; clear hK K
       refine wl_e rfl ?_; intro K hK
       refine ow_storeA hS 0 rfl ts_67 (tmP rfl rfl) (tmA rfl rfl) rfl rfl rfl ?_
       clear hS; intro w hS
       try replace hS := St.nm (M' := [.blk _ _ [_, _, _, _, _, _, _, _, _, _, _, _, _, _, _, _], _, .blk _ _ [_, _, _, _, _, _, _, _, _, _, _, _, _, _, _, _, _], .blk _ _ [_, _, _, _, _, _, _, _, _, _, _, _, _, _, _, _, _]]) hS rfl
       refine hK _ _ ?_; clear hK K
       refine wl_v (x_assign (tmB rfl rfl)) ?_
       refine wl_nil ?_
       refine then_n (hK9 _ _ ?_); clear hK9 K9
       refine wp_seq_k ?_; intro K10 hK10
       refine wlit ?_
       refine wl_v (x_loadA (cs := [_, _, _, _, _, _, _, _, _, _, _, _, _, _, _, _, _]) Try.underlying66 rfl ts_66 (tmP rfl rfl) (rangeB hS.ok 3 rfl rfl)) ?_
       refine wl_v (x_move (tmI rfl rfl)) ?_
       refine wl_e rfl ?_; intro K hK
       refine ow_call Try.func38 rfl rfl (evs_cons (tmA rfl rfl) <| evs_cons (tmI rfl rfl) <| evs_nil) (rring_at_c k u _ _ hkb (by omega)) ?_
       rintro e w ⟨rfl, hk⟩
       refine ⟨_, rfl, ?_⟩
       replace hS := hS.kept hk
       clear hk
       refine hK _ _ ?_; clear hK K
       refine wl_v (x_move (tmT rfl rfl)) ?_
       refine wl_v (x_ext (tmT rfl rfl) rfl) ?_
       refine wl_v (x_ext (tmT rfl rfl) rfl) ?_
       refine wl_e rfl ?_; intro K hK
       refine ow_alloc hS tz_64 rfl ?_
       clear hS; intro g6_6 w hg6_6 hS
       refine hK _ _ ?_; clear hK K
       refine wl_e rfl ?_; intro K hK
       refine ow_storeA hS 0 rfl ts_64 (tmP rfl rfl) (tmA rfl rfl) rfl rfl rfl ?_
       clear hS; intro w hS
       try replace hS := St.nm (M' := [.blk _ _ [_, _, _, _, _, _, _, _, _, _, _, _, _, _, _, _], .blk _ _ [_, _, _, _, _, _, _, _, _, _, _, _, _, _, _, _], _, .blk _ _ [_, _, _, _, _, _, _, _, _, _, _, _, _, _, _, _, _], .blk _ _ [_, _, _, _, _, _, _, _, _, _, _, _, _, _, _, _, _]]) hS rfl
       refine hK _ _ ?_; clear hK K
       refine wl_v (x_assign (tmB rfl rfl)) ?_
       refine wl_nil ?_
       refine then_n (hK10 _ _ ?_); clear hK10 K10
       refine wp_seq_k ?_; intro K11 hK11
       refine wlit ?_
       refine wl_v (x_loadA (cs := [_, _, _, _, _, _, _, _, _, _, _, _, _, _, _, _]) Try.underlying67 rfl ts_67 (tmP rfl rfl) (rangeB hS.ok 1 rfl rfl)) ?_
       refine wl_v (x_loadA (cs := [_, _, _, _, _, _, _, _, _, _, _, _, _, _, _, _]) Try.underlying64 rfl ts_64 (tmP rfl rfl) (rangeB hS.ok 0 rfl rfl)) ?_
       refine wl_v (x_Aneq (by kernel_rfl) (tmA rfl rfl) (tmA rfl rfl) (eqv_k16 Try.underlying67 (by kernel_rfl) Try.underlying5 (by kernel_rfl) (by kernel_rfl))) ?_
       refine wl_v (x_move (tmB rfl rfl)) ?_
       refine gs_wl (tm (t := 39) rfl) (fun hg7_3 => ?_) (fun hg7_3 => ?_)
       · exfalso
         simp at hg7_3
       have hg7_3' := hg7_3; (try simp only [nrm] at hg7_3'); try (exfalso; first | with_reducible exact absurd hg7_3 Bool.false_ne_true | with_reducible exact absurd hg7_3.symm Bool.false_ne_true | omega | (simp at hg7_3; done))
       all_goals
        refine wl_gv (want_y rfl rfl rfl rfl (by rw [hg7_3]; rfl)) (x_move (tmB rfl rfl)) ?_
        refine wl_gv (want_y rfl rfl rfl rfl (by rw [hg7_3]; rfl)) (x_move (tmB rfl rfl)) ?_
        refine wl_gv (want_y rfl rfl rfl rfl (by rw [hg7_3]; rfl)) (x_bneq Try.underlying4 (tmB rfl rfl) (tmB rfl rfl)) ?_
        refine wl_v (x_pickF (tmB rfl rfl) hg7_3 (tmB rfl rfl)) ?_
        refine wl_nil ?_
        refine then_n (hK11 _ _ ?_); clear hK11 K11
        refine cnd (tm rfl) (fun hc1 => ?_) (fun hc1 => ?_)
        · exfalso
          simp at hc1
        try (exfalso; first | with_reducible exact absurd hc1 Bool.false_ne_true | with_reducible exact absurd hc1.symm Bool.false_ne_true | (simp only [nrm] at hc1; omega) | (simp at hc1; done))
        all_goals
         try simp only [nrm] at hc1
         refine wp_skip ?_
         refine inb_n ?_
         refine then_n (hK7 _ _ ?_); clear hK7 K7
         refine wlit ?_
         first
          | refine wl_v (x_addN (tmI rfl rfl) (ev_cN 1) (fit_i64 (by omega))) ?_
          | refine wl_v (x_addI (tmI rfl rfl) (ev_cN 1) (IntWalk.i64_in _ (by omega))) ?_
          | refine wl_v (x_add (tmI rfl rfl) (ev_cN 1)) ?_
         refine wl_v (x_move (tmI rfl rfl)) ?_
         refine wl_nil ?_
         exact then_n ⟨_, _, rfl, (by show _ < _; omega), (by repeat (first | exact agree_self | exact agree_refl | refine agree_upd rfl ?_ | refine agree_mix rfl ?_)), j + 1, rfl, (by first | rfl | go_num | exact congrArg (Value.int _) (by first | omega | (simp; done) | (simp; omega))), (hS.pick [2, 3, 4] rfl rfl), (by omega)⟩
    try (exfalso; first | with_reducible exact absurd hc0 Bool.false_ne_true | with_reducible exact absurd hc0.symm Bool.false_ne_true | (simp only [nrm] at hc0; omega) | (simp at hc0; done))
    all_goals
     try simp only [nrm] at hc0
     refine wp_exit ?_
     refine then_x ?_; clear hK6 K6
     refine then_x ?_
     refine inb_x ?_
     refine then_n (hK3 _ _ ?_); clear hK3 K3
     refine wp_seq_k ?_; intro K12 hK12
     refine rg_startk 0 hS mixed_ ?_
     clear hS; intro w hS
     refine rg_take 0 rfl rfl (by kernel_rfl) (by kernel_rfl) (by kernel_rfl) (want_0) (fun w hok => x_loadA (cs := [_, _, _, _, _, _, _, _, _, _, _, _, _, _, _, _, _]) Try.underlying69 rfl ts_69 (tmP rfl rfl) (rangeB hok 1 rfl rfl)) ?_
     refine rg_take 2 rfl rfl (by kernel_rfl) (by kernel_rfl) (by kernel_rfl) (want_0) (fun w hok => x_fa 16 Try.underlying66 rfl rfl ts_24 (tmP rfl rfl)) ?_
     first
      | refine rg_take 3 rfl rfl (by kernel_rfl) (by kernel_rfl) (by kernel_rfl) (want_0) (fun w hok => x_load Try.underlying24 rfl (tmP rfl rfl) (cellB hok 2 rfl rfl)) ?_
      | refine rg_take 3 rfl rfl (by kernel_rfl) (by kernel_rfl) (by kernel_rfl) (want_0) (fun w hok => x_load Try.underlying24 rfl (tmP rfl rfl) (cellB hok 2 rfl (getm (by omega)))) ?_
     refine rg_step 1 rfl (by kernel_rfl) (want_0) (oks_drop hS 0 rfl) ?_; intro K hK
     refine ow_call Try.func39 rfl rfl (evs_cons (tmA rfl rfl) <| evs_nil) (ring_epoch_c k _ _) ?_
     rintro e w ⟨rfl, hk⟩
     refine ⟨_, rfl, ?_⟩
     replace hS := hS.kept hk
     clear hk
     refine hK _ _ ?_; clear hK K
     refine rg_take 4 rfl rfl (by kernel_rfl) (by kernel_rfl) (by kernel_rfl) (want_0) (fun w hok => x_eql (tmI rfl rfl) (tmI rfl rfl)) ?_
     refine rg_take 5 rfl rfl (by kernel_rfl) (by kernel_rfl) (by kernel_rfl) (want_0) (fun w hok => x_move (tmB rfl rfl)) ?_
     refine gs_rgs (tm (t := 50) rfl) (fun hg10_5 => ?_) (fun hg10_5 => ?_)
     · exfalso
       simp at hg10_5
     have hg10_5' := hg10_5; (try simp only [nrm] at hg10_5'); try (exfalso; first | with_reducible exact absurd hg10_5 Bool.false_ne_true | with_reducible exact absurd hg10_5.symm Bool.false_ne_true | omega | (simp at hg10_5; done))
     all_goals
      refine rg_take 6 rfl rfl (by kernel_rfl) (by kernel_rfl) (by kernel_rfl) (want_y rfl rfl rfl rfl (by rw [hg10_5]; rfl)) (fun w hok => x_loadA (cs := [_, _, _, _, _, _, _, _, _, _, _, _, _, _, _, _, _]) Try.underlying69 rfl ts_69 (tmP rfl rfl) (rangeB hok 1 rfl rfl)) ?_
      refine rg_take 8 rfl rfl (by kernel_rfl) (by kernel_rfl) (by kernel_rfl) (want_y rfl rfl rfl rfl (by rw [hg10_5]; rfl)) (fun w hok => x_fa 16 Try.underlying66 rfl rfl ts_24 (tmP rfl rfl)) ?_
      first
       | refine rg_take 9 rfl rfl (by kernel_rfl) (by kernel_rfl) (by kernel_rfl) (want_y rfl rfl rfl rfl (by rw [hg10_5]; rfl)) (fun w hok => x_load Try.underlying24 rfl (tmP rfl rfl) (cellB hok 2 rfl rfl)) ?_
       | refine rg_take 9 rfl rfl (by kernel_rfl) (by kernel_rfl) (by kernel_rfl) (want_y rfl rfl rfl rfl (by rw [hg10_5]; rfl)) (fun w hok => x_load Try.underlying24 rfl (tmP rfl rfl) (cellB hok 2 rfl (getm (by omega)))) ?_
      first
       | refine rg_take 10 rfl rfl (by kernel_rfl) (by kernel_rfl) (by kernel_rfl) (want_y rfl rfl rfl rfl (by rw [hg10_5]; rfl)) (fun w hok => x_remN (tmI rfl rfl) (ev_cN 2) (by omega)) ?_
       | refine rg_take 10 rfl rfl (by kernel_rfl) (by kernel_rfl) (by kernel_rfl) (want_y rfl rfl rfl rfl (by rw [hg10_5]; rfl)) (fun w hok => x_rem (tmI rfl rfl) (ev_cN 2) (by omega)) ?_
      first
       | refine rg_take 11 rfl rfl (by kernel_rfl) (by kernel_rfl) (by kernel_rfl) (want_y rfl rfl rfl rfl (by rw [hg10_5]; rfl)) (fun w hok => x_convN Try.underlying24 Try.underlying3 (tmI rfl rfl) (fit_i64 (by omega))) ?_
       | refine rg_take 11 rfl rfl (by kernel_rfl) (by kernel_rfl) (by kernel_rfl) (want_y rfl rfl rfl rfl (by rw [hg10_5]; rfl)) (fun w hok => x_conv Try.underlying24 Try.underlying3 (tmI rfl rfl)) ?_
      refine rg_step 7 rfl (by kernel_rfl) (want_y rfl rfl rfl rfl (by rw [hg10_5]; rfl)) (oks_drop hS 0 rfl) ?_; intro K hK
      refine ow_call Try.func40 rfl rfl (evs_cons (tmA rfl rfl) <| evs_nil) (ring_bit_c k u _) ?_
      rintro e w ⟨rfl, hk⟩
      refine ⟨_, rfl, ?_⟩
      replace hS := hS.kept hk
      clear hk
      refine hK _ _ ?_; clear hK K
      refine rg_take 12 rfl rfl (by kernel_rfl) (by kernel_rfl) (by kernel_rfl) (want_y rfl rfl rfl rfl (by rw [hg10_5]; rfl)) (fun w hok => x_eql (tmI rfl rfl) (tmI rfl rfl)) ?_
      refine rg_take 13 rfl rfl (by kernel_rfl) (by kernel_rfl) (by kernel_rfl) (want_0) (fun w hok => x_pickT (tmB rfl rfl) hg10_5 (tmB rfl rfl)) ?_
      refine rg_take 14 rfl rfl (by kernel_rfl) (by kernel_rfl) (by kernel_rfl) (want_0) (fun w hok => x_move (tmB rfl rfl)) ?_
      refine gs_rgs (tm (t := 59) rfl) (fun hg10_14 => ?_) (fun hg10_14 => ?_)
      · exfalso
        simp at hg10_14
      have hg10_14' := hg10_14; (try simp only [nrm] at hg10_14'); try (exfalso; first | with_reducible exact absurd hg10_14 Bool.false_ne_true | with_reducible exact absurd hg10_14.symm Bool.false_ne_true | omega | (simp at hg10_14; done))
      all_goals
       refine rg_take 15 rfl rfl (by kernel_rfl) (by kernel_rfl) (by kernel_rfl) (want_y rfl rfl rfl rfl (by rw [hg10_14]; rfl)) (fun w hok => x_loadA (cs := [_, _, _, _, _, _, _, _, _, _, _, _, _, _, _, _, _]) Try.underlying69 rfl ts_69 (tmP rfl rfl) (rangeB hok 1 rfl rfl)) ?_
       refine rg_take 18 rfl rfl (by kernel_rfl) (by kernel_rfl) (by kernel_rfl) (want_y rfl rfl rfl rfl (by rw [hg10_14]; rfl)) (fun w hok => x_fa 16 Try.underlying66 rfl rfl ts_24 (tmP rfl rfl)) ?_
       first
        | refine rg_take 19 rfl rfl (by kernel_rfl) (by kernel_rfl) (by kernel_rfl) (want_y rfl rfl rfl rfl (by rw [hg10_14]; rfl)) (fun w hok => x_load Try.underlying24 rfl (tmP rfl rfl) (cellB hok 2 rfl rfl)) ?_
        | refine rg_take 19 rfl rfl (by kernel_rfl) (by kernel_rfl) (by kernel_rfl) (want_y rfl rfl rfl rfl (by rw [hg10_14]; rfl)) (fun w hok => x_load Try.underlying24 rfl (tmP rfl rfl) (cellB hok 2 rfl (getm (by omega)))) ?_
       refine rg_take 20 rfl rfl (by kernel_rfl) (by kernel_rfl) (by kernel_rfl) (want_y rfl rfl rfl rfl (by rw [hg10_14]; rfl)) (fun w hok => x_addU (tmI rfl rfl) (ev_cN 1) rfl) ?_
       refine rg_step 16 rfl (by kernel_rfl) (want_y rfl rfl rfl rfl (by rw [hg10_14]; rfl)) (oks_drop hS 0 rfl) ?_; intro K hK
       refine ow_call Try.func41 rfl rfl (evs_cons (tmA rfl rfl) <| evs_nil) (ring_next_c k u _) ?_
       rintro e w ⟨rfl, hk⟩
       refine ⟨_, rfl, ?_⟩
       replace hS := hS.kept hk
       clear hk
       refine hK _ _ ?_; clear hK K
       refine rg_step 17 rfl (by kernel_rfl) (want_y rfl rfl rfl rfl (by rw [hg10_14]; rfl)) (oks_drop hS 0 rfl) ?_; intro K hK
       refine ow_call Try.func39 rfl rfl (evs_cons (tmA rfl rfl) <| evs_nil) (ring_epoch_c k _ _) ?_
       rintro e w ⟨rfl, hk⟩
       refine ⟨_, rfl, ?_⟩
       replace hS := hS.kept hk
       clear hk
       refine hK _ _ ?_; clear hK K
       refine rg_take 21 rfl rfl (by kernel_rfl) (by kernel_rfl) (by kernel_rfl) (want_y rfl rfl rfl rfl (by rw [hg10_14]; rfl)) (fun w hok => x_eql (tmI rfl rfl) (tmI rfl rfl)) ?_
       refine rg_take 22 rfl rfl (by kernel_rfl) (by kernel_rfl) (by kernel_rfl) (want_0) (fun w hok => x_pickT (tmB rfl rfl) hg10_14 (tmB rfl rfl)) ?_
       refine rg_take 23 rfl rfl (by kernel_rfl) (by kernel_rfl) (by kernel_rfl) (want_0) (fun w hok => x_move (tmB rfl rfl)) ?_
       refine gs_rgs (tm (t := 68) rfl) (fun hg10_23 => ?_) (fun hg10_23 => ?_)
       · exfalso
         simp [IntKind.bits] at hg10_23
       have hg10_23' := hg10_23; (try simp only [nrm] at hg10_23'); try (exfalso; first | with_reducible exact absurd hg10_23 Bool.false_ne_true | with_reducible exact absurd hg10_23.symm Bool.false_ne_true | omega | (simp at hg10_23; done))
       all_goals
        refine rg_step 24 rfl (by kernel_rfl) (want_y rfl rfl rfl rfl (by rw [hg10_23]; rfl)) (oks_drop hS 0 rfl) ?_; intro K hK
        refine ow_call Try.func42 rfl rfl (evs_nil) (law11_awake_c _) ?_
        rintro e w ⟨rfl, hk⟩
        refine ⟨_, rfl, ?_⟩
        replace hS := hS.kept hk
        clear hk
        refine hK _ _ ?_; clear hK K
        refine rg_take 25 rfl rfl (by kernel_rfl) (by kernel_rfl) (by kernel_rfl) (want_0) (fun w hok => x_pickT (tmB rfl rfl) hg10_23 (tmB rfl rfl)) ?_
        refine rg_take 26 rfl rfl (by kernel_rfl) (by kernel_rfl) (by kernel_rfl) (want_0) (fun w hok => x_assign (tmB rfl rfl)) ?_
        refine rg_done (oks_drop hS 0 rfl) (by kernel_rfl) ?_
        refine then_n (hK12 _ _ ?_); clear hK12 K12
        refine wp_ret ?_
        refine ret1 rfl (.tmp rfl (show _ = Value.bool _ from rfl)) ?_
        exact ⟨rfl, hS.kp.below⟩
set_option maxRecDepth 100000 in
theorem walk (v : Value) (bit : Int) (w0 : World) {H : Type} {enc : TypeId × Value → H} {r : Reach} {b0 : Nat} {d : DataW H} {ps : List MemPlace} (hval : Value.okWide Try.prog w0 r b0 66 v) (hd : DataW.Trod enc Try.prog w0 0 (fun _ => true) true 66 v d ps) (hlt : ∀ p ∈ ps, p.block < w0.heap.size) (_ : -9223372036854775808 ≤ bit ∧ bit ≤ 9223372036854775807) :
    Calls Try.prog 6 #[v, .int .i64 bit] w0 fun e w' => e = .returned (.bool true) ∧ Below w0.heap.size w0 w' := by
  obtain ⟨s, rfl, hs⟩ := RRing.open_a hval hd hlt
  obtain ⟨k, u⟩ := s
  exact walkC k u bit w0 hs.1 hs.2
end RingKeys
end Go.Proofs.Ytilgolflpdpfnaa
