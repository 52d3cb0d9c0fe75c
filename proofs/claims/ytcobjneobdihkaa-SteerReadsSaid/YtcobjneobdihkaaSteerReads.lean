/- Proved: SteerReads returns true for every input, and changes no memory that was there. Conditions: none. -/
import Derived.Test.YtcobjneobdihkaaStQ6
import Derived.Test.YtcobjneobdihkaaStA
import Derived.Test.YtcobjneobdihkaaKitW
namespace Go.Proofs.Ytcobjneobdihkaa
open Go.ChangeShapes Go.WideShapes Go.ChangeAt Go.RowKit
namespace SteerReads
set_option maxRecDepth 100000 in
set_option maxHeartbeats 8000000 in
theorem walk (A : Option Addr) (n c : Nat) (l : List Nat) (b : Bool) (w0 : World)
    (r1 : l.length = n ∧ (A = none → c = 0) ∧ BView w0 w0.heap.size A l ∧ n ≤ c) :
    Calls Try.prog 3 #[.slice A n c, .bool b] w0 fun e w' => e = .returned (.bool true) ∧ Below w0.heap.size w0 w' := by
  obtain ⟨rfl, _, ⟨hb, hv⟩, hc⟩ := r1
  have hS := (St.sv w0).vcons rfl hv
  by_cases hbig : l.length ≤ 3000
  · obtain ⟨s, d, sp, dp, pr, st, has, ok, hA, hB⟩ := steer_ex b l hb hbig
    refine ent (n := 42) Try.func3 rfl rfl ?_
    refine wp_seq_k ?_; intro K1 hK1
    refine wlit ?_
    refine wl_v (x_assign ev_c) ?_
    refine wl_nil ?_
    refine then_n (hK1 _ _ ?_); clear hK1 K1
    refine wp_seq_k ?_; intro K2 hK2
    refine wp_seq_k ?_; intro K3 hK3
    refine wlit ?_
    refine wl_v (x_move (tmS rfl rfl)) ?_
    refine wl_v (x_len Try.underlying22 (tmS rfl rfl)) ?_
    refine wl_v (x_gtr (tmI rfl rfl) (ev_cN 3000)) ?_
    refine wl_nil ?_
    refine then_n (hK3 _ _ ?_); clear hK3 K3
    refine cnd (tm rfl) (fun hc0 => ?_) (fun hc0 => ?_)
    · exfalso
      simp at hc0
      omega
    all_goals
     try simp only [nrm] at hc0
     refine wp_skip ?_
     refine then_n (hK2 _ _ ?_); clear hK2 K2
     refine wp_seq_k ?_; intro K4 hK4
     refine wlit ?_
     refine wl_v (x_move (tmS rfl rfl)) ?_
     refine wl_v (x_move (tmB rfl rfl)) ?_
     refine wl_e rfl ?_; intro K hK
     refine ow_call Try.func6 rfl rfl (evs_cons (tmS rfl rfl) <| evs_cons (tmB rfl rfl) <| evs_nil) (hA _ A c (viewV hS.ok 0 rfl) hc) ?_
     rintro e w ⟨rfl, hk⟩
     refine ⟨_, rfl, ?_⟩
     replace hS := hS.kept hk
     clear hk
     refine hK _ _ ?_; clear hK K
     refine wl_v (x_move (tmT rfl rfl)) ?_
     refine wl_v (x_ext (tmT rfl rfl) rfl) ?_
     refine wl_v (x_ext (tmT rfl rfl) rfl) ?_
     refine wl_e rfl ?_; intro K hK
     refine ow_alloc hS tz_32 rfl ?_
     clear hS; intro g3_6 w hg3_6 hS
     refine hK _ _ ?_; clear hK K
     refine wl_e rfl ?_; intro K hK
     refine ow_storeA hS 0 rfl ts_32 (tmP rfl rfl) (tmA rfl rfl) rfl rfl rfl ?_
     clear hS; intro w hS
     try replace hS := St.nm (M' := [.blk _ _ [_, _, _, _, _, _, _, _, _, _, _], .vw _ _]) hS rfl
     refine hK _ _ ?_; clear hK K
     refine wl_v (x_assign (tmB rfl rfl)) ?_
     refine wl_nil ?_
     refine then_n (hK4 _ _ ?_); clear hK4 K4
     refine wp_seq_k ?_; intro K5 hK5
     refine wlit ?_
     refine wl_v (x_move (tmS rfl rfl)) ?_
     refine wl_v (x_move (tmB rfl rfl)) ?_
     refine wl_e rfl ?_; intro K hK
     refine ow_call Try.func7 rfl rfl (evs_cons (tmS rfl rfl) <| evs_cons (tmB rfl rfl) <| evs_nil) (hB _ A c (viewV hS.ok 1 rfl) hc) ?_
     rintro e w ⟨rfl, hk⟩
     refine ⟨_, rfl, ?_⟩
     replace hS := hS.kept hk
     clear hk
     refine hK _ _ ?_; clear hK K
     refine wl_v (x_move (tmT rfl rfl)) ?_
     refine wl_v (x_ext (tmT rfl rfl) rfl) ?_
     refine wl_v (x_ext (tmT rfl rfl) rfl) ?_
     refine wl_e rfl ?_; intro K hK
     refine ow_alloc hS tz_35 rfl ?_
     clear hS; intro g4_6 w hg4_6 hS
     refine hK _ _ ?_; clear hK K
     refine wl_e rfl ?_; intro K hK
     refine ow_storeA hS 0 rfl ts_35 (tmP rfl rfl) (tmA rfl rfl) rfl rfl rfl ?_
     clear hS; intro w hS
     try replace hS := St.nm (M' := [.blk _ _ [_, _, _, _, _, _, _, _, _, _, _], .blk _ _ [_, _, _, _, _, _, _, _, _, _, _], .vw _ _]) hS rfl
     refine hK _ _ ?_; clear hK K
     refine wl_v (x_assign (tmB rfl rfl)) ?_
     refine wl_nil ?_
     refine then_n (hK5 _ _ ?_); clear hK5 K5
     refine wp_seq_k ?_; intro K6 hK6
     refine wlit ?_
     refine wl_v (x_loadA (cs := [_, _, _, _, _, _, _, _, _, _, _]) Try.underlying32 rfl ts_32 (tmP rfl rfl) (rangeB hS.ok 1 rfl rfl)) ?_
     refine wl_v (x_fa 0 Try.underlying35 rfl rfl ts_29 (tmP rfl rfl)) ?_
     refine wl_v (x_loadA (cs := [_, _, _, _, _, _, _, _, _]) Try.underlying29 rfl ts_29 (tmP rfl rfl) (rangeB hS.ok 0 rfl rfl)) ?_
     refine wl_v (x_fa 9 Try.underlying35 rfl rfl ts_30 (tmP rfl rfl)) ?_
     refine wl_v (x_load Try.underlying30 rfl (tmP rfl rfl) (cellB hS.ok 0 rfl rfl)) ?_
     refine wl_v (x_fa 10 Try.underlying35 rfl rfl ts_4 (tmP rfl rfl)) ?_
     refine wl_v (x_load Try.underlying4 rfl (tmP rfl rfl) (cellB hS.ok 0 rfl rfl)) ?_
     refine wl_v (x_build (bc_takeL (tmA rfl rfl) <| bc_take (tmI rfl rfl) <| bc_take (tmB rfl rfl) <| bc_nil) (by kernel_rfl)) ?_
     refine wl_v (x_Aeql (by kernel_rfl) (tmA rfl rfl) (tmA rfl rfl) (eqv_A Try.underlying32 (by kernel_rfl) (fe_cons rfl (pt_A (cs := [_, _, _, _, _, _, _, _, _]) Try.underlying29 rfl ts_29 rfl) (pt_A (cs := [_, _, _, _, _, _, _, _, _]) Try.underlying29 rfl ts_29 rfl) (eqv_A Try.underlying29 (by kernel_rfl) (fe_cons rfl (pt_A (cs := [_, _, _]) Try.underlying26 rfl ts_26 rfl) (pt_A (cs := [_, _, _]) Try.underlying26 rfl ts_26 rfl) (eqv_A Try.underlying26 (by kernel_rfl) (fe_cons rfl (pt_1 Try.underlying4 rfl rfl) (pt_1 Try.underlying4 rfl rfl) (eqv_b Try.underlying4) <| fe_cons rfl (pt_1 Try.underlying24 rfl rfl) (pt_1 Try.underlying24 rfl rfl) (eqv_i Try.underlying24) <| fe_cons rfl (pt_1 Try.underlying24 rfl rfl) (pt_1 Try.underlying24 rfl rfl) (eqv_i Try.underlying24) <| fe_nil)) <| fe_cons rfl (pt_A (cs := [_, _, _]) Try.underlying26 rfl ts_26 rfl) (pt_A (cs := [_, _, _]) Try.underlying26 rfl ts_26 rfl) (eqv_A Try.underlying26 (by kernel_rfl) (fe_cons rfl (pt_1 Try.underlying4 rfl rfl) (pt_1 Try.underlying4 rfl rfl) (eqv_b Try.underlying4) <| fe_cons rfl (pt_1 Try.underlying24 rfl rfl) (pt_1 Try.underlying24 rfl rfl) (eqv_i Try.underlying24) <| fe_cons rfl (pt_1 Try.underlying24 rfl rfl) (pt_1 Try.underlying24 rfl rfl) (eqv_i Try.underlying24) <| fe_nil)) <| fe_cons rfl (pt_1 Try.underlying27 rfl rfl) (pt_1 Try.underlying27 rfl rfl) (eqv_i Try.underlying27) <| fe_cons rfl (pt_1 Try.underlying27 rfl rfl) (pt_1 Try.underlying27 rfl rfl) (eqv_i Try.underlying27) <| fe_cons rfl (pt_1 Try.underlying5 rfl rfl) (pt_1 Try.underlying5 rfl rfl) (eqv_i Try.underlying5) <| fe_nil)) <| fe_cons rfl (pt_1 Try.underlying30 rfl rfl) (pt_1 Try.underlying30 rfl rfl) (eqv_i Try.underlying30) <| fe_cons rfl (pt_1 Try.underlying4 rfl rfl) (pt_1 Try.underlying4 rfl rfl) (eqv_b Try.underlying4) <| fe_nil))) ?_
     refine wl_v (x_move (tmB rfl rfl)) ?_
     refine gs_wl (tm (t := 34) rfl) (fun hg5_9 => ?_) (fun hg5_9 => ?_)
     · have hg5_9' := hg5_9; (try simp only [nrm] at hg5_9')
       all_goals
        refine wl_gv (want_y rfl rfl rfl rfl (by rw [hg5_9]; rfl)) (x_move (tmB rfl rfl)) ?_
        refine wl_gv (want_y rfl rfl rfl rfl (by rw [hg5_9]; rfl)) (x_move (tmB rfl rfl)) ?_
        refine wl_gv (want_y rfl rfl rfl rfl (by rw [hg5_9]; rfl)) (x_beql Try.underlying4 (tmB rfl rfl) (tmB rfl rfl)) ?_
        refine wl_v (x_pickT (tmB rfl rfl) hg5_9 (tmB rfl rfl)) ?_
        refine wl_v (x_move (tmB rfl rfl)) ?_
        refine gs_wl (tm (t := 39) rfl) (fun hg5_14 => ?_) (fun hg5_14 => ?_)
        · have hg5_14' := hg5_14; (try simp only [nrm] at hg5_14')
          all_goals
           refine wl_g (want_y rfl rfl rfl rfl (by rw [hg5_14]; rfl)) ?_; intro K hK
           refine ow_call Try.func5 rfl rfl (evs_nil) (law29_awake_c _) ?_
           rintro e w ⟨rfl, hk⟩
           refine ⟨_, rfl, ?_⟩
           replace hS := hS.kept hk
           clear hk
           refine hK _ _ ?_; clear hK K
           refine wl_v (x_pickT (tmB rfl rfl) hg5_14 (tmB rfl rfl)) ?_
           refine wl_v (x_assign (tmB rfl rfl)) ?_
           refine wl_nil ?_
           refine then_n (hK6 _ _ ?_); clear hK6 K6
           refine wp_ret ?_
           refine ret1 rfl (.tmp rfl (show _ = Value.bool _ from rfl)) ?_
           exact ⟨by simp, hS.kp.below⟩
        have hg5_14' := hg5_14; (try simp only [nrm] at hg5_14'); try (exfalso; first | with_reducible exact absurd hg5_14 Bool.false_ne_true | with_reducible exact absurd hg5_14.symm Bool.false_ne_true | omega | (simp at hg5_14; done))
        all_goals
         refine wl_s rfl (want_n rfl rfl rfl rfl (by rw [hg5_14]; rfl)) ?_
         refine wl_v (x_pickF (tmB rfl rfl) hg5_14 ev_c) ?_
         refine wl_v (x_assign (tmB rfl rfl)) ?_
         refine wl_nil ?_
         refine then_n (hK6 _ _ ?_); clear hK6 K6
         refine wp_ret ?_
         refine ret1 rfl (.tmp rfl (show _ = Value.bool _ from rfl)) ?_
         exact ⟨by simp, hS.kp.below⟩
     have hg5_9' := hg5_9; (try simp only [nrm] at hg5_9'); try (exfalso; first | with_reducible exact absurd hg5_9 Bool.false_ne_true | with_reducible exact absurd hg5_9.symm Bool.false_ne_true | omega | (simp at hg5_9; done))
     all_goals
      refine wl_s rfl (want_n rfl rfl rfl rfl (by rw [hg5_9]; rfl)) ?_
      refine wl_s rfl (want_n rfl rfl rfl rfl (by rw [hg5_9]; rfl)) ?_
      refine wl_s rfl (want_n rfl rfl rfl rfl (by rw [hg5_9]; rfl)) ?_
      refine wl_v (x_pickF (tmB rfl rfl) hg5_9 ev_c) ?_
      refine wl_v (x_move (tmB rfl rfl)) ?_
      refine wl_s rfl (want_n rfl rfl rfl rfl rfl) ?_
      refine wl_v (x_pickF (tmB rfl rfl) rfl ev_c) ?_
      refine wl_v (x_assign (tmB rfl rfl)) ?_
      refine wl_nil ?_
      refine then_n (hK6 _ _ ?_); clear hK6 K6
      refine wp_ret ?_
      refine ret1 rfl (.tmp rfl (show _ = Value.bool _ from rfl)) ?_
      exact ⟨by simp, hS.kp.below⟩
  · skip
    refine ent (n := 42) Try.func3 rfl rfl ?_
    refine wp_seq_k ?_; intro K1 hK1
    refine wlit ?_
    refine wl_v (x_assign ev_c) ?_
    refine wl_nil ?_
    refine then_n (hK1 _ _ ?_); clear hK1 K1
    refine wp_seq_k ?_; intro K2 hK2
    refine wp_seq_k ?_; intro K3 hK3
    refine wlit ?_
    refine wl_v (x_move (tmS rfl rfl)) ?_
    refine wl_v (x_len Try.underlying22 (tmS rfl rfl)) ?_
    refine wl_v (x_gtr (tmI rfl rfl) (ev_cN 3000)) ?_
    refine wl_nil ?_
    refine then_n (hK3 _ _ ?_); clear hK3 K3
    refine cnds (tm rfl) (fun hc0 => ?_) (fun hc0 => ?_)
    · exfalso
      simp at hc0
      omega
    all_goals
     try simp only [nrm] at hc0
     refine wp_seq_k ?_; intro K4 hK4
     refine wlit ?_
     refine wl_e rfl ?_; intro K hK
     refine ow_call Try.func5 rfl rfl (evs_nil) (law29_awake_c _) ?_
     rintro e w ⟨rfl, hk⟩
     refine ⟨_, rfl, ?_⟩
     replace hS := hS.kept hk
     clear hk
     refine hK _ _ ?_; clear hK K
     refine wl_v (x_assign (tmB rfl rfl)) ?_
     refine wl_nil ?_
     refine then_n (hK4 _ _ ?_); clear hK4 K4
     refine wp_ret ?_
     refine then_r ?_
     refine ret1 rfl (.tmp rfl (show _ = Value.bool _ from rfl)) ?_
     exact ⟨rfl, hS.kp.below⟩
end SteerReads
end Go.Proofs.Ytcobjneobdihkaa
