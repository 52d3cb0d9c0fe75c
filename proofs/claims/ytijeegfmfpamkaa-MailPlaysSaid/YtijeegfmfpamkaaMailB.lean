
/- mail's reference and the example. Conditions: none but bounds. -/
import Derived.Test.YtijeegfmfpamkaaMail
namespace Go.Proofs.Ytijeegfmfpamkaa
open Go.ChangeShapes Go.WideShapes Go.ChangeAt Go.RowKit

set_option maxRecDepth 100000 in
set_option maxHeartbeats 4000000 in
theorem same_c (x y : GLt) (w0 : World) (hs : x.node = y.node ∧ x.back = y.back ∧ x.b.l = y.b.l) (hv : View w0 w0.heap.size x.b.a (x.b.l.map u8v)) (hv2 : View w0 w0.heap.size y.b.a (y.b.l.map u8v)) (hb : Bytes y.b.l) :
    Calls Try.prog 11 #[.agg #[.int .i64 x.node, .bool x.back, .slice x.b.a x.b.l.length x.b.c], .agg #[.int .i64 y.node, .bool y.back, .slice y.b.a y.b.l.length y.b.c]] w0 fun e w' => e = .returned (.bool true) ∧ Kp [] w0 w' := by
  obtain ⟨node, back, ⟨A, l, c⟩⟩ := x
  obtain ⟨node2, back2, ⟨B, l2, d⟩⟩ := y
  obtain ⟨h1, h2, h3⟩ := hs
  change node = node2 at h1
  change back = back2 at h2
  change l = l2 at h3
  subst h1 h2 h3
  replace hv : View w0 w0.heap.size A (l.map u8v) := hv
  replace hv2 : View w0 w0.heap.size B (l.map u8v) := hv2
  replace hb : Bytes l := hb
  have hS := ((St.sv w0).vcons rfl hv2).vcons rfl hv
  refine ent (n := 26) Try.func11 rfl rfl ?_
  refine wp_seq_k ?_; intro K1 hK1
  refine wlit ?_
  refine wl_e rfl ?_; intro K hK
  refine ow_box hS (tmA rfl rfl) rfl ?_
  clear hS; intro g0_0 w hg0_0 hS
  refine hK _ _ ?_; clear hK K
  refine wl_e rfl ?_; intro K hK
  refine ow_box hS (tmA rfl rfl) rfl ?_
  clear hS; intro g0_1 w hg0_1 hS
  refine hK _ _ ?_; clear hK K
  refine wl_v (x_assign ev_c) ?_
  refine wl_nil ?_
  refine then_n (hK1 _ _ ?_); clear hK1 K1
  refine wp_seq_k ?_; intro K2 hK2
  refine wlit ?_
  refine wl_v (x_fa 0 Try.underlying31 rfl rfl ts_3 (tmP rfl rfl)) ?_
  first
   | refine wl_v (x_load Try.underlying3 rfl (tmP rfl rfl) (cellB hS.ok 1 rfl rfl)) ?_
   | refine wl_v (x_load Try.underlying3 rfl (tmP rfl rfl) (cellB hS.ok 1 rfl (getm (by omega)))) ?_
  refine wl_v (x_fa 0 Try.underlying28 rfl rfl ts_3 (tmP rfl rfl)) ?_
  first
   | refine wl_v (x_load Try.underlying3 rfl (tmP rfl rfl) (cellB hS.ok 0 rfl rfl)) ?_
   | refine wl_v (x_load Try.underlying3 rfl (tmP rfl rfl) (cellB hS.ok 0 rfl (getm (by omega)))) ?_
  refine wl_v (x_eql (tmI rfl rfl) (tmI rfl rfl)) ?_
  refine wl_v (x_move (tmB rfl rfl)) ?_
  refine gs_wl (tm (t := 10) rfl) (fun hg1_5 => ?_) (fun hg1_5 => ?_)
  · have hg1_5' := hg1_5; (try simp only [nrm] at hg1_5'); try (exfalso; first | with_reducible exact absurd hg1_5 Bool.false_ne_true | with_reducible exact absurd hg1_5.symm Bool.false_ne_true | omega | (simp at hg1_5; done))
    all_goals
     refine wl_gv (want_y rfl rfl rfl rfl (by rw [hg1_5]; rfl)) (x_fa 1 Try.underlying31 rfl rfl ts_4 (tmP rfl rfl)) ?_
     first
      | refine wl_gv (want_y rfl rfl rfl rfl (by rw [hg1_5]; rfl)) (x_load Try.underlying4 rfl (tmP rfl rfl) (cellB hS.ok 1 rfl rfl)) ?_
      | refine wl_gv (want_y rfl rfl rfl rfl (by rw [hg1_5]; rfl)) (x_load Try.underlying4 rfl (tmP rfl rfl) (cellB hS.ok 1 rfl (getm (by omega)))) ?_
     refine wl_gv (want_y rfl rfl rfl rfl (by rw [hg1_5]; rfl)) (x_fa 1 Try.underlying28 rfl rfl ts_4 (tmP rfl rfl)) ?_
     first
      | refine wl_gv (want_y rfl rfl rfl rfl (by rw [hg1_5]; rfl)) (x_load Try.underlying4 rfl (tmP rfl rfl) (cellB hS.ok 0 rfl rfl)) ?_
      | refine wl_gv (want_y rfl rfl rfl rfl (by rw [hg1_5]; rfl)) (x_load Try.underlying4 rfl (tmP rfl rfl) (cellB hS.ok 0 rfl (getm (by omega)))) ?_
     refine wl_gv (want_y rfl rfl rfl rfl (by rw [hg1_5]; rfl)) (x_beql Try.underlying4 (tmB rfl rfl) (tmB rfl rfl)) ?_
     refine wl_v (x_pickT (tmB rfl rfl) hg1_5 (tmB rfl rfl)) ?_
     refine wl_v (x_move (tmB rfl rfl)) ?_
     refine gs_wl (tm (t := 17) rfl) (fun hg1_12 => ?_) (fun hg1_12 => ?_)
     · have hg1_12' := hg1_12; (try simp only [nrm] at hg1_12'); try (exfalso; first | with_reducible exact absurd hg1_12 Bool.false_ne_true | with_reducible exact absurd hg1_12.symm Bool.false_ne_true | omega | (simp at hg1_12; done))
       all_goals
        refine wl_gv (want_y rfl rfl rfl rfl (by rw [hg1_12]; rfl)) (x_fa 2 Try.underlying31 rfl rfl ts_26 (tmP rfl rfl)) ?_
        first
         | refine wl_gv (want_y rfl rfl rfl rfl (by rw [hg1_12]; rfl)) (x_load Try.underlying26 rfl (tmP rfl rfl) (cellB hS.ok 1 rfl rfl)) ?_
         | refine wl_gv (want_y rfl rfl rfl rfl (by rw [hg1_12]; rfl)) (x_load Try.underlying26 rfl (tmP rfl rfl) (cellB hS.ok 1 rfl (getm (by omega)))) ?_
        refine wl_gv (want_y rfl rfl rfl rfl (by rw [hg1_12]; rfl)) (x_bstr Try.underlying26 Try.underlying5 Try.underlying9 (tmS rfl rfl) (viewV hS.ok 2 rfl) hb rfl) ?_
        refine wl_gv (want_y rfl rfl rfl rfl (by rw [hg1_12]; rfl)) (x_fa 2 Try.underlying28 rfl rfl ts_26 (tmP rfl rfl)) ?_
        first
         | refine wl_gv (want_y rfl rfl rfl rfl (by rw [hg1_12]; rfl)) (x_load Try.underlying26 rfl (tmP rfl rfl) (cellB hS.ok 0 rfl rfl)) ?_
         | refine wl_gv (want_y rfl rfl rfl rfl (by rw [hg1_12]; rfl)) (x_load Try.underlying26 rfl (tmP rfl rfl) (cellB hS.ok 0 rfl (getm (by omega)))) ?_
        refine wl_gv (want_y rfl rfl rfl rfl (by rw [hg1_12]; rfl)) (x_bstr Try.underlying26 Try.underlying5 Try.underlying9 (tmS rfl rfl) (viewV hS.ok 3 rfl) hb rfl) ?_
        refine wl_gv (want_y rfl rfl rfl rfl (by rw [hg1_12]; rfl)) (x_Geql (tmG rfl rfl) (tmG rfl rfl) hb hb) ?_
        refine wl_v (x_pickT (tmB rfl rfl) hg1_12 (tmB rfl rfl)) ?_
        refine wl_v (x_assign (tmB rfl rfl)) ?_
        refine wl_nil ?_
        refine then_n (hK2 _ _ ?_); clear hK2 K2
        refine wp_ret ?_
        refine ret1 rfl (.tmp rfl (show _ = Value.bool _ from rfl)) ?_
        exact ⟨by simp, hS.kp⟩
     have hg1_12' := hg1_12; (try simp only [nrm] at hg1_12'); try (exfalso; first | with_reducible exact absurd hg1_12 Bool.false_ne_true | with_reducible exact absurd hg1_12.symm Bool.false_ne_true | omega | (simp at hg1_12; done))
     all_goals
      refine wl_s rfl (want_n rfl rfl rfl rfl (by rw [hg1_12]; rfl)) ?_
      refine wl_s rfl (want_n rfl rfl rfl rfl (by rw [hg1_12]; rfl)) ?_
      refine wl_s rfl (want_n rfl rfl rfl rfl (by rw [hg1_12]; rfl)) ?_
      refine wl_s rfl (want_n rfl rfl rfl rfl (by rw [hg1_12]; rfl)) ?_
      refine wl_s rfl (want_n rfl rfl rfl rfl (by rw [hg1_12]; rfl)) ?_
      refine wl_s rfl (want_n rfl rfl rfl rfl (by rw [hg1_12]; rfl)) ?_
      refine wl_s rfl (want_n rfl rfl rfl rfl (by rw [hg1_12]; rfl)) ?_
      refine wl_v (x_pickF (tmB rfl rfl) hg1_12 ev_c) ?_
      refine wl_v (x_assign (tmB rfl rfl)) ?_
      refine wl_nil ?_
      refine then_n (hK2 _ _ ?_); clear hK2 K2
      refine wp_ret ?_
      refine ret1 rfl (.tmp rfl (show _ = Value.bool _ from rfl)) ?_
      exact ⟨by simp, hS.kp⟩
  have hg1_5' := hg1_5; (try simp only [nrm] at hg1_5'); try (exfalso; first | with_reducible exact absurd hg1_5 Bool.false_ne_true | with_reducible exact absurd hg1_5.symm Bool.false_ne_true | omega | (simp at hg1_5; done))
  all_goals
   refine wl_s rfl (want_n rfl rfl rfl rfl (by rw [hg1_5]; rfl)) ?_
   refine wl_s rfl (want_n rfl rfl rfl rfl (by rw [hg1_5]; rfl)) ?_
   refine wl_s rfl (want_n rfl rfl rfl rfl (by rw [hg1_5]; rfl)) ?_
   refine wl_s rfl (want_n rfl rfl rfl rfl (by rw [hg1_5]; rfl)) ?_
   refine wl_s rfl (want_n rfl rfl rfl rfl (by rw [hg1_5]; rfl)) ?_
   refine wl_v (x_pickF (tmB rfl rfl) hg1_5 ev_c) ?_
   refine wl_v (x_move (tmB rfl rfl)) ?_
   refine wl_s rfl (want_n rfl rfl rfl rfl rfl) ?_
   refine wl_s rfl (want_n rfl rfl rfl rfl rfl) ?_
   refine wl_s rfl (want_n rfl rfl rfl rfl rfl) ?_
   refine wl_s rfl (want_n rfl rfl rfl rfl rfl) ?_
   refine wl_s rfl (want_n rfl rfl rfl rfl rfl) ?_
   refine wl_s rfl (want_n rfl rfl rfl rfl rfl) ?_
   refine wl_s rfl (want_n rfl rfl rfl rfl rfl) ?_
   refine wl_v (x_pickF (tmB rfl rfl) rfl ev_c) ?_
   refine wl_v (x_assign (tmB rfl rfl)) ?_
   refine wl_nil ?_
   refine then_n (hK2 _ _ ?_); clear hK2 K2
   refine wp_ret ?_
   refine ret1 rfl (.tmp rfl (show _ = Value.bool _ from rfl)) ?_
   exact ⟨by simp, hS.kp⟩

set_option maxRecDepth 100000 in
set_option maxHeartbeats 4000000 in
theorem law34_awake_c (w0 : World) : Calls Try.prog 5 #[] w0 fun e w' => e = .returned (.bool true) ∧ Kp [] w0 w' := by
  have hS := St.sv w0
  have hb0 : ∀ {w : World} {A : Option Addr}, View w w.heap.size A (([] : List Nat).map u8v) := fun {w A} => View.nil_
  refine ent (n := 38) Try.func5 rfl rfl ?_
  refine wp_seq_k ?_; intro K1 hK1
  refine wlit ?_
  refine wl_v (x_assign ev_c) ?_
  refine wl_nil ?_
  refine then_n (hK1 _ _ ?_); clear hK1 K1
  refine wp_seq_k ?_; intro K2 hK2
  refine wlit ?_
  refine wl_e rfl ?_; intro K hK
  refine ow_call Try.func6 rfl rfl (evs_cons (ev_cN 5) <| evs_nil) (mnew_c 5 _) ?_
  rintro e w ⟨gm, rfl, hn, hk⟩
  refine ⟨_, rfl, ?_⟩
  replace hS := ((hS.add hk hn).nilrow 31 3).addv (View.nil_ (A := none)) (fun e' _ => .inr (.inl rfl)) -- +vx,row,gm
  clear hn hk
  refine hK _ _ ?_; clear hK K
  refine wl_v (x_assign (tmP rfl rfl)) ?_
  refine wl_nil ?_
  refine then_n (hK2 _ _ ?_); clear hK2 K2
  refine wp_seq_k ?_; intro K3 hK3
  refine wlit ?_
  refine wl_v (x_move (tmP rfl rfl)) ?_
  refine wl_v (x_build (bc_skip (.int .i64 0) <| bc_skip (.bool false) <| bc_skip (.slice none 0 0) <| bc_nil) (by kernel_rfl)) ?_
  refine wl_e rfl ?_; intro K hK
  refine ow_call Try.func7 rfl rfl (evs_cons (tmP rfl rfl) <| evs_cons (tmA rfl rfl) <| evs_nil) (msend_in gm none 0 0 [] 5 0 0 false none [] 0 0 _ _ (hS.enter [1, 2] [0] rfl rfl) rfl (by omega) (by omega) (by omega)) ?_
  rintro e w ⟨A1, c1, K1, k1, rfl, hS2, -⟩
  refine ⟨_, rfl, ?_⟩
  replace hS := hS.leave [1, 2] [0] rfl rfl rfl (hS2.pick [0, 1] rfl rfl) rfl --ents row,gm,vx
  clear hS2
  try replace hS := St.nm (M' := [.row _ _ _ _ _, _, .vw _ _]) hS rfl
  refine hK _ _ ?_; clear hK K
  refine wl_v (x_move (tmP rfl rfl)) ?_
  refine wl_v (x_build (bc_take (ev_cN 1) <| bc_skip (.bool false) <| bc_skip (.slice none 0 0) <| bc_nil) (by kernel_rfl)) ?_
  refine wl_e rfl ?_; intro K hK
  refine ow_call Try.func7 rfl rfl (evs_cons (tmP rfl rfl) <| evs_cons (tmA rfl rfl) <| evs_nil) (msend_in gm K1 1 k1 [lt 0 false A1 [] c1] 5 0 1 false none [] 0 0 _ _ (hS.enter [0, 1] [2] rfl rfl) rfl (by omega) (by omega) (by omega)) ?_
  rintro e w ⟨A2, c2, K2, k2, rfl, hS2, -⟩
  refine ⟨_, rfl, ?_⟩
  replace hS := hS.leave [0, 1] [2] rfl rfl rfl (hS2.pick [0, 1] rfl rfl) rfl --ents row,gm,vx
  clear hS2
  try replace hS := St.nm (M' := [.row _ _ _ _ _, _, .vw _ _]) hS rfl
  refine hK _ _ ?_; clear hK K
  refine wl_v (x_assign (tmI rfl rfl)) ?_
  refine wl_v (x_assign (tmI rfl rfl)) ?_
  refine wl_nil ?_
  refine then_n (hK3 _ _ ?_); clear hK3 K3
  refine wp_seq_k ?_; intro K4 hK4
  refine wlit ?_
  refine wl_v (x_move (tmP rfl rfl)) ?_
  refine wl_e rfl ?_; intro K hK
  refine ow_call Try.func10 rfl rfl (evs_cons (tmP rfl rfl) <| evs_cons (ev_cN 0) <| evs_nil) (mtake_in gm K2 2 k2 [lt 0 false A1 [] c1, lt 1 false A2 [] c2] 5 0 0 _ _ (hS.enter [0, 1] [] rfl rfl) rfl (by omega) (by omega)) ?_
  rintro e w ⟨K3, k3, rfl, hS2⟩
  refine ⟨_, rfl, ?_⟩
  replace hS := hS.leave [0, 1] [2] rfl rfl rfl hS2 rfl --ents row,gm,vx
  clear hS2
  try replace hS := St.nm (M' := [.row _ _ _ _ _, _, .vw _ _]) hS rfl
  refine hK _ _ ?_; clear hK K
  refine wl_v (x_move (tmT rfl rfl)) ?_
  refine wl_v (x_ext (tmT rfl rfl) rfl) ?_
  refine wl_v (x_ext (tmT rfl rfl) rfl) ?_
  refine wl_e rfl ?_; intro K hK
  refine ow_alloc hS tz_31 rfl ?_
  clear hS; intro g3_5 w hg3_5 hS
  refine hK _ _ ?_; clear hK K
  refine wl_e rfl ?_; intro K hK
  refine ow_storeA hS 0 rfl ts_31 (tmP rfl rfl) (tmA rfl rfl) rfl rfl rfl ?_
  clear hS; intro w hS
  try replace hS := St.nm (M' := [.blk _ _ [_, _, _], .row _ _ _ _ _, _, .vw _ _]) hS rfl
  refine hK _ _ ?_; clear hK K
  refine wl_v (x_assign (tmI rfl rfl)) ?_
  refine wl_nil ?_
  refine then_n (hK4 _ _ ?_); clear hK4 K4
  refine wp_seq_k ?_; intro K5 hK5
  refine wlit ?_
  refine wl_v (x_move (tmI rfl rfl)) ?_
  refine wl_v (x_eql (tmI rfl rfl) (ev_cN 0)) ?_
  refine wl_v (x_move (tmB rfl rfl)) ?_
  refine gs_wl (tm (t := 20) rfl) (fun hg4_2 => ?_) (fun hg4_2 => ?_)
  · have hg4_2' := hg4_2; (try simp only [nrm] at hg4_2'); try (exfalso; first | with_reducible exact absurd hg4_2 Bool.false_ne_true | with_reducible exact absurd hg4_2.symm Bool.false_ne_true | omega | (simp at hg4_2; done))
    all_goals
     refine wl_gv (want_y rfl rfl rfl rfl (by rw [hg4_2]; rfl)) (x_move (tmI rfl rfl)) ?_
     refine wl_gv (want_y rfl rfl rfl rfl (by rw [hg4_2]; rfl)) (x_eql (tmI rfl rfl) (ev_cN 0)) ?_
     refine wl_v (x_pickT (tmB rfl rfl) hg4_2 (tmB rfl rfl)) ?_
     refine wl_v (x_move (tmB rfl rfl)) ?_
     refine gs_wl (tm (t := 24) rfl) (fun hg4_6 => ?_) (fun hg4_6 => ?_)
     · have hg4_6' := hg4_6; (try simp only [nrm] at hg4_6'); try (exfalso; first | with_reducible exact absurd hg4_6 Bool.false_ne_true | with_reducible exact absurd hg4_6.symm Bool.false_ne_true | omega | (simp at hg4_6; done))
       all_goals
        refine wl_gv (want_y rfl rfl rfl rfl (by rw [hg4_6]; rfl)) (x_move (tmI rfl rfl)) ?_
        refine wl_gv (want_y rfl rfl rfl rfl (by rw [hg4_6]; rfl)) (x_eql (tmI rfl rfl) (ev_cN 0)) ?_
        refine wl_v (x_pickT (tmB rfl rfl) hg4_6 (tmB rfl rfl)) ?_
        refine wl_v (x_move (tmB rfl rfl)) ?_
        refine gs_wl (tm (t := 28) rfl) (fun hg4_10 => ?_) (fun hg4_10 => ?_)
        · have hg4_10' := hg4_10; (try simp only [nrm] at hg4_10'); try (exfalso; first | with_reducible exact absurd hg4_10 Bool.false_ne_true | with_reducible exact absurd hg4_10.symm Bool.false_ne_true | omega | (simp at hg4_10; done))
          all_goals
           refine wl_gv (want_y rfl rfl rfl rfl (by rw [hg4_10]; rfl)) (x_fa 0 Try.underlying31 rfl rfl ts_3 (tmP rfl rfl)) ?_
           first
            | refine wl_gv (want_y rfl rfl rfl rfl (by rw [hg4_10]; rfl)) (x_load Try.underlying3 rfl (tmP rfl rfl) (cellB hS.ok 0 rfl rfl)) ?_
            | refine wl_gv (want_y rfl rfl rfl rfl (by rw [hg4_10]; rfl)) (x_load Try.underlying3 rfl (tmP rfl rfl) (cellB hS.ok 0 rfl (getm (by omega)))) ?_
           refine wl_gv (want_y rfl rfl rfl rfl (by rw [hg4_10]; rfl)) (x_eql (tmI rfl rfl) (ev_cN 0)) ?_
           refine wl_v (x_pickT (tmB rfl rfl) hg4_10 (tmB rfl rfl)) ?_
           refine wl_v (x_move (tmB rfl rfl)) ?_
           refine gs_wls (tm (t := 33) rfl) (fun hg4_15 => ?_) (fun hg4_15 => ?_)
           · exfalso
             exact Bool.noConfusion (show true = false from hg4_15)
           have hg4_15' := hg4_15; (try simp only [nrm] at hg4_15'); try (exfalso; first | with_reducible exact absurd hg4_15 Bool.false_ne_true | with_reducible exact absurd hg4_15.symm Bool.false_ne_true | omega | (simp at hg4_15; done))
           all_goals
            refine wl_gv (want_y rfl rfl rfl rfl (by rw [hg4_15]; rfl)) (x_move (tmP rfl rfl)) ?_
            refine wl_g (want_y rfl rfl rfl rfl (by rw [hg4_15]; rfl)) ?_; intro K hK
            refine ow_call Try.func8 rfl rfl (evs_cons (tmP rfl rfl) <| evs_nil) (mlen_c gm K3 1 k3 5 0 _ (viewB hS.ok 2 rfl)) ?_
            rintro e w ⟨rfl, hk⟩
            refine ⟨_, rfl, ?_⟩
            replace hS := hS.kept hk
            clear hk
            refine hK _ _ ?_; clear hK K
            refine wl_gv (want_y rfl rfl rfl rfl (by rw [hg4_15]; rfl)) (x_eql (tmI rfl rfl) (ev_cN 1)) ?_
            refine wl_v (x_pickT (tmB rfl rfl) hg4_15 (tmB rfl rfl)) ?_
            refine wl_v (x_assign (tmB rfl rfl)) ?_
            refine wl_nil ?_
            refine then_n (hK5 _ _ ?_); clear hK5 K5
            refine wp_ret ?_
            refine ret1 rfl (.tmp rfl (show _ = Value.bool _ from rfl)) ?_
            exact ⟨by simp, hS.kp⟩
        have hg4_10' := hg4_10; (try simp only [nrm] at hg4_10'); try (exfalso; first | with_reducible exact absurd hg4_10 Bool.false_ne_true | with_reducible exact absurd hg4_10.symm Bool.false_ne_true | omega | (simp at hg4_10; done))
        all_goals
         refine wl_s rfl (want_n rfl rfl rfl rfl (by rw [hg4_10]; rfl)) ?_
         refine wl_s rfl (want_n rfl rfl rfl rfl (by rw [hg4_10]; rfl)) ?_
         refine wl_s rfl (want_n rfl rfl rfl rfl (by rw [hg4_10]; rfl)) ?_
         refine wl_v (x_pickF (tmB rfl rfl) hg4_10 ev_c) ?_
         refine wl_v (x_move (tmB rfl rfl)) ?_
         refine wl_s rfl (want_n rfl rfl rfl rfl rfl) ?_
         refine wl_s rfl (want_n rfl rfl rfl rfl rfl) ?_
         refine wl_s rfl (want_n rfl rfl rfl rfl rfl) ?_
         refine wl_v (x_pickF (tmB rfl rfl) rfl ev_c) ?_
         refine wl_v (x_assign (tmB rfl rfl)) ?_
         refine wl_nil ?_
         refine then_n (hK5 _ _ ?_); clear hK5 K5
         refine wp_ret ?_
         refine ret1 rfl (.tmp rfl (show _ = Value.bool _ from rfl)) ?_
         exact ⟨by simp, hS.kp⟩
     have hg4_6' := hg4_6; (try simp only [nrm] at hg4_6'); try (exfalso; first | with_reducible exact absurd hg4_6 Bool.false_ne_true | with_reducible exact absurd hg4_6.symm Bool.false_ne_true | omega | (simp at hg4_6; done))
     all_goals
      refine wl_s rfl (want_n rfl rfl rfl rfl (by rw [hg4_6]; rfl)) ?_
      refine wl_s rfl (want_n rfl rfl rfl rfl (by rw [hg4_6]; rfl)) ?_
      refine wl_v (x_pickF (tmB rfl rfl) hg4_6 ev_c) ?_
      refine wl_v (x_move (tmB rfl rfl)) ?_
      refine wl_s rfl (want_n rfl rfl rfl rfl rfl) ?_
      refine wl_s rfl (want_n rfl rfl rfl rfl rfl) ?_
      refine wl_s rfl (want_n rfl rfl rfl rfl rfl) ?_
      refine wl_v (x_pickF (tmB rfl rfl) rfl ev_c) ?_
      refine wl_v (x_move (tmB rfl rfl)) ?_
      refine wl_s rfl (want_n rfl rfl rfl rfl rfl) ?_
      refine wl_s rfl (want_n rfl rfl rfl rfl rfl) ?_
      refine wl_s rfl (want_n rfl rfl rfl rfl rfl) ?_
      refine wl_v (x_pickF (tmB rfl rfl) rfl ev_c) ?_
      refine wl_v (x_assign (tmB rfl rfl)) ?_
      refine wl_nil ?_
      refine then_n (hK5 _ _ ?_); clear hK5 K5
      refine wp_ret ?_
      refine ret1 rfl (.tmp rfl (show _ = Value.bool _ from rfl)) ?_
      exact ⟨by simp, hS.kp⟩
  have hg4_2' := hg4_2; (try simp only [nrm] at hg4_2'); try (exfalso; first | with_reducible exact absurd hg4_2 Bool.false_ne_true | with_reducible exact absurd hg4_2.symm Bool.false_ne_true | omega | (simp at hg4_2; done))
  all_goals
   refine wl_s rfl (want_n rfl rfl rfl rfl (by rw [hg4_2]; rfl)) ?_
   refine wl_s rfl (want_n rfl rfl rfl rfl (by rw [hg4_2]; rfl)) ?_
   refine wl_v (x_pickF (tmB rfl rfl) hg4_2 ev_c) ?_
   refine wl_v (x_move (tmB rfl rfl)) ?_
   refine wl_s rfl (want_n rfl rfl rfl rfl rfl) ?_
   refine wl_s rfl (want_n rfl rfl rfl rfl rfl) ?_
   refine wl_v (x_pickF (tmB rfl rfl) rfl ev_c) ?_
   refine wl_v (x_move (tmB rfl rfl)) ?_
   refine wl_s rfl (want_n rfl rfl rfl rfl rfl) ?_
   refine wl_s rfl (want_n rfl rfl rfl rfl rfl) ?_
   refine wl_s rfl (want_n rfl rfl rfl rfl rfl) ?_
   refine wl_v (x_pickF (tmB rfl rfl) rfl ev_c) ?_
   refine wl_v (x_move (tmB rfl rfl)) ?_
   refine wl_s rfl (want_n rfl rfl rfl rfl rfl) ?_
   refine wl_s rfl (want_n rfl rfl rfl rfl rfl) ?_
   refine wl_s rfl (want_n rfl rfl rfl rfl rfl) ?_
   refine wl_v (x_pickF (tmB rfl rfl) rfl ev_c) ?_
   refine wl_v (x_assign (tmB rfl rfl)) ?_
   refine wl_nil ?_
   refine then_n (hK5 _ _ ?_); clear hK5 K5
   refine wp_ret ?_
   refine ret1 rfl (.tmp rfl (show _ = Value.bool _ from rfl)) ?_
   exact ⟨by simp, hS.kp⟩
end Go.Proofs.Ytijeegfmfpamkaa
