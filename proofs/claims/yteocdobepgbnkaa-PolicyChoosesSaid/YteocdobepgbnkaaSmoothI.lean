
/- smooth: Pick and Owed of no smooth at all; the shares' credits behind a pick. Conditions: none but bounds. -/
import Derived.Test.YteocdobepgbnkaaSmoothH
namespace Go.Proofs.Yteocdobepgbnkaa
open Go.RowKit
set_option maxRecDepth 100000 in
set_option maxHeartbeats 4000000 in
theorem pick_nil_c (n : Nat) (A : Option Addr) (c : Nat) (l : List Cn) (w0 : World) (hv : View w0 w0.heap.size A (flat cnV l)) (hl : l.length = n) (hn4 : n ≤ 1000) :
    Calls Try.prog 8 #[.pointer none, .slice A n c] w0 fun e w' =>
      e = .returned (.tuple #[.agg (cnV default).toArray, .bool false]) ∧ Kp [] w0 w' := by
  have hS := (St.sv w0).vcons rfl hv
  refine ent (n := 98) Try.func8 rfl rfl ?_
  refine wp_seq_k ?_; intro K1 hK1
  refine wlit ?_
  refine wl_e rfl ?_; intro K hK
  refine ow_alloc hS tz_33 rfl ?_
  clear hS; intro g0_0 w hg0_0 hS
  refine hK _ _ ?_; clear hK K
  refine wl_v (x_assign ev_c) ?_
  refine wl_nil ?_
  refine then_n (hK1 _ _ ?_); clear hK1 K1
  refine wp_seq_k ?_; intro K2 hK2
  refine wlit ?_
  refine wl_v (x_move (tmS rfl rfl)) ?_
  refine wl_e rfl ?_; intro K hK
  refine ow_call Try.func19 rfl rfl (evs_cons (tmS rfl rfl) <| evs_nil) (weighing_c n A c l _ (viewV hS.ok 1 rfl) hl (by omega)) ?_
  rintro e w ⟨q1, A1, c1, rfl, hq1, hn1, hk1⟩
  refine ⟨_, rfl, ?_⟩
  replace hS := hS.kept hk1
  clear hn1 hk1
  refine hK _ _ ?_; clear hK K
  refine wl_v (x_assign (tmS rfl rfl)) ?_
  refine wl_nil ?_
  refine then_n (hK2 _ _ ?_); clear hK2 K2
  refine wp_seq_k ?_; intro K3 hK3
  refine wp_seq_k ?_; intro K4 hK4
  refine wlit ?_
  refine wl_v (x_move (tmP rfl rfl)) ?_
  first
   | refine wl_v (x_peql Try.underlying24 (tmP rfl rfl) ev_c) ?_
   | refine wl_v (x_peqln Try.underlying24 (tmP rfl rfl) ev_c) ?_
  refine wl_v (x_move (tmB rfl rfl)) ?_
  refine gs_wls (tm (t := 13) rfl) (fun hg2_2 => ?_) (fun hg2_2 => ?_)
  · exfalso
    cases hg2_2
  have hg2_2' := hg2_2; (try simp only [nrm] at hg2_2'); try (exfalso; first | with_reducible exact absurd hg2_2 Bool.false_ne_true | with_reducible exact absurd hg2_2.symm Bool.false_ne_true | omega | (simp at hg2_2; done))
  all_goals
   refine wl_s rfl (want_n rfl rfl rfl rfl (by rw [hg2_2]; rfl)) ?_
   refine wl_s rfl (want_n rfl rfl rfl rfl (by rw [hg2_2]; rfl)) ?_
   refine wl_s rfl (want_n rfl rfl rfl rfl (by rw [hg2_2]; rfl)) ?_
   refine wl_v (x_pickT (tmB rfl rfl) hg2_2 ev_c) ?_
   refine wl_nil ?_
   refine then_n (hK4 _ _ ?_); clear hK4 K4
   refine cnd_t (tmB rfl rfl) rfl ?_
   refine wp_seq_k ?_; intro K5 hK5
   refine wlit ?_
   refine wl_v (x_build (bc_skip (.int .i64 0) <| bc_skip (.int .i64 0) <| bc_skip (.int .i64 0) <| bc_skip (.int .u32 0) <| bc_nil) (by kernel_rfl)) ?_
   refine wl_e rfl ?_; intro K hK
   refine ow_storeA hS 0 rfl ts_33 (tmP rfl rfl) (tmA rfl rfl) rfl rfl rfl ?_
   clear hS; intro w hS
   try replace hS := St.nm (M' := [.blk _ _ [_, _, _, _], .vw _ _]) hS rfl
   refine hK _ _ ?_; clear hK K
   refine wl_v (x_assign ev_c) ?_
   refine wl_nil ?_
   refine then_n (hK5 _ _ ?_); clear hK5 K5
   refine wp_ret ?_
   refine then_r ?_
   refine ret2 rfl (.cell rfl rfl (load_rowB (cs := [_, _, _, _]) hS.ok 0 rfl Try.underlying33 rfl ts_33 rfl)) (.tmp rfl (show _ = Value.bool _ from rfl)) ?_
   exact ⟨rfl, hS.kp⟩
set_option maxRecDepth 100000 in
set_option maxHeartbeats 4000000 in
theorem owed_nil_c (b : Int) (w0 : World) :
    Calls Try.prog 11 #[.pointer none, .int .i64 b] w0 fun e w' => e = .returned (.int .i64 0) ∧ Kp [] w0 w' := by
  have hS := St.sv w0
  refine ent (n := 25) Try.func11 rfl rfl ?_
  refine wp_seq_k ?_; intro K1 hK1
  refine wlit ?_
  refine wl_v (x_assign (ev_cN 0)) ?_
  refine wl_nil ?_
  refine then_n (hK1 _ _ ?_); clear hK1 K1
  refine wp_seq_k ?_; intro K2 hK2
  refine wp_seq_k ?_; intro K3 hK3
  refine wlit ?_
  refine wl_v (x_move (tmP rfl rfl)) ?_
  first
   | refine wl_v (x_peql Try.underlying24 (tmP rfl rfl) ev_c) ?_
   | refine wl_v (x_peqln Try.underlying24 (tmP rfl rfl) ev_c) ?_
  refine wl_nil ?_
  refine then_n (hK3 _ _ ?_); clear hK3 K3
  refine cnds (tm rfl) (fun hc0 => ?_) (fun hc0 => ?_)
  · exfalso
    cases hc0
  try (exfalso; first | with_reducible exact absurd hc0 Bool.false_ne_true | with_reducible exact absurd hc0.symm Bool.false_ne_true | (simp only [nrm] at hc0; omega) | (simp at hc0; done))
  all_goals
   try simp only [nrm] at hc0
   refine wp_seq_k ?_; intro K4 hK4
   refine wlit ?_
   refine wl_v (x_assign (ev_cN 0)) ?_
   refine wl_nil ?_
   refine then_n (hK4 _ _ ?_); clear hK4 K4
   refine wp_ret ?_
   refine then_r ?_
   refine ret1 rfl (.tmp rfl (show _ = Value.int _ _ from rfl)) ?_
   exact ⟨rfl, hS.kp⟩
theorem shF_cr (wt : List Cn) (kr : List Cr) (h0 : 0 < wt.length) (hkl : kr.length = wt.length) (hs : ∀ i, i < wt.length → (wt.getD i default).backend = (kr.getD i default).backend ∧ (wt.getD i default).weight = (kr.getD i default).weight) :
    (shF wt (fun i => ((payP kr).getD i default).owed)).map Sh.cr = payP kr := by
  apply List.ext_getElem (by rw [List.length_map, shF_len, payP_len, hkl])
  intro i h1 h2
  rw [List.length_map, shF_len] at h1
  have e1 : ((shF wt (fun i => ((payP kr).getD i default).owed)).map Sh.cr)[i] = Sh.cr (mkSh (wt.getD i default) ((payP kr).getD i default).owed) := by
    simp only [shF, List.getElem_map, List.getElem_range]
  have e2 : (payP kr)[i] = (payP kr).getD i default := by rw [List.getD_eq_getElem?_getD, List.getElem?_eq_getElem h2]; rfl
  rw [e1, e2, payP_getD kr (by omega) i (by omega)]
  have := hs i h1
  show (⟨(wt.getD i default).backend, (wt.getD i default).weight, _⟩ : Cr) = _
  rw [this.1, this.2]; rfl
end Go.Proofs.Yteocdobepgbnkaa
