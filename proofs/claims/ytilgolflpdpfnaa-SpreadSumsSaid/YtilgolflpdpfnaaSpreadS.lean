
/- spread: Sum, window, Flow by contract, and the reference's; the law's awake. Conditions: none but bounds. -/
import Derived.Test.YtilgolflpdpfnaaFlow
import Derived.Test.YtilgolflpdpfnaaArgs
import Derived.Test.YtilgolflpdpfnaaMath
namespace Go.Proofs.Ytilgolflpdpfnaa
open Go.RowKit
/-- The first k places of a table. -/
def cyc (to : List Int) : Nat → List Int
  | 0 => []
  | k + 1 => cyc to k ++ [to.getD (k % to.length) 0]
set_option maxRecDepth 100000 in
set_option maxHeartbeats 4000000 in
theorem new_ok (mm : Nat) (A : Option Addr) (c : Nat) (to : List Int) (w0 : World) (hv : View w0 w0.heap.size A (to.map i64v)) (hm : 1 ≤ mm) (hm4 : mm ≤ 4096) (hto : 0 < to.length) (htl : to.length ≤ 1000000) (hand : mm &&& (mm - 1) = 0) :
    Calls Try.prog 117 #[.int .i64 (mm : Int), .slice A to.length c] w0 fun e w' => ∃ A' c', e = .returned (.tuple #[.agg #[.slice A' mm c'], .int .i64 0]) ∧ New w0 w' (.row (.slice A' mm c') 3 1 mm ((cyc to mm).map i64v)) ∧ Kp [] w0 w' := by
  obtain ⟨bt, ot, rfl⟩ := view_some hv (by simpa using hto)
  have hS := (St.sv w0).vcons rfl hv
  refine ent (n := 45) Try.func117 rfl rfl ?_
  refine wp_seq_k ?_; intro K1 hK1
  refine wlit ?_
  refine wl_e rfl ?_; intro K hK
  refine ow_alloc hS tz_178 rfl ?_
  clear hS; intro g0_0 w hg0_0 hS
  refine hK _ _ ?_; clear hK K
  refine wl_v (x_assign (ev_cN 0)) ?_
  refine wl_nil ?_
  refine then_n (hK1 _ _ ?_); clear hK1 K1
  refine wp_seq_k ?_; intro K2 hK2
  refine wp_seq_k ?_; intro K3 hK3
  refine wlit ?_
  refine wl_v (x_move (tmS rfl rfl)) ?_
  refine wl_v (x_len Try.underlying71 (tmS rfl rfl)) ?_
  refine wl_v (x_eql (tmI rfl rfl) (ev_cN 0)) ?_
  refine wl_v (x_move (tmB rfl rfl)) ?_
  refine gs_wl (tm (t := 11) rfl) (fun hg1_3 => ?_) (fun hg1_3 => ?_)
  · have hg1_3' := hg1_3; (try simp only [nrm] at hg1_3'); try (exfalso; first | with_reducible exact absurd hg1_3 Bool.false_ne_true | with_reducible exact absurd hg1_3.symm Bool.false_ne_true | omega | (simp at hg1_3; done))
    all_goals
     refine wl_s rfl (want_n rfl rfl rfl rfl (by rw [hg1_3]; rfl)) ?_
     refine wl_s rfl (want_n rfl rfl rfl rfl (by rw [hg1_3]; rfl)) ?_
     refine wl_v (x_pickT (tmB rfl rfl) hg1_3 ev_c) ?_
     refine wl_v (x_move (tmB rfl rfl)) ?_
     refine wl_s rfl (want_n rfl rfl rfl rfl rfl) ?_
     refine wl_s rfl (want_n rfl rfl rfl rfl rfl) ?_
     refine wl_v (x_pickT (tmB rfl rfl) rfl ev_c) ?_
     refine wl_v (x_move (tmB rfl rfl)) ?_
     refine wl_s rfl (want_n rfl rfl rfl rfl rfl) ?_
     refine wl_s rfl (want_n rfl rfl rfl rfl rfl) ?_
     refine wl_s rfl (want_n rfl rfl rfl rfl rfl) ?_
     refine wl_s rfl (want_n rfl rfl rfl rfl rfl) ?_
     refine wl_s rfl (want_n rfl rfl rfl rfl rfl) ?_
     refine wl_v (x_pickT (tmB rfl rfl) rfl ev_c) ?_
     refine wl_nil ?_
     refine then_n (hK3 _ _ ?_); clear hK3 K3
     refine cnd_t (tmB rfl rfl) rfl ?_
     refine wp_seq_k ?_; intro K4 hK4
     refine wlit ?_
     refine wl_v (x_build (bc_skip (.slice none 0 0) <| bc_nil) (by kernel_rfl)) ?_
     refine wl_e rfl ?_; intro K hK
     refine ow_storeA hS 0 rfl ts_178 (tmP rfl rfl) (tmA rfl rfl) rfl rfl rfl ?_
     clear hS; intro w hS
     refine hK _ _ ?_; clear hK K
     refine wl_v (x_assign (ev_cN 1)) ?_
     refine wl_nil ?_
     refine then_n (hK4 _ _ ?_); clear hK4 K4
     refine wp_ret ?_
     refine then_r ?_
     refine ret2 rfl (.cell rfl rfl (load_rowB (cs := [_]) hS.ok 0 rfl Try.underlying178 rfl ts_178 rfl)) (.tmp rfl (show _ = Value.int _ _ from rfl)) ?_
     obtain rfl : k = mm := by omega
     exact ⟨_, _, rfl, hS.new 0 rfl rfl, hS.kp⟩
  have hg1_3' := hg1_3; (try simp only [nrm] at hg1_3'); try (exfalso; first | with_reducible exact absurd hg1_3 Bool.false_ne_true | with_reducible exact absurd hg1_3.symm Bool.false_ne_true | omega | (simp at hg1_3; done))
  all_goals
   refine wl_gv (want_y rfl rfl rfl rfl (by rw [hg1_3]; rfl)) (x_move (tmI rfl rfl)) ?_
   refine wl_gv (want_y rfl rfl rfl rfl (by rw [hg1_3]; rfl)) (x_lss (tmI rfl rfl) (ev_cN 1)) ?_
   refine wl_v (x_pickF (tmB rfl rfl) hg1_3 (tmB rfl rfl)) ?_
   refine wl_v (x_move (tmB rfl rfl)) ?_
   refine gs_wl (tm (t := 15) rfl) (fun hg1_7 => ?_) (fun hg1_7 => ?_)
   · have hg1_7' := hg1_7; (try simp only [nrm] at hg1_7'); try (exfalso; first | with_reducible exact absurd hg1_7 Bool.false_ne_true | with_reducible exact absurd hg1_7.symm Bool.false_ne_true | omega | (simp at hg1_7; done))
     all_goals
      refine wl_s rfl (want_n rfl rfl rfl rfl (by rw [hg1_7]; rfl)) ?_
      refine wl_s rfl (want_n rfl rfl rfl rfl (by rw [hg1_7]; rfl)) ?_
      refine wl_v (x_pickT (tmB rfl rfl) hg1_7 ev_c) ?_
      refine wl_v (x_move (tmB rfl rfl)) ?_
      refine wl_s rfl (want_n rfl rfl rfl rfl rfl) ?_
      refine wl_s rfl (want_n rfl rfl rfl rfl rfl) ?_
      refine wl_s rfl (want_n rfl rfl rfl rfl rfl) ?_
      refine wl_s rfl (want_n rfl rfl rfl rfl rfl) ?_
      refine wl_s rfl (want_n rfl rfl rfl rfl rfl) ?_
      refine wl_v (x_pickT (tmB rfl rfl) rfl ev_c) ?_
      refine wl_nil ?_
      refine then_n (hK3 _ _ ?_); clear hK3 K3
      refine cnd_t (tmB rfl rfl) rfl ?_
      refine wp_seq_k ?_; intro K6 hK6
      refine wlit ?_
      refine wl_v (x_build (bc_skip (.slice none 0 0) <| bc_nil) (by kernel_rfl)) ?_
      refine wl_e rfl ?_; intro K hK
      refine ow_storeA hS 0 rfl ts_178 (tmP rfl rfl) (tmA rfl rfl) rfl rfl rfl ?_
      clear hS; intro w hS
      refine hK _ _ ?_; clear hK K
      refine wl_v (x_assign (ev_cN 1)) ?_
      refine wl_nil ?_
      refine then_n (hK6 _ _ ?_); clear hK6 K6
      refine wp_ret ?_
      refine then_r ?_
      refine ret2 rfl (.cell rfl rfl (load_rowB (cs := [_]) hS.ok 0 rfl Try.underlying178 rfl ts_178 rfl)) (.tmp rfl (show _ = Value.int _ _ from rfl)) ?_
      obtain rfl : k = mm := by omega
      exact ⟨_, _, rfl, hS.new 0 rfl rfl, hS.kp⟩
   have hg1_7' := hg1_7; (try simp only [nrm] at hg1_7'); try (exfalso; first | with_reducible exact absurd hg1_7 Bool.false_ne_true | with_reducible exact absurd hg1_7.symm Bool.false_ne_true | omega | (simp at hg1_7; done))
   all_goals
    refine wl_gv (want_y rfl rfl rfl rfl (by rw [hg1_7]; rfl)) (x_move (tmI rfl rfl)) ?_
    refine wl_gv (want_y rfl rfl rfl rfl (by rw [hg1_7]; rfl)) (x_gtr (tmI rfl rfl) (ev_cN 4096)) ?_
    refine wl_v (x_pickF (tmB rfl rfl) hg1_7 (tmB rfl rfl)) ?_
    refine wl_v (x_move (tmB rfl rfl)) ?_
    refine gs_wl (tm (t := 19) rfl) (fun hg1_11 => ?_) (fun hg1_11 => ?_)
    · have hg1_11' := hg1_11; (try simp only [nrm] at hg1_11'); try (exfalso; first | with_reducible exact absurd hg1_11 Bool.false_ne_true | with_reducible exact absurd hg1_11.symm Bool.false_ne_true | omega | (simp at hg1_11; done))
      all_goals
       refine wl_s rfl (want_n rfl rfl rfl rfl (by rw [hg1_11]; rfl)) ?_
       refine wl_s rfl (want_n rfl rfl rfl rfl (by rw [hg1_11]; rfl)) ?_
       refine wl_s rfl (want_n rfl rfl rfl rfl (by rw [hg1_11]; rfl)) ?_
       refine wl_s rfl (want_n rfl rfl rfl rfl (by rw [hg1_11]; rfl)) ?_
       refine wl_s rfl (want_n rfl rfl rfl rfl (by rw [hg1_11]; rfl)) ?_
       refine wl_v (x_pickT (tmB rfl rfl) hg1_11 ev_c) ?_
       refine wl_nil ?_
       refine then_n (hK3 _ _ ?_); clear hK3 K3
       refine cnd_t (tmB rfl rfl) rfl ?_
       refine wp_seq_k ?_; intro K8 hK8
       refine wlit ?_
       refine wl_v (x_build (bc_skip (.slice none 0 0) <| bc_nil) (by kernel_rfl)) ?_
       refine wl_e rfl ?_; intro K hK
       refine ow_storeA hS 0 rfl ts_178 (tmP rfl rfl) (tmA rfl rfl) rfl rfl rfl ?_
       clear hS; intro w hS
       refine hK _ _ ?_; clear hK K
       refine wl_v (x_assign (ev_cN 1)) ?_
       refine wl_nil ?_
       refine then_n (hK8 _ _ ?_); clear hK8 K8
       refine wp_ret ?_
       refine then_r ?_
       refine ret2 rfl (.cell rfl rfl (load_rowB (cs := [_]) hS.ok 0 rfl Try.underlying178 rfl ts_178 rfl)) (.tmp rfl (show _ = Value.int _ _ from rfl)) ?_
       obtain rfl : k = mm := by omega
       exact ⟨_, _, rfl, hS.new 0 rfl rfl, hS.kp⟩
    have hg1_11' := hg1_11; (try simp only [nrm] at hg1_11'); try (exfalso; first | with_reducible exact absurd hg1_11 Bool.false_ne_true | with_reducible exact absurd hg1_11.symm Bool.false_ne_true | omega | (simp at hg1_11; done))
    all_goals
     refine wl_gv (want_y rfl rfl rfl rfl (by rw [hg1_11]; rfl)) (x_move (tmI rfl rfl)) ?_
     refine wl_gv (want_y rfl rfl rfl rfl (by rw [hg1_11]; rfl)) (x_move (tmI rfl rfl)) ?_
     first
      | refine wl_gv (want_y rfl rfl rfl rfl (by rw [hg1_11]; rfl)) (x_subN (tmI rfl rfl) (ev_cN 1) (fit_i64 (by omega)) (by omega)) ?_
      | refine wl_gv (want_y rfl rfl rfl rfl (by rw [hg1_11]; rfl)) (x_subI (tmI rfl rfl) (ev_cN 1) (IntWalk.i64_in _ (by omega))) ?_
      | refine wl_gv (want_y rfl rfl rfl rfl (by rw [hg1_11]; rfl)) (x_sub (tmI rfl rfl) (ev_cN 1)) ?_
     refine wl_gv (want_y rfl rfl rfl rfl (by rw [hg1_11]; rfl)) (x_andN (tmI rfl rfl) (tmI rfl rfl) (fit_i64 (by omega)) (fit_i64 (by omega))) ?_
     refine wl_gv (want_y rfl rfl rfl rfl (by rw [hg1_11]; rfl)) (x_neq (tmI rfl rfl) (ev_cN 0)) ?_
     refine wl_v (x_pickF (tmB rfl rfl) hg1_11 (tmB rfl rfl)) ?_
     refine wl_nil ?_
     refine then_n (hK3 _ _ ?_); clear hK3 K3
     refine cnd (tm rfl) (fun hc0 => ?_) (fun hc0 => ?_)
     · try (exfalso; first | with_reducible exact absurd hc0 Bool.false_ne_true | with_reducible exact absurd hc0.symm Bool.false_ne_true | (simp only [nrm] at hc0; omega) | (simp at hc0; done))
       all_goals
        try simp only [nrm] at hc0
        refine wp_seq_k ?_; intro K10 hK10
        refine wlit ?_
        refine wl_v (x_build (bc_skip (.slice none 0 0) <| bc_nil) (by kernel_rfl)) ?_
        refine wl_e rfl ?_; intro K hK
        refine ow_storeA hS 0 rfl ts_178 (tmP rfl rfl) (tmA rfl rfl) rfl rfl rfl ?_
        clear hS; intro w hS
        refine hK _ _ ?_; clear hK K
        refine wl_v (x_assign (ev_cN 1)) ?_
        refine wl_nil ?_
        refine then_n (hK10 _ _ ?_); clear hK10 K10
        refine wp_ret ?_
        refine then_r ?_
        refine ret2 rfl (.cell rfl rfl (load_rowB (cs := [_]) hS.ok 0 rfl Try.underlying178 rfl ts_178 rfl)) (.tmp rfl (show _ = Value.int _ _ from rfl)) ?_
        obtain rfl : k = mm := by omega
        exact ⟨_, _, rfl, hS.new 0 rfl rfl, hS.kp⟩
     try (exfalso; first | with_reducible exact absurd hc0 Bool.false_ne_true | with_reducible exact absurd hc0.symm Bool.false_ne_true | (simp only [nrm] at hc0; omega) | (simp at hc0; done))
     all_goals
      try simp only [nrm] at hc0
      refine wp_skip ?_
      refine then_n (hK2 _ _ ?_); clear hK2 K2
      refine wp_seq_k ?_; intro K12 hK12
      refine wlit ?_
      refine wl_e rfl ?_; intro K hK
      refine ow_alloc hS tz_178 rfl ?_
      clear hS; intro g3_0 w hg3_0 hS
      refine hK _ _ ?_; clear hK K
      refine wl_nil ?_
      refine then_n (hK12 _ _ ?_); clear hK12 K12
      refine wp_seq_k ?_; intro K13 hK13
      refine wp_seq_k ?_; intro K14 hK14
      refine wlit ?_
      refine wl_v (x_move (tmI rfl rfl)) ?_
      refine wl_v (x_move (ev_cN 0)) ?_
      refine wl_nil ?_
      refine then_n (hK14 _ _ ?_); clear hK14 K14
      refine wp_block ?_
      have hS := hS.nilrow 3 1
      refine lp [7, 28, 29, 30, 31, 32, 33, 34, 35, 36, 37, 38, 39, 40, 41, 42, 43] (fun mz g w => ∃ (k : Nat), ∃ (A' : Option Addr), ∃ (c' : Nat), mz = mm - k ∧ g 28 = .int .i64 (k : Int) ∧ St [] w0 [.row (.slice A' k c') 3 1 k ((cyc to k).map i64v), .blk g3_0 178 [.slice A' k c'], .blk g0_0 178 [.slice none 0 0], .vw (some ⟨bt, ot, none⟩) (to.map i64v)] w ∧ (k ≤ mm)) ?_ ?_
      · exact ⟨_, 0, none, 0, rfl, (by first | rfl | go_num | exact congrArg (Value.int _) (by first | omega | (simp; done) | (simp; omega))), hS, (by omega)⟩
      · clear hS; intro mz g w hI
        obtain ⟨k, A', c', rfl, hs28, hS, hk⟩ := hI
        refine fr_know (d := 28) hs28 ?_; clear hs28
        refine wp_seq_k ?_; intro K15 hK15
        refine wlit ?_
        refine wl_v (x_lss (tmI rfl rfl) (tmI rfl rfl)) ?_
        refine wl_nil ?_
        refine then_n (hK15 _ _ ?_); clear hK15 K15
        refine wp_seq_k ?_; intro K16 hK16
        refine cnd (tm rfl) (fun hc1 => ?_) (fun hc1 => ?_)
        · try (exfalso; first | with_reducible exact absurd hc1 Bool.false_ne_true | with_reducible exact absurd hc1.symm Bool.false_ne_true | (simp only [nrm] at hc1; omega) | (simp at hc1; done))
          all_goals
           try simp only [nrm] at hc1
           refine wp_skip ?_
           refine then_n (hK16 _ _ ?_); clear hK16 K16
           refine wp_seq_k ?_; intro K17 hK17
           refine wp_block ?_
           refine wp_seq_k ?_; intro K18 hK18
           refine wlit ?_
           refine wl_v (x_move (tmI rfl rfl)) ?_
           refine wl_v (x_assign (tmI rfl rfl)) ?_
           refine wl_nil ?_
           refine then_n (hK18 _ _ ?_); clear hK18 K18
           refine rg_startk 2 hS mixed_ ?_
           clear hS; intro w hS
           refine rg_take 0 rfl rfl (by kernel_rfl) (by kernel_rfl) (by kernel_rfl) (want_0) (fun w hok => x_fa 0 Try.underlying178 rfl rfl ts_71 (tmP rfl rfl)) ?_
           refine rg_take 2 rfl rfl (by kernel_rfl) (by kernel_rfl) (by kernel_rfl) (want_0) (fun w hok => x_move (tmS rfl rfl)) ?_
           refine rg_take 3 rfl rfl (by kernel_rfl) (by kernel_rfl) (by kernel_rfl) (want_0) (fun w hok => x_move (tmI rfl rfl)) ?_
           refine rg_take 4 rfl rfl (by kernel_rfl) (by kernel_rfl) (by kernel_rfl) (want_0) (fun w hok => x_move (tmS rfl rfl)) ?_
           refine rg_take 5 rfl rfl (by kernel_rfl) (by kernel_rfl) (by kernel_rfl) (want_0) (fun w hok => x_len Try.underlying71 (tmS rfl rfl)) ?_
           first
            | refine rg_take 6 rfl rfl (by kernel_rfl) (by kernel_rfl) (by kernel_rfl) (want_0) (fun w hok => x_remN (tmI rfl rfl) (tmI rfl rfl) (by omega)) ?_
            | refine rg_take 6 rfl rfl (by kernel_rfl) (by kernel_rfl) (by kernel_rfl) (want_0) (fun w hok => x_rem (tmI rfl rfl) (tmI rfl rfl) (by omega)) ?_
           have hmod : k % to.length < to.length := Nat.mod_lt _ hto
           refine rg_take 7 rfl rfl (by kernel_rfl) (by kernel_rfl) (by kernel_rfl) (want_0) (fun w hok => x_ixs1 Try.underlying71 ts_3 (tmS rfl rfl) (tmI rfl rfl) (by omega)) ?_
           first
            | refine rg_take 8 rfl rfl (by kernel_rfl) (by kernel_rfl) (by kernel_rfl) (want_0) (fun w hok => x_load Try.underlying3 rfl (tmP rfl rfl) (cellV hok 1 rfl rfl)) ?_
            | refine rg_take 8 rfl rfl (by kernel_rfl) (by kernel_rfl) (by kernel_rfl) (want_0) (fun w hok => x_load Try.underlying3 rfl (tmP rfl rfl) (cellV hok 1 rfl (getm (by omega)))) ?_
            | refine rg_take 8 rfl rfl (by kernel_rfl) (by kernel_rfl) (by kernel_rfl) (want_0) (fun w hok => x_load Try.underlying3 rfl (tmP rfl rfl) (cellVs hok 1 rfl (fun _ => rfl) rfl (by omega) rfl)) ?_
           refine rg_step2 1 9 rfl rfl (by kernel_rfl) (want_0) (want_0) (oks_drop hS 2 rfl) ?_ ?_
           · intro K hK
             first
              | refine ow_v (x_load Try.underlying71 rfl (tmP rfl rfl) (cellB hS.ok 1 rfl rfl)) ?_
              | refine ow_v (x_load Try.underlying71 rfl (tmP rfl rfl) (cellB hS.ok 1 rfl (getm (by omega)))) ?_
             refine hK _ _ ?_; clear hK K
             refine rg_step 9 rfl (by kernel_rfl) (want_0) (oks_drop hS 2 rfl) ?_; intro K hK
             refine ow_build hS Try.underlying71 tz_3 (bc_take (tmI rfl rfl) <| bc_nil) rfl rfl (by kernel_rfl) ?_
             clear hS; intro g7_9 w hg7_9 hS
             refine hK _ _ ?_; clear hK K
             refine rg_step 10 rfl (by kernel_rfl) (want_0) (oks_drop hS 3 rfl) ?_; intro K hK
             (refine ow_append hS 1 0 rfl rfl Try.underlying71 tz_3 rfl (tmS rfl rfl) (tmS rfl rfl) rfl ⟨by decide, by decide, rfl⟩ (by simp only [maxLen]; omega) (by omega) ?_; clear hS; intro g7_10 cg7_10 w hS)
             refine hK _ _ ?_; clear hK K
             refine rg_take 11 rfl rfl (by kernel_rfl) (by kernel_rfl) (by kernel_rfl) (want_0) (fun w hok => x_fa 0 Try.underlying178 rfl rfl ts_71 (tmP rfl rfl)) ?_
             refine rg_step 12 rfl (by kernel_rfl) (want_0) (oks_drop hS 3 rfl) ?_; intro K hK
             first
              | refine ow_store hS 2 rfl ts_71 (tmP rfl rfl) (tmS rfl rfl) rfl rfl ?_
              | refine ow_storeX hS 2 rfl ts_71 (tmP rfl rfl) (tmS rfl rfl) rfl (by simp; omega) ?_
             clear hS; intro w hS
             refine hK _ _ ?_; clear hK K
             refine rg_done (oks_drop hS 3 rfl) (by kernel_rfl) ?_
             refine inb_n ?_
             refine then_n (hK17 _ _ ?_); clear hK17 K17
             refine wlit ?_
             first
              | refine wl_v (x_addN (tmI rfl rfl) (ev_cN 1) (fit_i64 (by omega))) ?_
              | refine wl_v (x_addI (tmI rfl rfl) (ev_cN 1) (IntWalk.i64_in _ (by omega))) ?_
              | refine wl_v (x_add (tmI rfl rfl) (ev_cN 1)) ?_
             refine wl_v (x_move (tmI rfl rfl)) ?_
             refine wl_nil ?_
             have he : (cyc to (k + 1)).map i64v = (cyc to k).map i64v ++ [.int .i64 (to.getD (k % to.length) 0)] := by simp [cyc, i64v]
             exact then_n ⟨_, _, rfl, (by show _ < _; omega), (by repeat (first | exact agree_self | exact agree_refl | refine agree_upd rfl ?_ | refine agree_mix rfl ?_)), k + 1, _, _, rfl, (by first | rfl | go_num | exact congrArg (Value.int _) (by first | omega | (simp; done) | (simp; omega))), (by rw [he]; exact hS.pick [1, 2, 3, 4] rfl rfl), (by omega)⟩
           · intro K hK
             refine ow_build hS Try.underlying71 tz_3 (bc_take (tmI rfl rfl) <| bc_nil) rfl rfl (by kernel_rfl) ?_
             clear hS; intro g7_9 w hg7_9 hS
             refine hK _ _ ?_; clear hK K
             refine rg_step 1 rfl (by kernel_rfl) (want_0) (oks_drop hS 3 rfl) ?_; intro K hK
             first
              | refine ow_v (x_load Try.underlying71 rfl (tmP rfl rfl) (cellB hS.ok 2 rfl rfl)) ?_
              | refine ow_v (x_load Try.underlying71 rfl (tmP rfl rfl) (cellB hS.ok 2 rfl (getm (by omega)))) ?_
             refine hK _ _ ?_; clear hK K
             refine rg_step 10 rfl (by kernel_rfl) (want_0) (oks_drop hS 3 rfl) ?_; intro K hK
             (refine ow_append hS 1 0 rfl rfl Try.underlying71 tz_3 rfl (tmS rfl rfl) (tmS rfl rfl) rfl ⟨by decide, by decide, rfl⟩ (by simp only [maxLen]; omega) (by omega) ?_; clear hS; intro g7_10 cg7_10 w hS)
             refine hK _ _ ?_; clear hK K
             refine rg_take 11 rfl rfl (by kernel_rfl) (by kernel_rfl) (by kernel_rfl) (want_0) (fun w hok => x_fa 0 Try.underlying178 rfl rfl ts_71 (tmP rfl rfl)) ?_
             refine rg_step 12 rfl (by kernel_rfl) (want_0) (oks_drop hS 3 rfl) ?_; intro K hK
             first
              | refine ow_store hS 2 rfl ts_71 (tmP rfl rfl) (tmS rfl rfl) rfl rfl ?_
              | refine ow_storeX hS 2 rfl ts_71 (tmP rfl rfl) (tmS rfl rfl) rfl (by simp; omega) ?_
             clear hS; intro w hS
             refine hK _ _ ?_; clear hK K
             refine rg_done (oks_drop hS 3 rfl) (by kernel_rfl) ?_
             refine inb_n ?_
             refine then_n (hK17 _ _ ?_); clear hK17 K17
             refine wlit ?_
             first
              | refine wl_v (x_addN (tmI rfl rfl) (ev_cN 1) (fit_i64 (by omega))) ?_
              | refine wl_v (x_addI (tmI rfl rfl) (ev_cN 1) (IntWalk.i64_in _ (by omega))) ?_
              | refine wl_v (x_add (tmI rfl rfl) (ev_cN 1)) ?_
             refine wl_v (x_move (tmI rfl rfl)) ?_
             refine wl_nil ?_
             have he : (cyc to (k + 1)).map i64v = (cyc to k).map i64v ++ [.int .i64 (to.getD (k % to.length) 0)] := by simp [cyc, i64v]
             exact then_n ⟨_, _, rfl, (by show _ < _; omega), (by repeat (first | exact agree_self | exact agree_refl | refine agree_upd rfl ?_ | refine agree_mix rfl ?_)), k + 1, _, _, rfl, (by first | rfl | go_num | exact congrArg (Value.int _) (by first | omega | (simp; done) | (simp; omega))), (by rw [he]; exact hS.pick [1, 2, 3, 4] rfl rfl), (by omega)⟩
        try (exfalso; first | with_reducible exact absurd hc1 Bool.false_ne_true | with_reducible exact absurd hc1.symm Bool.false_ne_true | (simp only [nrm] at hc1; omega) | (simp at hc1; done))
        all_goals
         try simp only [nrm] at hc1
         refine wp_exit ?_
         refine then_x ?_; clear hK16 K16
         refine then_x ?_
         refine inb_x ?_
         refine then_n (hK13 _ _ ?_); clear hK13 K13
         refine wp_seq_k ?_; intro K19 hK19
         refine wlit ?_
         refine wl_v (x_loadA (cs := [_]) Try.underlying178 rfl ts_178 (tmP rfl rfl) (rangeB hS.ok 1 rfl rfl)) ?_
         refine wl_e rfl ?_; intro K hK
         refine ow_storeA hS 2 rfl ts_178 (tmP rfl rfl) (tmA rfl rfl) rfl rfl rfl ?_
         clear hS; intro w hS
         refine hK _ _ ?_; clear hK K
         refine wl_v (x_assign (ev_cN 0)) ?_
         refine wl_nil ?_
         refine then_n (hK19 _ _ ?_); clear hK19 K19
         refine wp_ret ?_
         refine ret2 rfl (.cell rfl rfl (load_rowB (cs := [_]) hS.ok 2 rfl Try.underlying178 rfl ts_178 rfl)) (.tmp rfl (show _ = Value.int _ _ from rfl)) ?_
         obtain rfl : k = mm := by omega
         exact ⟨_, _, rfl, hS.new 0 rfl rfl, hS.kp⟩
set_option maxRecDepth 100000 in
set_option maxHeartbeats 4000000 in
theorem pick_c (n : Nat) (A : Option Addr) (c : Nat) (l : List Int) (s : Nat) (w0 : World) (hv : View w0 w0.heap.size A (l.map i64v)) (hl : l.length = n) (hn : 1 ≤ n) (hn4 : n ≤ 1000000) (hs : s < 4294967296) :
    Calls Try.prog 118 #[.agg #[.slice A n c], .int .u32 (s : Int)] w0 fun e w' => e = .returned (.int .i64 (l.getD (s % n) 0)) ∧ Kp [] w0 w' := by
  obtain ⟨bt, ot, rfl⟩ := view_some hv (by simp; omega)
  have hS := (St.sv w0).vcons rfl hv
  have hmod : s % n < n := Nat.mod_lt _ hn
  refine ent (n := 19) Try.func118 rfl rfl ?_
  refine wp_seq_k ?_; intro K1 hK1
  refine wlit ?_
  refine wl_e rfl ?_; intro K hK
  refine ow_box hS (tmA rfl rfl) rfl ?_
  clear hS; intro g0_0 w hg0_0 hS
  refine hK _ _ ?_; clear hK K
  refine wl_v (x_assign (ev_cN 0)) ?_
  refine wl_nil ?_
  refine then_n (hK1 _ _ ?_); clear hK1 K1
  refine wp_seq_k ?_; intro K2 hK2
  refine wp_seq_k ?_; intro K3 hK3
  refine wlit ?_
  refine wl_v (x_fa 0 Try.underlying178 rfl rfl ts_71 (tmP rfl rfl)) ?_
  first
   | refine wl_v (x_load Try.underlying71 rfl (tmP rfl rfl) (cellB hS.ok 0 rfl rfl)) ?_
   | refine wl_v (x_load Try.underlying71 rfl (tmP rfl rfl) (cellB hS.ok 0 rfl (getm (by omega)))) ?_
  refine wl_v (x_len Try.underlying71 (tmS rfl rfl)) ?_
  refine wl_v (x_eql (tmI rfl rfl) (ev_cN 0)) ?_
  refine wl_nil ?_
  refine then_n (hK3 _ _ ?_); clear hK3 K3
  refine cnd (tm rfl) (fun hc0 => ?_) (fun hc0 => ?_)
  · try (exfalso; first | with_reducible exact absurd hc0 Bool.false_ne_true | with_reducible exact absurd hc0.symm Bool.false_ne_true | (simp only [nrm] at hc0; omega) | (simp at hc0; done))
    all_goals
     try simp only [nrm] at hc0
     refine wp_seq_k ?_; intro K4 hK4
     refine wlit ?_
     refine wl_v (x_assign ev_c) ?_
     refine wl_nil ?_
     refine then_n (hK4 _ _ ?_); clear hK4 K4
     refine wp_ret ?_
     refine then_r ?_
     refine ret1 rfl (.tmp rfl (show _ = Value.int _ _ from rfl)) ?_
     exact ⟨rfl, hS.kp⟩
  try (exfalso; first | with_reducible exact absurd hc0 Bool.false_ne_true | with_reducible exact absurd hc0.symm Bool.false_ne_true | (simp only [nrm] at hc0; omega) | (simp at hc0; done))
  all_goals
   try simp only [nrm] at hc0
   refine wp_skip ?_
   refine then_n (hK2 _ _ ?_); clear hK2 K2
   refine wp_seq_k ?_; intro K5 hK5
   refine rg_startk 0 hS mixed_ ?_
   clear hS; intro w hS
   refine rg_take 0 rfl rfl (by kernel_rfl) (by kernel_rfl) (by kernel_rfl) (want_0) (fun w hok => x_fa 0 Try.underlying178 rfl rfl ts_71 (tmP rfl rfl)) ?_
   first
    | refine rg_take 1 rfl rfl (by kernel_rfl) (by kernel_rfl) (by kernel_rfl) (want_0) (fun w hok => x_load Try.underlying71 rfl (tmP rfl rfl) (cellB hok 0 rfl rfl)) ?_
    | refine rg_take 1 rfl rfl (by kernel_rfl) (by kernel_rfl) (by kernel_rfl) (want_0) (fun w hok => x_load Try.underlying71 rfl (tmP rfl rfl) (cellB hok 0 rfl (getm (by omega)))) ?_
   refine rg_take 2 rfl rfl (by kernel_rfl) (by kernel_rfl) (by kernel_rfl) (want_0) (fun w hok => x_move (tmI rfl rfl)) ?_
   refine rg_take 3 rfl rfl (by kernel_rfl) (by kernel_rfl) (by kernel_rfl) (want_0) (fun w hok => x_fa 0 Try.underlying178 rfl rfl ts_71 (tmP rfl rfl)) ?_
   first
    | refine rg_take 4 rfl rfl (by kernel_rfl) (by kernel_rfl) (by kernel_rfl) (want_0) (fun w hok => x_load Try.underlying71 rfl (tmP rfl rfl) (cellB hok 0 rfl rfl)) ?_
    | refine rg_take 4 rfl rfl (by kernel_rfl) (by kernel_rfl) (by kernel_rfl) (want_0) (fun w hok => x_load Try.underlying71 rfl (tmP rfl rfl) (cellB hok 0 rfl (getm (by omega)))) ?_
   refine rg_take 5 rfl rfl (by kernel_rfl) (by kernel_rfl) (by kernel_rfl) (want_0) (fun w hok => x_len Try.underlying71 (tmS rfl rfl)) ?_
   first
    | refine rg_take 6 rfl rfl (by kernel_rfl) (by kernel_rfl) (by kernel_rfl) (want_0) (fun w hok => x_convN Try.underlying3 Try.underlying49 (tmI rfl rfl) (fit_u32 (by omega))) ?_
    | refine rg_take 6 rfl rfl (by kernel_rfl) (by kernel_rfl) (by kernel_rfl) (want_0) (fun w hok => x_convU Try.underlying3 Try.underlying49 (tmI rfl rfl) rfl) ?_
    | refine rg_take 6 rfl rfl (by kernel_rfl) (by kernel_rfl) (by kernel_rfl) (want_0) (fun w hok => x_conv Try.underlying3 Try.underlying49 (tmI rfl rfl)) ?_
   first
    | refine rg_take 7 rfl rfl (by kernel_rfl) (by kernel_rfl) (by kernel_rfl) (want_0) (fun w hok => x_remN (tmI rfl rfl) (tmI rfl rfl) (by omega)) ?_
    | refine rg_take 7 rfl rfl (by kernel_rfl) (by kernel_rfl) (by kernel_rfl) (want_0) (fun w hok => x_rem (tmI rfl rfl) (tmI rfl rfl) (by omega)) ?_
   refine rg_take 8 rfl rfl (by kernel_rfl) (by kernel_rfl) (by kernel_rfl) (want_0) (fun w hok => x_ixs1 Try.underlying71 ts_3 (tmS rfl rfl) (tmI rfl rfl) (by omega)) ?_
   first
    | refine rg_take 9 rfl rfl (by kernel_rfl) (by kernel_rfl) (by kernel_rfl) (want_0) (fun w hok => x_load Try.underlying3 rfl (tmP rfl rfl) (cellB hok 1 rfl rfl)) ?_
    | refine rg_take 9 rfl rfl (by kernel_rfl) (by kernel_rfl) (by kernel_rfl) (want_0) (fun w hok => x_load Try.underlying3 rfl (tmP rfl rfl) (cellV hok 1 rfl rfl)) ?_
    | refine rg_take 9 rfl rfl (by kernel_rfl) (by kernel_rfl) (by kernel_rfl) (want_0) (fun w hok => x_load Try.underlying3 rfl (tmP rfl rfl) (cellV hok 1 rfl (getm (by omega)))) ?_
    | refine rg_take 9 rfl rfl (by kernel_rfl) (by kernel_rfl) (by kernel_rfl) (want_0) (fun w hok => x_load Try.underlying3 rfl (tmP rfl rfl) (cellVs hok 1 rfl (fun _ => rfl) rfl (by omega) rfl)) ?_
    | refine rg_take 9 rfl rfl (by kernel_rfl) (by kernel_rfl) (by kernel_rfl) (want_0) (fun w hok => x_load Try.underlying3 rfl (tmP rfl rfl) (cellR hok 1 rfl rfl)) ?_
    | refine rg_take 9 rfl rfl (by kernel_rfl) (by kernel_rfl) (by kernel_rfl) (want_0) (fun w hok => x_load Try.underlying3 rfl (tmP rfl rfl) (cellR hok 1 rfl (getm (by omega)))) ?_
    | refine rg_take 9 rfl rfl (by kernel_rfl) (by kernel_rfl) (by kernel_rfl) (want_0) (fun w hok => x_load Try.underlying3 rfl (tmP rfl rfl) (cellRs hok 1 rfl (fun _ => rfl) rfl (by omega) rfl)) ?_
   refine rg_take 10 rfl rfl (by kernel_rfl) (by kernel_rfl) (by kernel_rfl) (want_0) (fun w hok => x_assign (tmI rfl rfl)) ?_
   refine rg_done (oks_drop hS 0 rfl) (by kernel_rfl) ?_
   refine then_n (hK5 _ _ ?_); clear hK5 K5
   refine wp_ret ?_
   refine ret1 rfl (.tmp rfl (show _ = Value.int _ _ from rfl)) ?_
   exact ⟨rfl, hS.kp⟩
set_option maxRecDepth 100000 in
set_option maxHeartbeats 4000000 in
theorem law41_awake_c (w0 : World) :
    Calls Try.prog 64 #[] w0 fun e w' => e = .returned (.bool true) ∧ Kp [] w0 w' := by
  have hS := St.sv w0
  refine ent (n := 20) Try.func64 rfl rfl ?_
  refine wp_seq_k ?_; intro K1 hK1
  refine wlit ?_
  refine wl_v (x_assign ev_c) ?_
  refine wl_nil ?_
  refine then_n (hK1 _ _ ?_); clear hK1 K1
  refine wp_seq_k ?_; intro K2 hK2
  refine wlit ?_
  refine wl_e rfl ?_; intro K hK
  refine ow_build hS Try.underlying71 tz_3 (bc_take (ev_cN 7) <| bc_take (ev_cN 8) <| bc_nil) rfl rfl (by kernel_rfl) ?_
  clear hS; intro g1_0 w hg1_0 hS
  refine hK _ _ ?_; clear hK K
  refine wl_e rfl ?_; intro K hK
  refine ow_call Try.func117 rfl rfl (evs_cons (ev_cN 4) <| evs_cons (tmS rfl rfl) <| evs_nil) (new_ok 4 _ _ [7, 8] _ (viewB hS.ok 0 rfl) (by decide) (by decide) (by decide) (by decide) (by decide)) ?_
  rintro e w ⟨A', c', rfl, hn, hk⟩
  refine ⟨_, rfl, ?_⟩
  replace hS := hS.add hk hn -- +1
  refine hK _ _ ?_; clear hK K
  refine wl_v (x_move (tmT rfl rfl)) ?_
  refine wl_v (x_ext (tmT rfl rfl) rfl) ?_
  refine wl_v (x_ext (tmT rfl rfl) rfl) ?_
  refine wl_e rfl ?_; intro K hK
  refine ow_alloc hS tz_178 rfl ?_
  clear hS; intro g1_5 w hg1_5 hS
  refine hK _ _ ?_; clear hK K
  refine wl_e rfl ?_; intro K hK
  refine ow_storeA hS 0 rfl ts_178 (tmP rfl rfl) (tmA rfl rfl) rfl rfl rfl ?_
  clear hS; intro w hS
  refine hK _ _ ?_; clear hK K
  refine wl_v (x_assign (tmI rfl rfl)) ?_
  refine wl_nil ?_
  refine then_n (hK2 _ _ ?_); clear hK2 K2
  refine wp_seq_k ?_; intro K3 hK3
  refine wlit ?_
  refine wl_v (x_move (tmI rfl rfl)) ?_
  refine wl_v (x_eql (tmI rfl rfl) (ev_cN 0)) ?_
  refine wl_v (x_move (tmB rfl rfl)) ?_
  refine gs_wls (tm (t := 10) rfl) (fun hg2_2 => ?_) (fun hg2_2 => ?_)
  · exfalso
    exact absurd hg2_2 (by decide)
  have hg2_2' := hg2_2; (try simp only [nrm] at hg2_2'); try (exfalso; first | with_reducible exact absurd hg2_2 Bool.false_ne_true | with_reducible exact absurd hg2_2.symm Bool.false_ne_true | omega | (simp at hg2_2; done))
  all_goals
   refine wl_gv (want_y rfl rfl rfl rfl (by rw [hg2_2]; rfl)) (x_loadA (cs := [_]) Try.underlying178 rfl ts_178 (tmP rfl rfl) (rangeB hS.ok 0 rfl rfl)) ?_
   refine wl_g (want_y rfl rfl rfl rfl (by rw [hg2_2]; rfl)) ?_; intro K hK
   refine ow_call Try.func118 rfl rfl (evs_cons (tmA rfl rfl) <| evs_cons (ev_cN 0) <| evs_nil) (pick_c 4 _ _ (cyc [7, 8] 4) _ _ (viewR hS.ok 1 rfl) (by decide) (by decide) (by decide) (by decide)) ?_
   rintro e w ⟨rfl, hk⟩
   refine ⟨_, rfl, ?_⟩
   replace hS := hS.kept hk
   refine hK _ _ ?_; clear hK K
   refine wl_gv (want_y rfl rfl rfl rfl (by rw [hg2_2]; rfl)) (x_eql (tmI rfl rfl) (ev_cN 7)) ?_
   refine wl_v (x_pickT (tmB rfl rfl) hg2_2 (tmB rfl rfl)) ?_
   refine wl_v (x_move (tmB rfl rfl)) ?_
   refine gs_wls (tm (t := 15) rfl) (fun hg2_7 => ?_) (fun hg2_7 => ?_)
   · exfalso
     exact absurd hg2_7 (by decide)
   have hg2_7' := hg2_7; (try simp only [nrm] at hg2_7'); try (exfalso; first | with_reducible exact absurd hg2_7 Bool.false_ne_true | with_reducible exact absurd hg2_7.symm Bool.false_ne_true | omega | (simp at hg2_7; done))
   all_goals
    refine wl_gv (want_y rfl rfl rfl rfl (by rw [hg2_7]; rfl)) (x_loadA (cs := [_]) Try.underlying178 rfl ts_178 (tmP rfl rfl) (rangeB hS.ok 0 rfl rfl)) ?_
    refine wl_g (want_y rfl rfl rfl rfl (by rw [hg2_7]; rfl)) ?_; intro K hK
    refine ow_call Try.func118 rfl rfl (evs_cons (tmA rfl rfl) <| evs_cons (ev_cN 5) <| evs_nil) (pick_c 4 _ _ (cyc [7, 8] 4) _ _ (viewR hS.ok 1 rfl) (by decide) (by decide) (by decide) (by decide)) ?_
    rintro e w ⟨rfl, hk⟩
    refine ⟨_, rfl, ?_⟩
    replace hS := hS.kept hk
    refine hK _ _ ?_; clear hK K
    refine wl_gv (want_y rfl rfl rfl rfl (by rw [hg2_7]; rfl)) (x_eql (tmI rfl rfl) (ev_cN 8)) ?_
    refine wl_v (x_pickT (tmB rfl rfl) hg2_7 (tmB rfl rfl)) ?_
    refine wl_v (x_assign (tmB rfl rfl)) ?_
    refine wl_nil ?_
    refine then_n (hK3 _ _ ?_); clear hK3 K3
    refine wp_ret ?_
    refine ret1 rfl (.tmp rfl (show _ = Value.bool _ from rfl)) ?_
    exact ⟨rfl, hS.kp⟩
/-! ### bits and windows -/
def bitF (l : List Nat) (k : Nat) : Nat := nth l (k / 8) / 2 ^ (7 - k % 8) % 2
def pN (l : List Nat) (q : Nat) : Nat → Nat
  | 0 => 0
  | i + 1 => pN l q i * 256 + nth l (q + i)
theorem pN_lt {l : List Nat} (hb : Bytes l) (q i : Nat) : pN l q i < 256 ^ i := by
  induction i with
  | zero => simp [pN]
  | succ i ih =>
    have := nth_lt hb (q + i)
    rw [Nat.pow_succ]
    unfold pN
    omega
def winF (l : List Nat) (k : Nat) : Nat := pN l (k / 8) 5 / 2 ^ (8 - k % 8) % 4294967296
def sumF (key b : List Nat) : Nat → Nat
  | 0 => 0
  | k + 1 => if bitF b k = 1 then sumF key b k ^^^ winF key k else sumF key b k
theorem winF_lt (l : List Nat) (k : Nat) : winF l k < 4294967296 := Nat.mod_lt _ (by omega)
theorem sumF_lt (key b : List Nat) (k : Nat) : sumF key b k < 4294967296 := by
  induction k with
  | zero => simp [sumF]
  | succ k ih =>
    unfold sumF
    split
    · exact Nat.xor_lt_two_pow (n := 32) ih (winF_lt _ _)
    · exact ih
theorem bit5 {y0 y1 y2 y3 y4 : Nat} (h0 : y0 < 256) (h1 : y1 < 256) (h2 : y2 < 256) (h3 : y3 < 256) (h4 : y4 < 256) (p : Nat) (hp : p < 40) :
    (if p / 8 = 0 then y0 else if p / 8 = 1 then y1 else if p / 8 = 2 then y2 else if p / 8 = 3 then y3 else y4) / 2 ^ (7 - p % 8) % 2 = ((((y0 * 256 + y1) * 256 + y2) * 256 + y3) * 256 + y4) / 2 ^ (39 - p) % 2 := by
  have e : p = 0 ∨ p = 1 ∨ p = 2 ∨ p = 3 ∨ p = 4 ∨ p = 5 ∨ p = 6 ∨ p = 7 ∨ p = 8 ∨ p = 9 ∨ p = 10 ∨ p = 11 ∨ p = 12 ∨ p = 13 ∨ p = 14 ∨ p = 15 ∨ p = 16 ∨ p = 17 ∨ p = 18 ∨ p = 19 ∨ p = 20 ∨ p = 21 ∨ p = 22 ∨ p = 23 ∨ p = 24 ∨ p = 25 ∨ p = 26 ∨ p = 27 ∨ p = 28 ∨ p = 29 ∨ p = 30 ∨ p = 31 ∨ p = 32 ∨ p = 33 ∨ p = 34 ∨ p = 35 ∨ p = 36 ∨ p = 37 ∨ p = 38 ∨ p = 39 := by omega
  rcases e with rfl | rfl | rfl | rfl | rfl | rfl | rfl | rfl | rfl | rfl | rfl | rfl | rfl | rfl | rfl | rfl | rfl | rfl | rfl | rfl | rfl | rfl | rfl | rfl | rfl | rfl | rfl | rfl | rfl | rfl | rfl | rfl | rfl | rfl | rfl | rfl | rfl | rfl | rfl | rfl <;> (simp only [Nat.reduceDiv, Nat.reduceMod, Nat.reduceSub, Nat.reducePow, Nat.reduceEqDiff, if_true, if_false, ↓reduceIte]; omega)
theorem bit_win {l : List Nat} (hb : Bytes l) (k i : Nat) (hi : i < 32) : bitF l (k + i) = pN l (k / 8) 5 / 2 ^ (39 - k % 8 - i) % 2 := by
  have h := bit5 (nth_lt hb (k / 8)) (nth_lt hb (k / 8 + 1)) (nth_lt hb (k / 8 + 2)) (nth_lt hb (k / 8 + 3)) (nth_lt hb (k / 8 + 4)) (k % 8 + i) (by omega)
  have hp : pN l (k / 8) 5 = ((((nth l (k / 8) * 256 + nth l (k / 8 + 1)) * 256 + nth l (k / 8 + 2)) * 256 + nth l (k / 8 + 3)) * 256 + nth l (k / 8 + 4)) := by simp [pN]
  rw [hp, show 39 - k % 8 - i = 39 - (k % 8 + i) by omega, ← h]
  unfold bitF
  rw [show (k + i) % 8 = (k % 8 + i) % 8 by omega]
  congr 2
  have e : (k + i) / 8 = k / 8 + (k % 8 + i) / 8 := by omega
  have e5 : (k % 8 + i) / 8 = 0 ∨ (k % 8 + i) / 8 = 1 ∨ (k % 8 + i) / 8 = 2 ∨ (k % 8 + i) / 8 = 3 ∨ (k % 8 + i) / 8 = 4 := by omega
  rw [e]
  rcases e5 with h | h | h | h | h <;> rw [h] <;> simp
def wF (l : List Nat) (k : Nat) : Nat → Nat
  | 0 => 0
  | i + 1 => wF l k i * 2 + bitF l (k + i)
theorem wF_eq {l : List Nat} (hb : Bytes l) (k i : Nat) (hi : i ≤ 32) : wF l k i = pN l (k / 8) 5 / 2 ^ (40 - k % 8 - i) % 2 ^ i := by
  induction i with
  | zero => simp [wF, Nat.mod_one]
  | succ i ih =>
    have h := ih (by omega)
    unfold wF
    rw [h, bit_win hb k i (by omega)]
    have e : 40 - k % 8 - i = (39 - k % 8 - i) + 1 := by omega
    rw [e, Nat.pow_succ, ← Nat.div_div_eq_div_mul, show 40 - k % 8 - (i + 1) = 39 - k % 8 - i by omega]
    generalize pN l (k / 8) 5 / 2 ^ (39 - k % 8 - i) = A
    rw [Nat.pow_succ, Nat.mul_comm (2 ^ i) 2, Nat.mod_mul]
    omega
theorem wF_lt {l : List Nat} (k i : Nat) : wF l k i < 2 ^ i := by
  induction i with
  | zero => simp [wF]
  | succ i ih =>
    have : bitF l (k + i) < 2 := Nat.mod_lt _ (by omega)
    unfold wF
    rw [Nat.pow_succ]
    omega
theorem wF_win {l : List Nat} (hb : Bytes l) (k : Nat) : wF l k 32 = winF l k := by
  rw [wF_eq hb k 32 (by omega), show 40 - k % 8 - 32 = 8 - k % 8 by omega]
  rfl
set_option maxRecDepth 100000 in
set_option maxHeartbeats 4000000 in
theorem window_c (n : Nat) (A : Option Addr) (c : Nat) (l : List Nat) (k : Nat) (w0 : World) (hv : View w0 w0.heap.size A (l.map u8v)) (hl : l.length = n) (hb : Bytes l) (hn4 : n ≤ 1000000) (hk : k ≤ 100000000) :
    Calls Try.prog 119 #[.slice A n c, .int .i64 (k : Int)] w0 fun e w' => e = .returned (.int .u32 (winF l k : Int)) ∧ Kp [] w0 w' := by
  have hS := (St.sv w0).vcons rfl hv
  have hpb := fun i => pN_lt hb (k / 8) i
  refine ent (n := 35) Try.func119 rfl rfl ?_
  refine wp_seq_k ?_; intro K1 hK1
  refine wlit ?_
  refine wl_v (x_assign (ev_cN 0)) ?_
  refine wl_nil ?_
  refine then_n (hK1 _ _ ?_); clear hK1 K1
  refine wp_seq_k ?_; intro K2 hK2
  refine wlit ?_
  refine wl_v (x_assign (ev_cN 0)) ?_
  refine wl_nil ?_
  refine then_n (hK2 _ _ ?_); clear hK2 K2
  refine wp_seq_k ?_; intro K3 hK3
  refine wp_seq_k ?_; intro K4 hK4
  refine wlit ?_
  refine wl_v (x_move (ev_cN 0)) ?_
  refine wl_nil ?_
  refine then_n (hK4 _ _ ?_); clear hK4 K4
  refine wp_block ?_
  refine lp [5, 6, 7, 8, 9, 10, 11, 12, 13, 14, 15, 16, 17, 18, 19, 20, 21, 22, 23, 24, 25, 26, 27, 28] (fun mz g w => ∃ (i : Nat), mz = 5 - i ∧ g 8 = .int .i64 (i : Int) ∧ g 5 = .int .u64 (pN l (k / 8) i : Int) ∧ St [] w0 [.vw A (l.map u8v)] w ∧ (i ≤ 5)) ?_ ?_
  · exact ⟨_, 0, rfl, (by first | rfl | go_num | exact congrArg (Value.int _) (by first | omega | (simp; done) | (simp; omega))), (by first | rfl | go_num | exact congrArg (Value.int _) (by first | omega | (simp; done) | (simp; omega))), hS, (by omega)⟩
  · clear hS; intro mz g w hI
    obtain ⟨i, rfl, hs8, hs5, hS, hi⟩ := hI
    refine fr_know (d := 8) hs8 ?_; clear hs8
    refine fr_know (d := 5) hs5 ?_; clear hs5
    refine wp_seq_k ?_; intro K5 hK5
    refine wlit ?_
    refine wl_v (x_lss (tmI rfl rfl) (ev_cN 5)) ?_
    refine wl_nil ?_
    refine then_n (hK5 _ _ ?_); clear hK5 K5
    refine wp_seq_k ?_; intro K6 hK6
    refine cnd (tm rfl) (fun hc0 => ?_) (fun hc0 => ?_)
    · try (exfalso; first | with_reducible exact absurd hc0 Bool.false_ne_true | with_reducible exact absurd hc0.symm Bool.false_ne_true | (simp only [nrm] at hc0; omega) | (simp at hc0; done))
      all_goals
       try simp only [nrm] at hc0
       have hp1 := hpb i
       have hp4 : 256 ^ i ≤ 256 ^ 4 := Nat.pow_le_pow_right (by omega) (by omega)
       have hp2 : pN l (k / 8) i < 4294967296 := by omega
       clear hp1 hp4
       have hy : l.getD (k / 8 + i) 0 < 256 := nth_lt hb (k / 8 + i)
       have hsucc : pN l (k / 8) (i + 1) = pN l (k / 8) i * 256 + l.getD (k / 8 + i) 0 := rfl
       generalize pN l (k / 8) i = m at *
       refine wp_skip ?_
       refine then_n (hK6 _ _ ?_); clear hK6 K6
       refine wp_seq_k ?_; intro K7 hK7
       refine wp_block ?_
       refine wp_seq_k ?_; intro K8 hK8
       refine wlit ?_
       refine wl_v (x_move (tmI rfl rfl)) ?_
       refine wl_v (x_assign (tmI rfl rfl)) ?_
       refine wl_nil ?_
       refine then_n (hK8 _ _ ?_); clear hK8 K8
       refine wp_seq_k ?_; intro K9 hK9
       refine wlit ?_
       refine wl_v (x_move (tmI rfl rfl)) ?_
       refine wl_v (x_shlN (n := 8) (tmI rfl rfl) (ev_cN 8) (by decide) (fit_u64 (by omega))) ?_
       refine wl_v (x_assign (tmI rfl rfl)) ?_
       refine wl_nil ?_
       refine then_n (hK9 _ _ ?_); clear hK9 K9
       refine wp_seq_k ?_; intro K10 hK10
       refine wlit ?_
       refine wl_v (x_move (tmI rfl rfl)) ?_
       first
        | refine wl_v (x_quoN (tmI rfl rfl) (ev_cN 8) (by omega) (fit_i64 (by omega))) ?_
        | refine wl_v (x_quo (tmI rfl rfl) (ev_cN 8) (by omega)) ?_
       refine wl_v (x_move (tmI rfl rfl)) ?_
       first
        | refine wl_v (x_addN (tmI rfl rfl) (tmI rfl rfl) (fit_i64 (by omega))) ?_
        | refine wl_v (x_addI (tmI rfl rfl) (tmI rfl rfl) (IntWalk.i64_in _ (by omega))) ?_
        | refine wl_v (x_add (tmI rfl rfl) (tmI rfl rfl)) ?_
       refine wl_v (x_assign (tmI rfl rfl)) ?_
       refine wl_nil ?_
       refine then_n (hK10 _ _ ?_); clear hK10 K10
       refine wp_seq_k ?_; intro K11 hK11
       refine wlit ?_
       refine wl_v (x_move (tmI rfl rfl)) ?_
       refine wl_v (x_move (tmS rfl rfl)) ?_
       refine wl_v (x_len Try.underlying22 (tmS rfl rfl)) ?_
       refine wl_v (x_lss (tmI rfl rfl) (tmI rfl rfl)) ?_
       refine wl_nil ?_
       refine then_n (hK11 _ _ ?_); clear hK11 K11
       refine cnd (tm rfl) (fun hc1 => ?_) (fun hc1 => ?_)
       · try (exfalso; first | with_reducible exact absurd hc1 Bool.false_ne_true | with_reducible exact absurd hc1.symm Bool.false_ne_true | (simp only [nrm] at hc1; omega) | (simp at hc1; done))
         all_goals
          try simp only [nrm] at hc1
          obtain ⟨ba, oa, rfl⟩ := view_some hv (by rw [List.length_map]; omega)
          have hx : pN l (k / 8) (i + 1) = m * 2 ^ 8 ||| l.getD (k / 8 + i) 0 := by rw [hsucc, or_low hy]
          refine wlit ?_
          refine wl_v (x_move (tmI rfl rfl)) ?_
          refine wl_v (x_move (tmS rfl rfl)) ?_
          refine wl_v (x_move (tmI rfl rfl)) ?_
          refine wl_v (x_ixs1 Try.underlying22 ts_5 (tmS rfl rfl) (tmI rfl rfl) (by omega)) ?_
          first
           | refine wl_v (x_load Try.underlying5 rfl (tmP rfl rfl) (cellV hS.ok 0 rfl rfl)) ?_
           | refine wl_v (x_load Try.underlying5 rfl (tmP rfl rfl) (cellV hS.ok 0 rfl (getm (by omega)))) ?_
           | refine wl_v (x_load Try.underlying5 rfl (tmP rfl rfl) (cellVs hS.ok 0 rfl (fun _ => rfl) rfl (by omega) rfl)) ?_
          first
           | refine wl_v (x_convN Try.underlying5 Try.underlying24 (tmI rfl rfl) (fit_u64 (by omega))) ?_
           | refine wl_v (x_convU Try.underlying5 Try.underlying24 (tmI rfl rfl) rfl) ?_
           | refine wl_v (x_conv Try.underlying5 Try.underlying24 (tmI rfl rfl)) ?_
          refine wl_v (x_orN (tmI rfl rfl) (tmI rfl rfl) (fit_u64 (by omega)) (fit_u64 (by omega))) ?_
          refine wl_v (x_assign (tmI rfl rfl)) ?_
          refine wl_nil ?_
          refine inb_n ?_
          refine then_n (hK7 _ _ ?_); clear hK7 K7
          refine wlit ?_
          first
           | refine wl_v (x_addN (tmI rfl rfl) (ev_cN 1) (fit_i64 (by omega))) ?_
           | refine wl_v (x_addI (tmI rfl rfl) (ev_cN 1) (IntWalk.i64_in _ (by omega))) ?_
           | refine wl_v (x_add (tmI rfl rfl) (ev_cN 1)) ?_
          refine wl_v (x_move (tmI rfl rfl)) ?_
          refine wl_nil ?_
          exact then_n ⟨_, _, rfl, (by show _ < _; omega), (by repeat (first | exact agree_self | exact agree_refl | refine agree_upd rfl ?_ | refine agree_mix rfl ?_)), i + 1, rfl, (by first | rfl | go_num | exact congrArg (Value.int _) (by first | omega | (simp; done) | (simp; omega))), (by first | rfl | (exact congrArg (fun q : Nat => Value.int .u64 (q : Int)) hx.symm; done) | (exact congrArg (fun q : Nat => Value.int .u64 (q : Int)) hx.symm; rfl) | (exact congrArg (fun q : Nat => Value.int .u64 (q : Int)) hx.symm; go_num)), hS, (by omega)⟩
       try (exfalso; first | with_reducible exact absurd hc1 Bool.false_ne_true | with_reducible exact absurd hc1.symm Bool.false_ne_true | (simp only [nrm] at hc1; omega) | (simp at hc1; done))
       all_goals
        try simp only [nrm] at hc1
        have hx : pN l (k / 8) (i + 1) = m * 2 ^ 8 := by
          have h0 : l.getD (k / 8 + i) 0 = 0 := by rw [List.getD_eq_getElem?_getD, List.getElem?_eq_none (by omega)]; rfl
          rw [hsucc, h0]
          omega
        refine wp_skip ?_
        refine inb_n ?_
        refine then_n (hK7 _ _ ?_); clear hK7 K7
        refine wlit ?_
        first
         | refine wl_v (x_addN (tmI rfl rfl) (ev_cN 1) (fit_i64 (by omega))) ?_
         | refine wl_v (x_addI (tmI rfl rfl) (ev_cN 1) (IntWalk.i64_in _ (by omega))) ?_
         | refine wl_v (x_add (tmI rfl rfl) (ev_cN 1)) ?_
        refine wl_v (x_move (tmI rfl rfl)) ?_
        refine wl_nil ?_
        exact then_n ⟨_, _, rfl, (by show _ < _; omega), (by repeat (first | exact agree_self | exact agree_refl | refine agree_upd rfl ?_ | refine agree_mix rfl ?_)), i + 1, rfl, (by first | rfl | go_num | exact congrArg (Value.int _) (by first | omega | (simp; done) | (simp; omega))), (by first | rfl | (exact congrArg (fun q : Nat => Value.int .u64 (q : Int)) hx.symm; done) | (exact congrArg (fun q : Nat => Value.int .u64 (q : Int)) hx.symm; rfl) | (exact congrArg (fun q : Nat => Value.int .u64 (q : Int)) hx.symm; go_num)), hS, (by omega)⟩
    try (exfalso; first | with_reducible exact absurd hc0 Bool.false_ne_true | with_reducible exact absurd hc0.symm Bool.false_ne_true | (simp only [nrm] at hc0; omega) | (simp at hc0; done))
    all_goals
     try simp only [nrm] at hc0
     refine wp_exit ?_
     refine then_x ?_; clear hK6 K6
     refine then_x ?_
     refine inb_x ?_
     refine then_n (hK3 _ _ ?_); clear hK3 K3
     refine wp_seq_k ?_; intro K12 hK12
     obtain rfl : i = 5 := by omega
     have hp5 := hpb 5
     refine wlit ?_
     refine wl_v (x_move (tmI rfl rfl)) ?_
     refine wl_v (x_move (tmI rfl rfl)) ?_
     first
      | refine wl_v (x_remN (tmI rfl rfl) (ev_cN 8) (by omega)) ?_
      | refine wl_v (x_rem (tmI rfl rfl) (ev_cN 8) (by omega)) ?_
     refine wl_v (x_subN (ev_cN 8) (tmI rfl rfl) (fit_i64 (by omega)) (by omega)) ?_
     refine wl_v (x_shrN (tmI rfl rfl) (tmI rfl rfl) (fit_u64 (by omega))) ?_
     refine wl_v (x_convU Try.underlying24 Try.underlying49 (tmI rfl rfl) rfl) ?_
     refine wl_v (x_assign (tmI rfl rfl)) ?_
     refine wl_nil ?_
     refine then_n (hK12 _ _ ?_); clear hK12 K12
     refine wp_ret ?_
     refine ret1 rfl (.tmp rfl (show _ = Value.int _ _ from rfl)) ?_
     exact ⟨rfl, hS.kp⟩
set_option maxRecDepth 100000 in
set_option maxHeartbeats 4000000 in
theorem spread_sum_c (n : Nat) (A : Option Addr) (c : Nat) (l : List Nat) (m : Nat) (A2 : Option Addr) (c2 : Nat) (b : List Nat) (w0 : World) (hv : View w0 w0.heap.size A (l.map u8v)) (hl : l.length = n) (hb : Bytes l) (hn4 : n ≤ 1000000) (hv2 : View w0 w0.heap.size A2 (b.map u8v)) (hl2 : b.length = m) (hb2 : Bytes b) (hn2 : m ≤ 1000000) :
    Calls Try.prog 66 #[.slice A n c, .slice A2 m c2] w0 fun e w' => e = .returned (.int .u32 (sumF l b (8 * m) : Int)) ∧ Kp [] w0 w' := by
  have hS := ((St.sv w0).vcons rfl hv2).vcons rfl hv
  refine ent (n := 31) Try.func66 rfl rfl ?_
  refine wp_seq_k ?_; intro K1 hK1
  refine wlit ?_
  refine wl_v (x_assign (ev_cN 0)) ?_
  refine wl_nil ?_
  refine then_n (hK1 _ _ ?_); clear hK1 K1
  refine wp_seq_k ?_; intro K2 hK2
  refine wlit ?_
  refine wl_v (x_assign (ev_cN 0)) ?_
  refine wl_nil ?_
  refine then_n (hK2 _ _ ?_); clear hK2 K2
  refine wp_seq_k ?_; intro K3 hK3
  refine wp_seq_k ?_; intro K4 hK4
  refine wlit ?_
  refine wl_v (x_move (tmS rfl rfl)) ?_
  refine wl_v (x_len Try.underlying22 (tmS rfl rfl)) ?_
  first
   | refine wl_v (x_mulN (ev_cN 8) (tmI rfl rfl) (fit_i64 (by omega))) ?_
   | refine wl_v (x_mulI (ev_cN 8) (tmI rfl rfl) (IntWalk.i64_in _ (by omega))) ?_
   | refine wl_v (x_mul (ev_cN 8) (tmI rfl rfl)) ?_
  refine wl_v (x_move (ev_cN 0)) ?_
  refine wl_nil ?_
  refine then_n (hK4 _ _ ?_); clear hK4 K4
  refine wp_block ?_
  refine lp [5, 6, 10, 11, 12, 13, 14, 15, 16, 17, 18, 19, 20, 21, 22, 23, 24, 25, 26, 27, 28, 29] (fun mz g w => ∃ (k : Nat), mz = 8 * m - k ∧ g 10 = .int .i64 (k : Int) ∧ g 5 = .int .u32 (sumF l b k : Int) ∧ St [] w0 [.vw A (l.map u8v), .vw A2 (b.map u8v)] w ∧ (k ≤ 8 * m)) ?_ ?_
  · exact ⟨_, 0, rfl, (by first | rfl | go_num | exact congrArg (Value.int _) (by first | omega | (simp; done) | (simp; omega))), (by first | rfl | go_num | exact congrArg (Value.int _) (by first | omega | (simp; done) | (simp; omega))), hS, (by omega)⟩
  · clear hS; intro mz g w hI
    obtain ⟨k, rfl, hs10, hs5, hS, hk⟩ := hI
    refine fr_know (d := 10) hs10 ?_; clear hs10
    refine fr_know (d := 5) hs5 ?_; clear hs5
    refine wp_seq_k ?_; intro K5 hK5
    refine wlit ?_
    refine wl_v (x_lss (tmI rfl rfl) (tmI rfl rfl)) ?_
    refine wl_nil ?_
    refine then_n (hK5 _ _ ?_); clear hK5 K5
    refine wp_seq_k ?_; intro K6 hK6
    refine cnd (tm rfl) (fun hc0 => ?_) (fun hc0 => ?_)
    · try (exfalso; first | with_reducible exact absurd hc0 Bool.false_ne_true | with_reducible exact absurd hc0.symm Bool.false_ne_true | (simp only [nrm] at hc0; omega) | (simp at hc0; done))
      all_goals
       try simp only [nrm] at hc0
       obtain ⟨ba, oa, rfl⟩ := view_some hv2 (by rw [List.length_map]; omega)
       have hsb := sumF_lt l b k
       have hwb := winF_lt l k
       have hyb : b.getD (k / 8) 0 < 256 := nth_lt hb2 (k / 8)
       refine wp_skip ?_
       refine then_n (hK6 _ _ ?_); clear hK6 K6
       refine wp_seq_k ?_; intro K7 hK7
       refine wp_block ?_
       refine wp_seq_k ?_; intro K8 hK8
       refine wlit ?_
       refine wl_v (x_move (tmI rfl rfl)) ?_
       refine wl_v (x_assign (tmI rfl rfl)) ?_
       refine wl_nil ?_
       refine then_n (hK8 _ _ ?_); clear hK8 K8
       refine wp_seq_k ?_; intro K9 hK9
       refine wlit ?_
       refine wl_v (x_move (tmS rfl rfl)) ?_
       refine wl_v (x_move (tmI rfl rfl)) ?_
       first
        | refine wl_v (x_quoN (tmI rfl rfl) (ev_cN 8) (by omega) (fit_i64 (by omega))) ?_
        | refine wl_v (x_quo (tmI rfl rfl) (ev_cN 8) (by omega)) ?_
       refine wl_v (x_ixs1 Try.underlying22 ts_5 (tmS rfl rfl) (tmI rfl rfl) (by omega)) ?_
       first
        | refine wl_v (x_load Try.underlying5 rfl (tmP rfl rfl) (cellV hS.ok 0 rfl rfl)) ?_
        | refine wl_v (x_load Try.underlying5 rfl (tmP rfl rfl) (cellV hS.ok 0 rfl (getm (by omega)))) ?_
        | refine wl_v (x_load Try.underlying5 rfl (tmP rfl rfl) (cellVs hS.ok 0 rfl (fun _ => rfl) rfl (by omega) rfl)) ?_
        | refine wl_v (x_load Try.underlying5 rfl (tmP rfl rfl) (cellV hS.ok 1 rfl rfl)) ?_
        | refine wl_v (x_load Try.underlying5 rfl (tmP rfl rfl) (cellV hS.ok 1 rfl (getm (by omega)))) ?_
        | refine wl_v (x_load Try.underlying5 rfl (tmP rfl rfl) (cellVs hS.ok 1 rfl (fun _ => rfl) rfl (by omega) rfl)) ?_
       refine wl_v (x_move (tmI rfl rfl)) ?_
       first
        | refine wl_v (x_remN (tmI rfl rfl) (ev_cN 8) (by omega)) ?_
        | refine wl_v (x_rem (tmI rfl rfl) (ev_cN 8) (by omega)) ?_
       refine wl_v (x_subN (ev_cN 7) (tmI rfl rfl) (fit_i64 (by omega)) (by omega)) ?_
       refine wl_v (x_shrN (tmI rfl rfl) (tmI rfl rfl) (fit_u8 (by omega))) ?_
       refine wl_v (x_andN (tmI rfl rfl) (ev_cN 1) (fit_u8 (Nat.le_trans (Nat.div_le_self _ _) (by omega))) (fit_u8 (by omega))) ?_
       refine wl_v (x_eql (tmI rfl rfl) (ev_cN 1)) ?_
       refine wl_nil ?_
       refine then_n (hK9 _ _ ?_); clear hK9 K9
       refine cnd (tm rfl) (fun hc1 => ?_) (fun hc1 => ?_)
       · try (exfalso; first | with_reducible exact absurd hc1 Bool.false_ne_true | with_reducible exact absurd hc1.symm Bool.false_ne_true | (simp only [nrm] at hc1; omega) | (simp at hc1; done))
         all_goals
          try simp only [nrm] at hc1
          have hx : sumF l b (k + 1) = sumF l b k ^^^ winF l k := by
            refine if_pos ?_
            rw [Nat.and_one_is_mod] at hc1
            exact hc1
          refine wlit ?_
          refine wl_v (x_move (tmI rfl rfl)) ?_
          refine wl_v (x_move (tmS rfl rfl)) ?_
          refine wl_v (x_move (tmI rfl rfl)) ?_
          refine wl_e rfl ?_; intro K hK
          refine ow_call Try.func119 rfl rfl (evs_cons (tmS rfl rfl) <| evs_cons (tmI rfl rfl) <| evs_nil) (window_c n A c l k _ (viewV hS.ok 0 rfl) hl hb hn4 (by omega)) ?_
          rintro e w ⟨rfl, hk2⟩
          refine ⟨_, rfl, ?_⟩
          replace hS := hS.kept hk2
          clear hk2
          refine hK _ _ ?_; clear hK K
          refine wl_v (x_xorN (tmI rfl rfl) (tmI rfl rfl) (fit_u32 (by omega)) (fit_u32 (by omega))) ?_
          refine wl_v (x_assign (tmI rfl rfl)) ?_
          refine wl_nil ?_
          refine inb_n ?_
          refine then_n (hK7 _ _ ?_); clear hK7 K7
          refine wlit ?_
          first
           | refine wl_v (x_addN (tmI rfl rfl) (ev_cN 1) (fit_i64 (by omega))) ?_
           | refine wl_v (x_addI (tmI rfl rfl) (ev_cN 1) (IntWalk.i64_in _ (by omega))) ?_
           | refine wl_v (x_add (tmI rfl rfl) (ev_cN 1)) ?_
          refine wl_v (x_move (tmI rfl rfl)) ?_
          refine wl_nil ?_
          exact then_n ⟨_, _, rfl, (by show _ < _; omega), (by repeat (first | exact agree_self | exact agree_refl | refine agree_upd rfl ?_ | refine agree_mix rfl ?_)), k + 1, rfl, (by first | rfl | go_num | exact congrArg (Value.int _) (by first | omega | (simp; done) | (simp; omega))), (by first | rfl | (exact congrArg (fun q : Nat => Value.int .u32 (q : Int)) hx.symm; done) | (exact congrArg (fun q : Nat => Value.int .u32 (q : Int)) hx.symm; rfl) | (exact congrArg (fun q : Nat => Value.int .u32 (q : Int)) hx.symm; go_num)), hS, (by omega)⟩
       try (exfalso; first | with_reducible exact absurd hc1 Bool.false_ne_true | with_reducible exact absurd hc1.symm Bool.false_ne_true | (simp only [nrm] at hc1; omega) | (simp at hc1; done))
       all_goals
        try simp only [nrm] at hc1
        have hx : sumF l b (k + 1) = sumF l b k := by
          refine if_neg ?_
          rw [Nat.and_one_is_mod] at hc1
          exact hc1
        refine wp_skip ?_
        refine inb_n ?_
        refine then_n (hK7 _ _ ?_); clear hK7 K7
        refine wlit ?_
        first
         | refine wl_v (x_addN (tmI rfl rfl) (ev_cN 1) (fit_i64 (by omega))) ?_
         | refine wl_v (x_addI (tmI rfl rfl) (ev_cN 1) (IntWalk.i64_in _ (by omega))) ?_
         | refine wl_v (x_add (tmI rfl rfl) (ev_cN 1)) ?_
        refine wl_v (x_move (tmI rfl rfl)) ?_
        refine wl_nil ?_
        exact then_n ⟨_, _, rfl, (by show _ < _; omega), (by repeat (first | exact agree_self | exact agree_refl | refine agree_upd rfl ?_ | refine agree_mix rfl ?_)), k + 1, rfl, (by first | rfl | go_num | exact congrArg (Value.int _) (by first | omega | (simp; done) | (simp; omega))), (by first | rfl | (exact congrArg (fun q : Nat => Value.int .u32 (q : Int)) hx.symm; done) | (exact congrArg (fun q : Nat => Value.int .u32 (q : Int)) hx.symm; rfl) | (exact congrArg (fun q : Nat => Value.int .u32 (q : Int)) hx.symm; go_num)), hS, (by omega)⟩
    try (exfalso; first | with_reducible exact absurd hc0 Bool.false_ne_true | with_reducible exact absurd hc0.symm Bool.false_ne_true | (simp only [nrm] at hc0; omega) | (simp at hc0; done))
    all_goals
     try simp only [nrm] at hc0
     refine wp_exit ?_
     refine then_x ?_; clear hK6 K6
     refine then_x ?_
     refine inb_x ?_
     refine then_n (hK3 _ _ ?_); clear hK3 K3
     refine wp_seq_k ?_; intro K10 hK10
     refine wlit ?_
     refine wl_v (x_move (tmI rfl rfl)) ?_
     refine wl_v (x_assign (tmI rfl rfl)) ?_
     refine wl_nil ?_
     refine then_n (hK10 _ _ ?_); clear hK10 K10
     refine wp_ret ?_
     refine ret1 rfl (.tmp rfl (show _ = Value.int _ _ from rfl)) ?_
     obtain rfl : k = 8 * m := by omega
     exact ⟨rfl, hS.kp⟩
set_option maxRecDepth 100000 in
set_option maxHeartbeats 4000000 in
theorem rbit_c (n : Nat) (A : Option Addr) (c : Nat) (l : List Nat) (k : Nat) (w0 : World) (hv : View w0 w0.heap.size A (l.map u8v)) (hl : l.length = n) (hb : Bytes l) (hn4 : n ≤ 1000000) (hk : k ≤ 100000000) :
    Calls Try.prog 120 #[.slice A n c, .int .i64 (k : Int)] w0 fun e w' => e = .returned (.int .u32 (bitF l k : Int)) ∧ Kp [] w0 w' := by
  have hS := (St.sv w0).vcons rfl hv
  have hyb : l.getD (k / 8) 0 < 256 := nth_lt hb (k / 8)
  have hbt : bitF l k = l.getD (k / 8) 0 / 2 ^ (7 - k % 8) % 2 := rfl
  by_cases hin : k / 8 < n
  · obtain ⟨ba, oa, rfl⟩ := view_some hv (by rw [List.length_map]; omega)
    generalize hy : l.getD (k / 8) 0 = y at *
    refine ent (n := 28) Try.func120 rfl rfl ?_
    refine wp_seq_k ?_; intro K1 hK1
    refine wlit ?_
    refine wl_v (x_assign (ev_cN 0)) ?_
    refine wl_nil ?_
    refine then_n (hK1 _ _ ?_); clear hK1 K1
    refine wp_seq_k ?_; intro K2 hK2
    refine wp_seq_k ?_; intro K3 hK3
    refine wlit ?_
    refine wl_v (x_move (tmI rfl rfl)) ?_
    first
     | refine wl_v (x_quoN (tmI rfl rfl) (ev_cN 8) (by omega) (fit_i64 (by omega))) ?_
     | refine wl_v (x_quo (tmI rfl rfl) (ev_cN 8) (by omega)) ?_
    refine wl_v (x_move (tmS rfl rfl)) ?_
    refine wl_v (x_len Try.underlying22 (tmS rfl rfl)) ?_
    refine wl_v (x_geq (tmI rfl rfl) (tmI rfl rfl)) ?_
    refine wl_nil ?_
    refine then_n (hK3 _ _ ?_); clear hK3 K3
    refine cnd (tm rfl) (fun hc0 => ?_) (fun hc0 => ?_)
    · exfalso
      simp only [nrm] at hc0
      omega
    try (exfalso; first | with_reducible exact absurd hc0 Bool.false_ne_true | with_reducible exact absurd hc0.symm Bool.false_ne_true | (simp only [nrm] at hc0; omega) | (simp at hc0; done))
    all_goals
     try simp only [nrm] at hc0
     refine wp_skip ?_
     refine then_n (hK2 _ _ ?_); clear hK2 K2
     refine wp_seq_k ?_; intro K4 hK4
     refine wlit ?_
     refine wl_v (x_move (tmS rfl rfl)) ?_
     refine wl_v (x_move (tmI rfl rfl)) ?_
     first
      | refine wl_v (x_quoN (tmI rfl rfl) (ev_cN 8) (by omega) (fit_i64 (by omega))) ?_
      | refine wl_v (x_quo (tmI rfl rfl) (ev_cN 8) (by omega)) ?_
     refine wl_v (x_ixs1 Try.underlying22 ts_5 (tmS rfl rfl) (tmI rfl rfl) (by omega)) ?_
     refine wl_v (x_load Try.underlying5 rfl (tmP rfl rfl) (cellV hS.ok 0 rfl (show (l.map u8v)[k / 8]? = some (u8v y) by rw [← hy]; exact getB (by omega)))) ?_
     first
      | refine wl_v (x_convN Try.underlying5 Try.underlying49 (tmI rfl rfl) (fit_u32 (by omega))) ?_
      | refine wl_v (x_convU Try.underlying5 Try.underlying49 (tmI rfl rfl) rfl) ?_
      | refine wl_v (x_conv Try.underlying5 Try.underlying49 (tmI rfl rfl)) ?_
     refine wl_v (x_assign (tmI rfl rfl)) ?_
     refine wl_nil ?_
     refine then_n (hK4 _ _ ?_); clear hK4 K4
     refine wp_seq_k ?_; intro K5 hK5
     refine wp_seq_k ?_; intro K6 hK6
     refine wlit ?_
     refine wl_v (x_assign (ev_cN 7)) ?_
     refine wl_nil ?_
     refine then_n (hK6 _ _ ?_); clear hK6 K6
     refine wp_block ?_
     refine lp [5, 6, 18, 19, 20, 21, 22, 23, 24, 25] (fun mz g w => ∃ (j : Nat), mz = 7 - j ∧ g 6 = .int .i64 ((7 : Int) - (j : Int)) ∧ g 5 = .int .u32 ((y / 2 ^ j : Nat) : Int) ∧ St [] w0 [.vw (some ⟨ba, oa, none⟩) (l.map u8v)] w ∧ (j ≤ 7 - k % 8)) ?_ ?_
     · exact ⟨_, 0, rfl, (by first | rfl | go_num | exact congrArg (Value.int _) (by first | omega | (simp; done) | (simp; omega))), (by first | rfl | go_num | exact congrArg (Value.int _) (by first | omega | (simp; done) | (simp; omega))), hS, (by omega)⟩
     · clear hS; intro mz g w hI
       obtain ⟨j, rfl, hs6, hs5, hS, hj⟩ := hI
       refine fr_know (d := 6) hs6 ?_; clear hs6
       refine fr_know (d := 5) hs5 ?_; clear hs5
       refine wp_seq_k ?_; intro K7 hK7
       refine wp_seq_k ?_; intro K8 hK8
       refine wlit ?_
       refine wl_v (x_move (tmI rfl rfl)) ?_
       refine wl_v (x_move (tmI rfl rfl)) ?_
       first
        | refine wl_v (x_remN (tmI rfl rfl) (ev_cN 8) (by omega)) ?_
        | refine wl_v (x_rem (tmI rfl rfl) (ev_cN 8) (by omega)) ?_
       refine wl_v (x_gtr (tmI rfl rfl) (tmI rfl rfl)) ?_
       refine wl_nil ?_
       refine then_n (hK8 _ _ ?_); clear hK8 K8
       refine cnd (tm rfl) (fun hc1 => ?_) (fun hc1 => ?_)
       · try (exfalso; first | with_reducible exact absurd hc1 Bool.false_ne_true | with_reducible exact absurd hc1.symm Bool.false_ne_true | (simp only [nrm] at hc1; omega) | (simp at hc1; done))
         all_goals
          try simp only [nrm] at hc1
          have hx : y / 2 ^ (j + 1) = y / 2 ^ j / 2 := by rw [Nat.pow_succ, Nat.div_div_eq_div_mul]
          have hyj : y / 2 ^ j ≤ y := Nat.div_le_self _ _
          refine wp_skip ?_
          refine then_n (hK7 _ _ ?_); clear hK7 K7
          refine wp_seq_k ?_; intro K9 hK9
          refine wp_block ?_
          refine wlit ?_
          refine wl_v (x_move (tmI rfl rfl)) ?_
          first
           | refine wl_v (x_quoN (tmI rfl rfl) (ev_cN 2) (by omega) (fit_u32 (by omega))) ?_
           | refine wl_v (x_quo (tmI rfl rfl) (ev_cN 2) (by omega)) ?_
          refine wl_v (x_assign (tmI rfl rfl)) ?_
          refine wl_nil ?_
          refine inb_n ?_
          refine then_n (hK9 _ _ ?_); clear hK9 K9
          refine wlit ?_
          refine wl_v (x_move (tmI rfl rfl)) ?_
          first
           | refine wl_v (x_subN (tmI rfl rfl) (ev_cN 1) (fit_i64 (by omega)) (by omega)) ?_
           | refine wl_v (x_subI (tmI rfl rfl) (ev_cN 1) (IntWalk.i64_in _ (by omega))) ?_
           | refine wl_v (x_sub (tmI rfl rfl) (ev_cN 1)) ?_
          refine wl_v (x_assign (tmI rfl rfl)) ?_
          refine wl_nil ?_
          exact then_n ⟨_, _, rfl, (by show _ < _; omega), (by repeat (first | exact agree_self | exact agree_refl | refine agree_upd rfl ?_ | refine agree_mix rfl ?_)), j + 1, rfl, (by first | rfl | go_num | exact congrArg (Value.int _) (by first | omega | (simp; done) | (simp; omega))), (by first | rfl | (exact congrArg (fun q : Nat => Value.int .u32 (q : Int)) hx.symm; done) | (exact congrArg (fun q : Nat => Value.int .u32 (q : Int)) hx.symm; rfl) | (exact congrArg (fun q : Nat => Value.int .u32 (q : Int)) hx.symm; go_num)), hS, (by omega)⟩
       try (exfalso; first | with_reducible exact absurd hc1 Bool.false_ne_true | with_reducible exact absurd hc1.symm Bool.false_ne_true | (simp only [nrm] at hc1; omega) | (simp at hc1; done))
       all_goals
        try simp only [nrm] at hc1
        refine wp_exit ?_
        refine then_x ?_; clear hK7 K7
        refine then_x ?_
        refine inb_x ?_
        refine then_n (hK5 _ _ ?_); clear hK5 K5
        refine wp_seq_k ?_; intro K10 hK10
        refine wlit ?_
        refine wl_v (x_move (tmI rfl rfl)) ?_
        first
         | refine wl_v (x_remN (tmI rfl rfl) (ev_cN 2) (by omega)) ?_
         | refine wl_v (x_rem (tmI rfl rfl) (ev_cN 2) (by omega)) ?_
        refine wl_v (x_assign (tmI rfl rfl)) ?_
        refine wl_nil ?_
        refine then_n (hK10 _ _ ?_); clear hK10 K10
        refine wp_ret ?_
        refine ret1 rfl (.tmp rfl (show _ = Value.int _ _ from rfl)) ?_
        obtain rfl : j = 7 - k % 8 := by omega
        rw [hbt]
        exact ⟨rfl, hS.kp⟩
  · have h0 : l.getD (k / 8) 0 = 0 := by rw [List.getD_eq_getElem?_getD, List.getElem?_eq_none (by omega)]; rfl
    rw [h0, Nat.zero_div] at hbt
    refine ent (n := 28) Try.func120 rfl rfl ?_
    refine wp_seq_k ?_; intro K1 hK1
    refine wlit ?_
    refine wl_v (x_assign (ev_cN 0)) ?_
    refine wl_nil ?_
    refine then_n (hK1 _ _ ?_); clear hK1 K1
    refine wp_seq_k ?_; intro K2 hK2
    refine wp_seq_k ?_; intro K3 hK3
    refine wlit ?_
    refine wl_v (x_move (tmI rfl rfl)) ?_
    first
     | refine wl_v (x_quoN (tmI rfl rfl) (ev_cN 8) (by omega) (fit_i64 (by omega))) ?_
     | refine wl_v (x_quo (tmI rfl rfl) (ev_cN 8) (by omega)) ?_
    refine wl_v (x_move (tmS rfl rfl)) ?_
    refine wl_v (x_len Try.underlying22 (tmS rfl rfl)) ?_
    refine wl_v (x_geq (tmI rfl rfl) (tmI rfl rfl)) ?_
    refine wl_nil ?_
    refine then_n (hK3 _ _ ?_); clear hK3 K3
    refine cnds (tm rfl) (fun hc0 => ?_) (fun hc0 => ?_)
    · exfalso
      simp only [nrm] at hc0
      omega
    try (exfalso; first | with_reducible exact absurd hc0 Bool.false_ne_true | with_reducible exact absurd hc0.symm Bool.false_ne_true | (simp only [nrm] at hc0; omega) | (simp at hc0; done))
    all_goals
     try simp only [nrm] at hc0
     refine wp_seq_k ?_; intro K4 hK4
     refine wlit ?_
     refine wl_v (x_assign (ev_cN 0)) ?_
     refine wl_nil ?_
     refine then_n (hK4 _ _ ?_); clear hK4 K4
     refine wp_ret ?_
     refine then_r ?_
     refine ret1 rfl (.tmp rfl (show _ = Value.int _ _ from rfl)) ?_
     rw [hbt]
     exact ⟨rfl, hS.kp⟩
set_option maxRecDepth 100000 in
set_option maxHeartbeats 4000000 in
theorem rspread_sum_c (n : Nat) (A : Option Addr) (c : Nat) (l : List Nat) (m : Nat) (A2 : Option Addr) (c2 : Nat) (b : List Nat) (w0 : World) (hv : View w0 w0.heap.size A (l.map u8v)) (hl : l.length = n) (hb : Bytes l) (hn4 : n ≤ 1000000) (hv2 : View w0 w0.heap.size A2 (b.map u8v)) (hl2 : b.length = m) (hb2 : Bytes b) (hn2 : m ≤ 1000000) :
    Calls Try.prog 67 #[.slice A n c, .slice A2 m c2] w0 fun e w' => e = .returned (.int .u32 (sumF l b (8 * m) : Int)) ∧ Kp [] w0 w' := by
  have hS := ((St.sv w0).vcons rfl hv2).vcons rfl hv
  refine ent (n := 36) Try.func67 rfl rfl ?_
  refine wp_seq_k ?_; intro K1 hK1
  refine wlit ?_
  refine wl_v (x_assign (ev_cN 0)) ?_
  refine wl_nil ?_
  refine then_n (hK1 _ _ ?_); clear hK1 K1
  refine wp_seq_k ?_; intro K2 hK2
  refine wlit ?_
  refine wl_v (x_assign (ev_cN 0)) ?_
  refine wl_nil ?_
  refine then_n (hK2 _ _ ?_); clear hK2 K2
  refine wp_seq_k ?_; intro K3 hK3
  refine wp_seq_k ?_; intro K4 hK4
  refine wlit ?_
  refine wl_v (x_assign (ev_cN 0)) ?_
  refine wl_nil ?_
  refine then_n (hK4 _ _ ?_); clear hK4 K4
  refine wp_block ?_
  refine lp [5, 6, 7, 8, 9, 10, 11, 12, 13, 14, 15, 16, 17, 18, 19, 20, 21, 22, 23, 24, 25, 26, 27, 28, 29, 30, 31, 32, 33, 34] (fun mz g w => ∃ (k : Nat), mz = 8 * m - k ∧ g 6 = .int .i64 (k : Int) ∧ g 5 = .int .u32 (sumF l b k : Int) ∧ St [] w0 [.vw A (l.map u8v), .vw A2 (b.map u8v)] w ∧ (k ≤ 8 * m)) ?_ ?_
  · exact ⟨_, 0, rfl, (by first | rfl | go_num | exact congrArg (Value.int _) (by first | omega | (simp; done) | (simp; omega))), (by first | rfl | go_num | exact congrArg (Value.int _) (by first | omega | (simp; done) | (simp; omega))), hS, (by omega)⟩
  · clear hS; intro mz g w hI
    obtain ⟨k, rfl, hs6, hs5, hS, hk⟩ := hI
    refine fr_know (d := 6) hs6 ?_; clear hs6
    refine fr_know (d := 5) hs5 ?_; clear hs5
    refine wp_seq_k ?_; intro K5 hK5
    refine wp_seq_k ?_; intro K6 hK6
    refine wlit ?_
    refine wl_v (x_move (tmI rfl rfl)) ?_
    refine wl_v (x_move (tmS rfl rfl)) ?_
    refine wl_v (x_len Try.underlying22 (tmS rfl rfl)) ?_
    first
     | refine wl_v (x_mulN (ev_cN 8) (tmI rfl rfl) (fit_i64 (by omega))) ?_
     | refine wl_v (x_mulI (ev_cN 8) (tmI rfl rfl) (IntWalk.i64_in _ (by omega))) ?_
     | refine wl_v (x_mul (ev_cN 8) (tmI rfl rfl)) ?_
    refine wl_v (x_lss (tmI rfl rfl) (tmI rfl rfl)) ?_
    refine wl_nil ?_
    refine then_n (hK6 _ _ ?_); clear hK6 K6
    refine cnd (tm rfl) (fun hc0 => ?_) (fun hc0 => ?_)
    · try (exfalso; first | with_reducible exact absurd hc0 Bool.false_ne_true | with_reducible exact absurd hc0.symm Bool.false_ne_true | (simp only [nrm] at hc0; omega) | (simp at hc0; done))
      all_goals
       try simp only [nrm] at hc0
       have hsb := sumF_lt l b k
       have hwb := winF_lt l k
       have hbb : bitF b k < 2 := Nat.mod_lt _ (by omega)
       refine wp_skip ?_
       refine then_n (hK5 _ _ ?_); clear hK5 K5
       refine wp_seq_k ?_; intro K7 hK7
       refine wp_block ?_
       refine wp_seq_k ?_; intro K8 hK8
       refine wp_seq_k ?_; intro K9 hK9
       refine wlit ?_
       refine wl_v (x_move (tmS rfl rfl)) ?_
       refine wl_v (x_move (tmI rfl rfl)) ?_
       refine wl_e rfl ?_; intro K hK
       refine ow_call Try.func120 rfl rfl (evs_cons (tmS rfl rfl) <| evs_cons (tmI rfl rfl) <| evs_nil) (rbit_c m A2 c2 b k _ (viewV hS.ok 1 rfl) hl2 hb2 hn2 (by omega)) ?_
       rintro e w ⟨rfl, hk2⟩
       refine ⟨_, rfl, ?_⟩
       replace hS := hS.kept hk2
       clear hk2
       refine hK _ _ ?_; clear hK K
       refine wl_v (x_eql (tmI rfl rfl) (ev_cN 0)) ?_
       refine wl_nil ?_
       refine then_n (hK9 _ _ ?_); clear hK9 K9
       refine cnd (tm rfl) (fun hc1 => ?_) (fun hc1 => ?_)
       · try (exfalso; first | with_reducible exact absurd hc1 Bool.false_ne_true | with_reducible exact absurd hc1.symm Bool.false_ne_true | (simp only [nrm] at hc1; omega) | (simp at hc1; done))
         all_goals
          try simp only [nrm] at hc1
          have hx : sumF l b (k + 1) = sumF l b k := if_neg (by omega)
          refine wp_exit ?_
          refine then_x ?_; clear hK8 K8
          refine inb_x ?_
          refine then_n (hK7 _ _ ?_); clear hK7 K7
          refine wlit ?_
          refine wl_v (x_move (tmI rfl rfl)) ?_
          first
           | refine wl_v (x_addN (tmI rfl rfl) (ev_cN 1) (fit_i64 (by omega))) ?_
           | refine wl_v (x_addI (tmI rfl rfl) (ev_cN 1) (IntWalk.i64_in _ (by omega))) ?_
           | refine wl_v (x_add (tmI rfl rfl) (ev_cN 1)) ?_
          refine wl_v (x_assign (tmI rfl rfl)) ?_
          refine wl_nil ?_
          first
           | exact then_n ⟨_, _, rfl, (by show _ < _; omega), (by repeat (first | exact agree_self | exact agree_refl | refine agree_upd rfl ?_ | refine agree_mix rfl ?_)), k + 1, rfl, (by first | rfl | go_num | exact congrArg (Value.int _) (by first | omega | (simp; done) | (simp; omega))), (by first | rfl | (exact congrArg (fun q : Nat => Value.int .u32 (q : Int)) hx.symm; done) | (exact congrArg (fun q : Nat => Value.int .u32 (q : Int)) hx.symm; rfl) | (exact congrArg (fun q : Nat => Value.int .u32 (q : Int)) hx.symm; go_num)), hS, (by omega)⟩
           | exact then_n ⟨_, _, rfl, (by show _ < _; omega), (by repeat (first | exact agree_self | exact agree_refl | refine agree_upd rfl ?_ | refine agree_mix rfl ?_)), k + 1, rfl, (by first | rfl | go_num | exact congrArg (Value.int _) (by first | omega | (simp; done) | (simp; omega))), (by first | rfl | (exact congrArg (fun q : Nat => Value.int .u32 (q : Int)) hx.symm; done) | (exact congrArg (fun q : Nat => Value.int .u32 (q : Int)) hx.symm; rfl) | (exact congrArg (fun q : Nat => Value.int .u32 (q : Int)) hx.symm; go_num)), hS, (by omega)⟩
       try (exfalso; first | with_reducible exact absurd hc1 Bool.false_ne_true | with_reducible exact absurd hc1.symm Bool.false_ne_true | (simp only [nrm] at hc1; omega) | (simp at hc1; done))
       all_goals
        try simp only [nrm] at hc1
        have hx0 : sumF l b (k + 1) = sumF l b k ^^^ winF l k := if_pos (by omega)
        refine wp_skip ?_
        refine then_n (hK8 _ _ ?_); clear hK8 K8
        refine wp_seq_k ?_; intro K10 hK10
        refine wlit ?_
        refine wl_v (x_assign (ev_cN 0)) ?_
        refine wl_nil ?_
        refine then_n (hK10 _ _ ?_); clear hK10 K10
        refine wp_seq_k ?_; intro K11 hK11
        refine wp_seq_k ?_; intro K12 hK12
        refine wlit ?_
        refine wl_v (x_assign (ev_cN 0)) ?_
        refine wl_nil ?_
        refine then_n (hK12 _ _ ?_); clear hK12 K12
        refine wp_block ?_
        refine lp [7, 8, 20, 21, 22, 23, 24, 25, 26, 27, 28, 29, 30, 31] (fun mz g w => ∃ (i : Nat), mz = 32 - i ∧ g 8 = .int .i64 (i : Int) ∧ g 7 = .int .u32 (wF l k i : Int) ∧ St [] w0 [.vw A (l.map u8v), .vw A2 (b.map u8v)] w ∧ (i ≤ 32)) ?_ ?_
        · exact ⟨_, 0, rfl, (by first | rfl | go_num | exact congrArg (Value.int _) (by first | omega | (simp; done) | (simp; omega))), (by first | rfl | go_num | exact congrArg (Value.int _) (by first | omega | (simp; done) | (simp; omega))), hS, (by omega)⟩
        · clear hS; intro mz g w hI
          obtain ⟨i, rfl, hs8, hs7, hS, hi⟩ := hI
          refine fr_know (d := 8) hs8 ?_; clear hs8
          refine fr_know (d := 7) hs7 ?_; clear hs7
          refine wp_seq_k ?_; intro K13 hK13
          refine wp_seq_k ?_; intro K14 hK14
          refine wlit ?_
          refine wl_v (x_move (tmI rfl rfl)) ?_
          refine wl_v (x_lss (tmI rfl rfl) (ev_cN 32)) ?_
          refine wl_nil ?_
          refine then_n (hK14 _ _ ?_); clear hK14 K14
          refine cnd (tm rfl) (fun hc2 => ?_) (fun hc2 => ?_)
          · try (exfalso; first | with_reducible exact absurd hc2 Bool.false_ne_true | with_reducible exact absurd hc2.symm Bool.false_ne_true | (simp only [nrm] at hc2; omega) | (simp at hc2; done))
            all_goals
             try simp only [nrm] at hc2
             have hw1 := wF_lt (l := l) k i
             have hp4 : 2 ^ i ≤ 2 ^ 31 := Nat.pow_le_pow_right (by omega) (by omega)
             have hw2 : wF l k i < 2147483648 := by omega
             have hbi : bitF l (k + i) < 2 := Nat.mod_lt _ (by omega)
             have hy : wF l k (i + 1) = wF l k i * 2 + bitF l (k + i) := rfl
             clear hw1 hp4
             refine wp_skip ?_
             refine then_n (hK13 _ _ ?_); clear hK13 K13
             refine wp_seq_k ?_; intro K15 hK15
             refine wp_block ?_
             refine wlit ?_
             refine wl_v (x_move (tmI rfl rfl)) ?_
             first
              | refine wl_v (x_mulN (tmI rfl rfl) (ev_cN 2) (fit_u32 (by omega))) ?_
              | refine wl_v (x_mulI (tmI rfl rfl) (ev_cN 2) (IntWalk.u32_in _ (by omega))) ?_
              | refine wl_v (x_mulU (tmI rfl rfl) (ev_cN 2) rfl) ?_
              | refine wl_v (x_mul (tmI rfl rfl) (ev_cN 2)) ?_
             refine wl_v (x_move (tmS rfl rfl)) ?_
             refine wl_v (x_move (tmI rfl rfl)) ?_
             refine wl_v (x_move (tmI rfl rfl)) ?_
             first
              | refine wl_v (x_addN (tmI rfl rfl) (tmI rfl rfl) (fit_i64 (by omega))) ?_
              | refine wl_v (x_addI (tmI rfl rfl) (tmI rfl rfl) (IntWalk.i64_in _ (by omega))) ?_
              | refine wl_v (x_add (tmI rfl rfl) (tmI rfl rfl)) ?_
             refine wl_e rfl ?_; intro K hK
             refine ow_call Try.func120 rfl rfl (evs_cons (tmS rfl rfl) <| evs_cons (tmI rfl rfl) <| evs_nil) (rbit_c n A c l (k + i) _ (viewV hS.ok 0 rfl) hl hb hn4 (by omega)) ?_
             rintro e w ⟨rfl, hk2⟩
             refine ⟨_, rfl, ?_⟩
             replace hS := hS.kept hk2
             clear hk2
             refine hK _ _ ?_; clear hK K
             first
              | refine wl_v (x_addN (tmI rfl rfl) (tmI rfl rfl) (fit_u32 (by omega))) ?_
              | refine wl_v (x_addI (tmI rfl rfl) (tmI rfl rfl) (IntWalk.u32_in _ (by omega))) ?_
              | refine wl_v (x_addU (tmI rfl rfl) (tmI rfl rfl) rfl) ?_
              | refine wl_v (x_add (tmI rfl rfl) (tmI rfl rfl)) ?_
             refine wl_v (x_assign (tmI rfl rfl)) ?_
             refine wl_nil ?_
             refine inb_n ?_
             refine then_n (hK15 _ _ ?_); clear hK15 K15
             refine wlit ?_
             refine wl_v (x_move (tmI rfl rfl)) ?_
             first
              | refine wl_v (x_addN (tmI rfl rfl) (ev_cN 1) (fit_i64 (by omega))) ?_
              | refine wl_v (x_addI (tmI rfl rfl) (ev_cN 1) (IntWalk.i64_in _ (by omega))) ?_
              | refine wl_v (x_add (tmI rfl rfl) (ev_cN 1)) ?_
             refine wl_v (x_assign (tmI rfl rfl)) ?_
             refine wl_nil ?_
             exact then_n ⟨_, _, rfl, (by show _ < _; omega), (by repeat (first | exact agree_self | exact agree_refl | refine agree_upd rfl ?_ | refine agree_mix rfl ?_)), i + 1, rfl, (by first | rfl | go_num | exact congrArg (Value.int _) (by first | omega | (simp; done) | (simp; omega))), (by first | rfl | (exact congrArg (fun q : Nat => Value.int .u32 (q : Int)) hy.symm; done) | (exact congrArg (fun q : Nat => Value.int .u32 (q : Int)) hy.symm; rfl) | (exact congrArg (fun q : Nat => Value.int .u32 (q : Int)) hy.symm; go_num)), hS, (by omega)⟩
          try (exfalso; first | with_reducible exact absurd hc2 Bool.false_ne_true | with_reducible exact absurd hc2.symm Bool.false_ne_true | (simp only [nrm] at hc2; omega) | (simp at hc2; done))
          all_goals
           try simp only [nrm] at hc2
           refine wp_exit ?_
           refine then_x ?_; clear hK13 K13
           refine then_x ?_
           refine inb_x ?_
           refine then_n (hK11 _ _ ?_); clear hK11 K11
           obtain rfl : i = 32 := by omega
           have hww := wF_win hb k
           have hwb2 : wF l k 32 < 4294967296 := by rw [hww]; exact hwb
           have hx : sumF l b (k + 1) = sumF l b k ^^^ wF l k 32 := by rw [hx0, hww]
           refine wlit ?_
           refine wl_v (x_move (tmI rfl rfl)) ?_
           refine wl_v (x_move (tmI rfl rfl)) ?_
           refine wl_v (x_xorN (tmI rfl rfl) (tmI rfl rfl) (fit_u32 (by omega)) (fit_u32 (by omega))) ?_
           refine wl_v (x_assign (tmI rfl rfl)) ?_
           refine wl_nil ?_
           refine inb_n ?_
           refine then_n (hK7 _ _ ?_); clear hK7 K7
           refine wlit ?_
           refine wl_v (x_move (tmI rfl rfl)) ?_
           first
            | refine wl_v (x_addN (tmI rfl rfl) (ev_cN 1) (fit_i64 (by omega))) ?_
            | refine wl_v (x_addI (tmI rfl rfl) (ev_cN 1) (IntWalk.i64_in _ (by omega))) ?_
            | refine wl_v (x_add (tmI rfl rfl) (ev_cN 1)) ?_
           refine wl_v (x_assign (tmI rfl rfl)) ?_
           refine wl_nil ?_
           first
            | exact then_n ⟨_, _, rfl, (by show _ < _; omega), (by repeat (first | exact agree_self | exact agree_refl | refine agree_upd rfl ?_ | refine agree_mix rfl ?_)), k + 1, rfl, (by first | rfl | go_num | exact congrArg (Value.int _) (by first | omega | (simp; done) | (simp; omega))), (by first | rfl | (exact congrArg (fun q : Nat => Value.int .u32 (q : Int)) hx.symm; done) | (exact congrArg (fun q : Nat => Value.int .u32 (q : Int)) hx.symm; rfl) | (exact congrArg (fun q : Nat => Value.int .u32 (q : Int)) hx.symm; go_num)), hS, (by omega)⟩
            | exact then_n ⟨_, _, rfl, (by show _ < _; omega), (by repeat (first | exact agree_self | exact agree_refl | refine agree_upd rfl ?_ | refine agree_mix rfl ?_)), k + 1, rfl, (by first | rfl | go_num | exact congrArg (Value.int _) (by first | omega | (simp; done) | (simp; omega))), (by first | rfl | (exact congrArg (fun q : Nat => Value.int .u32 (q : Int)) hx.symm; done) | (exact congrArg (fun q : Nat => Value.int .u32 (q : Int)) hx.symm; rfl) | (exact congrArg (fun q : Nat => Value.int .u32 (q : Int)) hx.symm; go_num)), hS, (by omega)⟩
    try (exfalso; first | with_reducible exact absurd hc0 Bool.false_ne_true | with_reducible exact absurd hc0.symm Bool.false_ne_true | (simp only [nrm] at hc0; omega) | (simp at hc0; done))
    all_goals
     try simp only [nrm] at hc0
     refine wp_exit ?_
     refine then_x ?_; clear hK5 K5
     refine then_x ?_
     refine inb_x ?_
     refine then_n (hK3 _ _ ?_); clear hK3 K3
     refine wp_seq_k ?_; intro K16 hK16
     refine wlit ?_
     refine wl_v (x_move (tmI rfl rfl)) ?_
     refine wl_v (x_assign (tmI rfl rfl)) ?_
     refine wl_nil ?_
     refine then_n (hK16 _ _ ?_); clear hK16 K16
     refine wp_ret ?_
     refine ret1 rfl (.tmp rfl (show _ = Value.int _ _ from rfl)) ?_
     obtain rfl : k = 8 * m := by omega
     exact ⟨rfl, hS.kp⟩
end Go.Proofs.Ytilgolflpdpfnaa
