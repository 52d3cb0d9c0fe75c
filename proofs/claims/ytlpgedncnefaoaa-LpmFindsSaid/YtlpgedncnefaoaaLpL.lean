
/- lpm: the example answers true. Conditions: none. -/
import Derived.Test.YtlpgedncnefaoaaLpK
namespace Go.Proofs.Ytlpgedncnefaoaa
open Go.RowKit
def aw1 : Ad := ⟨false, 0, 167772160⟩
def aw2 : Ad := ⟨false, 0, 167837696⟩
def aw3 : Ad := ⟨false, 0, 167838211⟩
theorem lfind_some_c (tb : Nat) (x o : TT) (c : Int) (a : Ad) (Z : List Ent) (F : List Nat) (w1 w0 : World) (hS : St F w1 (ftab tb a.six x o c Z) w0) (hl : adLim a) (hr : adRight a) (k : Nat) (v : Int) (hf : findS (pbit a) (adBits a) 0 x.sh none = some (k, v)) :
    Calls Try.prog 7 #[.pointer (some ⟨tb, 0, none⟩), .agg a.V.toArray] w0 fun e w' => e = .returned (.tuple #[.agg #[.bool (cutM a k).six, .int .u64 ((cutM a k).high : Int), .int .u64 ((cutM a k).low : Int), .int .i64 (k : Int)], .int .i64 v, .bool true]) ∧ St F w1 (ftab tb a.six x o c Z) w' := by
  refine Calls.mono (lfind_c tb x o c a Z F w1 w0 hS hl hr) ?_
  rintro e w' ⟨h, ⟨h0, _⟩ | ⟨k', v', h0, _, rfl⟩⟩
  · rw [hf] at h0; cases h0
  · rw [hf] at h0
    injection h0 with h0
    injection h0 with h1 h2
    subst h1 h2
    exact ⟨rfl, h⟩
theorem lawake_c (w0 : World) : Calls Try.prog 5 #[] w0 fun e w' => e = .returned (.bool true) ∧ Kp [] w0 w' := by
  have hS := St.sv w0
  refine ent (n := 42) Try.func5 rfl rfl ?_
  refine wp_seq_k ?_; intro K1 hK1
  refine wlit ?_
  refine wl_v (x_assign ev_c) ?_
  refine wl_nil ?_
  refine then_n (hK1 _ _ ?_); clear hK1 K1
  refine wp_seq_k ?_; intro K2 hK2
  refine wlit ?_
  refine wl_v (x_build (bc_skip (.pointer none) <| bc_skip (.pointer none) <| bc_skip (.int .i64 0) <| bc_nil) (by kernel_rfl)) ?_
  refine wl_e rfl ?_; intro K hK
  refine ow_box hS (tmA rfl rfl) rfl ?_
  clear hS; intro g1_1 w hg1_1 hS
  refine hK _ _ ?_; clear hK K
  refine wl_v (x_assign (tmP rfl rfl)) ?_
  refine wl_nil ?_
  refine then_n (hK2 _ _ ?_); clear hK2 K2
  refine wp_seq_k ?_; intro K3 hK3
  refine wlit ?_
  refine wl_v (x_move (tmP rfl rfl)) ?_
  refine wl_e rfl ?_; intro K hK
  refine ow_call Try.func14 rfl rfl (evs_cons (ev_cN 10) <| evs_cons (ev_cN 0) <| evs_cons (ev_cN 0) <| evs_cons (ev_cN 0) <| evs_nil) (lv4_c 10 0 0 0 _ (by omega) (by omega) (by omega) (by omega)) ?_
  rintro e w ⟨rfl, hk⟩
  refine ⟨_, rfl, ?_⟩
  replace hS := hS.kept hk
  clear hk
  refine hK _ _ ?_; clear hK K
  refine wl_v (x_build (bc_takeL (tmA rfl rfl) <| bc_take (ev_cN 8) <| bc_nil) (by kernel_rfl)) ?_
  refine wl_e rfl ?_; intro K hK
  refine ow_call Try.func13 rfl rfl (evs_cons (tmP rfl rfl) <| evs_cons (tmA rfl rfl) <| evs_cons (ev_cN 1) <| evs_nil) (lset_c g1_1 .nil .nil 0 aw1 8 1 [] [] w0 _ (hS.nm rfl) ⟨by decide, by decide⟩ (by decide +kernel) (by decide) (by decide)) ?_
  rintro e w ⟨rfl, x1, hS, hx1⟩
  refine ⟨_, rfl, ?_⟩
  skip
  refine hK _ _ ?_; clear hK K
  refine wl_v (x_assign (tmI rfl rfl)) ?_
  refine wl_nil ?_
  refine then_n (hK3 _ _ ?_); clear hK3 K3
  refine wp_seq_k ?_; intro K4 hK4
  refine wlit ?_
  refine wl_v (x_move (tmP rfl rfl)) ?_
  refine wl_e rfl ?_; intro K hK
  refine ow_call Try.func14 rfl rfl (evs_cons (ev_cN 10) <| evs_cons (ev_cN 1) <| evs_cons (ev_cN 0) <| evs_cons (ev_cN 0) <| evs_nil) (lv4_c 10 1 0 0 _ (by omega) (by omega) (by omega) (by omega)) ?_
  rintro e w ⟨rfl, hk⟩
  refine ⟨_, rfl, ?_⟩
  replace hS := hS.kept hk
  clear hk
  refine hK _ _ ?_; clear hK K
  refine wl_v (x_build (bc_takeL (tmA rfl rfl) <| bc_take (ev_cN 16) <| bc_nil) (by kernel_rfl)) ?_
  refine wl_e rfl ?_; intro K hK
  refine ow_call Try.func13 rfl rfl (evs_cons (tmP rfl rfl) <| evs_cons (tmA rfl rfl) <| evs_cons (ev_cN 2) <| evs_nil) (lset_c g1_1 x1 .nil 1 aw2 16 2 [] [] w0 _ (hS.nm rfl) ⟨by decide, by decide⟩ (by decide +kernel) (by decide) (by decide)) ?_
  rintro e w ⟨rfl, x2, hS, hx2⟩
  refine ⟨_, rfl, ?_⟩
  skip
  refine hK _ _ ?_; clear hK K
  refine wl_v (x_assign (tmI rfl rfl)) ?_
  refine wl_nil ?_
  refine then_n (hK4 _ _ ?_); clear hK4 K4
  refine wp_seq_k ?_; intro K5 hK5
  have hfd : findS (pbit aw3) (adBits aw3) 0 x2.sh none = some (16, 2) := by
    rw [hx2, hx1]
    decide +kernel
  refine wlit ?_
  refine wl_v (x_move (tmP rfl rfl)) ?_
  refine wl_e rfl ?_; intro K hK
  refine ow_call Try.func14 rfl rfl (evs_cons (ev_cN 10) <| evs_cons (ev_cN 1) <| evs_cons (ev_cN 2) <| evs_cons (ev_cN 3) <| evs_nil) (lv4_c 10 1 2 3 _ (by omega) (by omega) (by omega) (by omega)) ?_
  rintro e w ⟨rfl, hk⟩
  refine ⟨_, rfl, ?_⟩
  replace hS := hS.kept hk
  clear hk
  refine hK _ _ ?_; clear hK K
  refine wl_e rfl ?_; intro K hK
  refine ow_call Try.func7 rfl rfl (evs_cons (tmP rfl rfl) <| evs_cons (tmA rfl rfl) <| evs_nil) (lfind_some_c g1_1 x2 .nil _ aw3 [] [] w0 _ hS ⟨by decide, by decide⟩ (by decide) 16 2 hfd) ?_
  rintro e w ⟨rfl, hS⟩
  refine ⟨_, rfl, ?_⟩
  skip
  refine hK _ _ ?_; clear hK K
  refine wl_v (x_move (tmT rfl rfl)) ?_
  refine wl_v (x_ext (tmT rfl rfl) rfl) ?_
  refine wl_v (x_ext (tmT rfl rfl) rfl) ?_
  refine wl_v (x_ext (tmT rfl rfl) rfl) ?_
  refine wl_e rfl ?_; intro K hK
  refine ow_alloc hS tz_32 rfl ?_
  clear hS; intro g4_7 w hg4_7 hS
  refine hK _ _ ?_; clear hK K
  refine wl_e rfl ?_; intro K hK
  refine ow_storeA hS 0 rfl ts_32 (tmP rfl rfl) (tmA rfl rfl) rfl rfl rfl ?_
  clear hS; intro w hS
  try replace hS := St.nm (M' := [.blk _ _ [_, _, _, _], .blk _ _ [_, _, _], _]) hS rfl
  refine hK _ _ ?_; clear hK K
  refine wl_v (x_assign (tmI rfl rfl)) ?_
  refine wl_v (x_assign (tmB rfl rfl)) ?_
  refine wl_nil ?_
  refine then_n (hK5 _ _ ?_); clear hK5 K5
  refine wp_seq_k ?_; intro K6 hK6
  refine wlit ?_
  refine wl_v (x_move (tmI rfl rfl)) ?_
  refine wl_v (x_eql (tmI rfl rfl) (ev_cN 0)) ?_
  refine wl_v (x_move (tmB rfl rfl)) ?_
  refine gs_wl (tm (t := 26) rfl) (fun hg5_2 => ?_) (fun hg5_2 => ?_)
  · have hg5_2' := hg5_2; (try simp only [nrm] at hg5_2'); try (exfalso; first | with_reducible exact absurd hg5_2 Bool.false_ne_true | with_reducible exact absurd hg5_2.symm Bool.false_ne_true | omega | (simp at hg5_2; done))
    all_goals
     refine wl_gv (want_y rfl rfl rfl rfl (by rw [hg5_2]; rfl)) (x_move (tmI rfl rfl)) ?_
     refine wl_gv (want_y rfl rfl rfl rfl (by rw [hg5_2]; rfl)) (x_eql (tmI rfl rfl) (ev_cN 0)) ?_
     refine wl_v (x_pickT (tmB rfl rfl) hg5_2 (tmB rfl rfl)) ?_
     refine wl_v (x_move (tmB rfl rfl)) ?_
     refine gs_wl (tm (t := 30) rfl) (fun hg5_6 => ?_) (fun hg5_6 => ?_)
     · have hg5_6' := hg5_6; (try simp only [nrm] at hg5_6'); try (exfalso; first | with_reducible exact absurd hg5_6 Bool.false_ne_true | with_reducible exact absurd hg5_6.symm Bool.false_ne_true | omega | (simp at hg5_6; done))
       all_goals
        refine wl_gv (want_y rfl rfl rfl rfl (by rw [hg5_6]; rfl)) (x_move (tmB rfl rfl)) ?_
        refine wl_v (x_pickT (tmB rfl rfl) hg5_6 (tmB rfl rfl)) ?_
        refine wl_v (x_move (tmB rfl rfl)) ?_
        refine gs_wl (tm (t := 33) rfl) (fun hg5_9 => ?_) (fun hg5_9 => ?_)
        · have hg5_9' := hg5_9; (try simp only [nrm] at hg5_9'); try (exfalso; first | with_reducible exact absurd hg5_9 Bool.false_ne_true | with_reducible exact absurd hg5_9.symm Bool.false_ne_true | omega | (simp at hg5_9; done))
          all_goals
           refine wl_gv (want_y rfl rfl rfl rfl (by rw [hg5_9]; rfl)) (x_move (tmI rfl rfl)) ?_
           refine wl_gv (want_y rfl rfl rfl rfl (by rw [hg5_9]; rfl)) (x_eql (tmI rfl rfl) (ev_cN 2)) ?_
           refine wl_v (x_pickT (tmB rfl rfl) hg5_9 (tmB rfl rfl)) ?_
           refine wl_v (x_move (tmB rfl rfl)) ?_
           refine gs_wl (tm (t := 37) rfl) (fun hg5_13 => ?_) (fun hg5_13 => ?_)
           · have hg5_13' := hg5_13; (try simp only [nrm] at hg5_13'); try (exfalso; first | with_reducible exact absurd hg5_13 Bool.false_ne_true | with_reducible exact absurd hg5_13.symm Bool.false_ne_true | omega | (simp at hg5_13; done))
             all_goals
              refine wl_gv (want_y rfl rfl rfl rfl (by rw [hg5_13]; rfl)) (x_fa 3 Try.underlying32 rfl rfl ts_3 (tmP rfl rfl)) ?_
              first
               | refine wl_gv (want_y rfl rfl rfl rfl (by rw [hg5_13]; rfl)) (x_load Try.underlying3 rfl (tmP rfl rfl) (cellB hS.ok 0 rfl rfl)) ?_
               | refine wl_gv (want_y rfl rfl rfl rfl (by rw [hg5_13]; rfl)) (x_load Try.underlying3 rfl (tmP rfl rfl) (cellB hS.ok 0 rfl (getm (by omega)))) ?_
              refine wl_gv (want_y rfl rfl rfl rfl (by rw [hg5_13]; rfl)) (x_eql (tmI rfl rfl) (ev_cN 16)) ?_
              refine wl_v (x_pickT (tmB rfl rfl) hg5_13 (tmB rfl rfl)) ?_
              refine wl_v (x_assign (tmB rfl rfl)) ?_
              refine wl_nil ?_
              refine then_n (hK6 _ _ ?_); clear hK6 K6
              refine wp_ret ?_
              refine ret1 rfl (.tmp rfl (show _ = Value.bool _ from rfl)) ?_
              exact ⟨rfl, hS.kp⟩
           have hg5_13' := hg5_13; (try simp only [nrm] at hg5_13'); try (exfalso; first | with_reducible exact absurd hg5_13 Bool.false_ne_true | with_reducible exact absurd hg5_13.symm Bool.false_ne_true | omega | (simp at hg5_13; done))
           all_goals
            refine wl_s rfl (want_n rfl rfl rfl rfl (by rw [hg5_13]; rfl)) ?_
            refine wl_s rfl (want_n rfl rfl rfl rfl (by rw [hg5_13]; rfl)) ?_
            refine wl_s rfl (want_n rfl rfl rfl rfl (by rw [hg5_13]; rfl)) ?_
            refine wl_v (x_pickF (tmB rfl rfl) hg5_13 ev_c) ?_
            refine wl_v (x_assign (tmB rfl rfl)) ?_
            refine wl_nil ?_
            refine then_n (hK6 _ _ ?_); clear hK6 K6
            refine wp_ret ?_
            refine ret1 rfl (.tmp rfl (show _ = Value.bool _ from rfl)) ?_
            exact ⟨rfl, hS.kp⟩
        have hg5_9' := hg5_9; (try simp only [nrm] at hg5_9'); try (exfalso; first | with_reducible exact absurd hg5_9 Bool.false_ne_true | with_reducible exact absurd hg5_9.symm Bool.false_ne_true | omega | (simp at hg5_9; done))
        all_goals
         refine wl_s rfl (want_n rfl rfl rfl rfl (by rw [hg5_9]; rfl)) ?_
         refine wl_s rfl (want_n rfl rfl rfl rfl (by rw [hg5_9]; rfl)) ?_
         refine wl_v (x_pickF (tmB rfl rfl) hg5_9 ev_c) ?_
         refine wl_v (x_move (tmB rfl rfl)) ?_
         refine wl_s rfl (want_n rfl rfl rfl rfl rfl) ?_
         refine wl_s rfl (want_n rfl rfl rfl rfl rfl) ?_
         refine wl_s rfl (want_n rfl rfl rfl rfl rfl) ?_
         refine wl_v (x_pickF (tmB rfl rfl) rfl ev_c) ?_
         refine wl_v (x_assign (tmB rfl rfl)) ?_
         refine wl_nil ?_
         refine then_n (hK6 _ _ ?_); clear hK6 K6
         refine wp_ret ?_
         refine ret1 rfl (.tmp rfl (show _ = Value.bool _ from rfl)) ?_
         exact ⟨rfl, hS.kp⟩
     have hg5_6' := hg5_6; (try simp only [nrm] at hg5_6'); try (exfalso; first | with_reducible exact absurd hg5_6 Bool.false_ne_true | with_reducible exact absurd hg5_6.symm Bool.false_ne_true | omega | (simp at hg5_6; done))
     all_goals
      refine wl_s rfl (want_n rfl rfl rfl rfl (by rw [hg5_6]; rfl)) ?_
      refine wl_v (x_pickF (tmB rfl rfl) hg5_6 ev_c) ?_
      refine wl_v (x_move (tmB rfl rfl)) ?_
      refine wl_s rfl (want_n rfl rfl rfl rfl rfl) ?_
      refine wl_s rfl (want_n rfl rfl rfl rfl rfl) ?_
      refine wl_v (x_pickF (tmB rfl rfl) rfl ev_c) ?_
      refine wl_v (x_move (tmB rfl rfl)) ?_
      refine wl_s rfl (want_n rfl rfl rfl rfl rfl) ?_
      refine wl_s rfl (want_n rfl rfl rfl rfl rfl) ?_
      refine wl_s rfl (want_n rfl rfl rfl rfl rfl) ?_
      refine wl_v (x_pickF (tmB rfl rfl) rfl ev_c) ?_
      refine wl_v (x_assign (tmB rfl rfl)) ?_
      refine wl_nil ?_
      refine then_n (hK6 _ _ ?_); clear hK6 K6
      refine wp_ret ?_
      refine ret1 rfl (.tmp rfl (show _ = Value.bool _ from rfl)) ?_
      exact ⟨rfl, hS.kp⟩
  have hg5_2' := hg5_2; (try simp only [nrm] at hg5_2'); try (exfalso; first | with_reducible exact absurd hg5_2 Bool.false_ne_true | with_reducible exact absurd hg5_2.symm Bool.false_ne_true | omega | (simp at hg5_2; done))
  all_goals
   refine wl_s rfl (want_n rfl rfl rfl rfl (by rw [hg5_2]; rfl)) ?_
   refine wl_s rfl (want_n rfl rfl rfl rfl (by rw [hg5_2]; rfl)) ?_
   refine wl_v (x_pickF (tmB rfl rfl) hg5_2 ev_c) ?_
   refine wl_v (x_move (tmB rfl rfl)) ?_
   refine wl_s rfl (want_n rfl rfl rfl rfl rfl) ?_
   refine wl_v (x_pickF (tmB rfl rfl) rfl ev_c) ?_
   refine wl_v (x_move (tmB rfl rfl)) ?_
   refine wl_s rfl (want_n rfl rfl rfl rfl rfl) ?_
   refine wl_s rfl (want_n rfl rfl rfl rfl rfl) ?_
   refine wl_v (x_pickF (tmB rfl rfl) rfl ev_c) ?_
   refine wl_v (x_move (tmB rfl rfl)) ?_
   refine wl_s rfl (want_n rfl rfl rfl rfl rfl) ?_
   refine wl_s rfl (want_n rfl rfl rfl rfl rfl) ?_
   refine wl_s rfl (want_n rfl rfl rfl rfl rfl) ?_
   refine wl_v (x_pickF (tmB rfl rfl) rfl ev_c) ?_
   refine wl_v (x_assign (tmB rfl rfl)) ?_
   refine wl_nil ?_
   refine then_n (hK6 _ _ ?_); clear hK6 K6
   refine wp_ret ?_
   refine ret1 rfl (.tmp rfl (show _ = Value.bool _ from rfl)) ?_
   exact ⟨rfl, hS.kp⟩
end Go.Proofs.Ytlpgedncnefaoaa
