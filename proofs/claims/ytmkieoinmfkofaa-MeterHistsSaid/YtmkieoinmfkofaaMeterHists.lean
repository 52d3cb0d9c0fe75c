
/- MeterHists (under way). Conditions: none. -/
import Derived.Test.YtmkieoinmfkofaaHistF
import Derived.Test.YtmkieoinmfkofaaArgs
import Derived.Test.YtmkieoinmfkofaaO
namespace Go.Proofs.Ytmkieoinmfkofaa
open Go.RowKit
namespace HistC
set_option maxRecDepth 100000 in
set_option maxHeartbeats 4000000 in
theorem new_c (w0 : World) :
    Calls Try.prog 10 #[.int .u64 ((1 : Nat) : Int), .int .u64 ((2 : Nat) : Int)] w0 fun e w' => ∃ gb, e = .returned (.tuple #[.pointer (some ⟨gb, 0, none⟩), .int .i64 0]) ∧ New w0 w' (.blk gb 45 [u64v 1, u64v 2, u64v 2, u64v 0]) ∧ Kp [] w0 w' := by
  have hS := St.sv w0
  refine ent (n := 21) Try.func10 rfl rfl ?_
  refine wp_seq_k ?_; intro K1 hK1
  refine wlit ?_
  refine wl_v (x_assign ev_c) ?_
  refine wl_v (x_assign (ev_cN 0)) ?_
  refine wl_nil ?_
  refine then_n (hK1 _ _ ?_); clear hK1 K1
  refine wp_seq_k ?_; intro K2 hK2
  refine wp_seq_k ?_; intro K3 hK3
  refine wlit ?_
  refine wl_v (x_move (tmI rfl rfl)) ?_
  refine wl_v (x_gtr (tmI rfl rfl) (ev_cN 2147483648)) ?_
  refine wl_v (x_move (tmB rfl rfl)) ?_
  refine gs_wl (tm (t := 8) rfl) (fun hg1_2 => ?_) (fun hg1_2 => ?_)
  · exfalso
    simp at hg1_2
  have hg1_2' := hg1_2; (try simp only [nrm] at hg1_2'); try (exfalso; first | with_reducible exact absurd hg1_2 Bool.false_ne_true | with_reducible exact absurd hg1_2.symm Bool.false_ne_true | omega | (simp at hg1_2; done))
  all_goals
   refine wl_gv (want_y rfl rfl rfl rfl (by rw [hg1_2]; rfl)) (x_move (tmI rfl rfl)) ?_
   refine wl_gv (want_y rfl rfl rfl rfl (by rw [hg1_2]; rfl)) (x_lss (tmI rfl rfl) (ev_cN 1)) ?_
   refine wl_v (x_pickF (tmB rfl rfl) hg1_2 (tmB rfl rfl)) ?_
   refine wl_v (x_move (tmB rfl rfl)) ?_
   refine gs_wl (tm (t := 12) rfl) (fun hg1_6 => ?_) (fun hg1_6 => ?_)
   · exfalso
     simp at hg1_6
   have hg1_6' := hg1_6; (try simp only [nrm] at hg1_6'); try (exfalso; first | with_reducible exact absurd hg1_6 Bool.false_ne_true | with_reducible exact absurd hg1_6.symm Bool.false_ne_true | omega | (simp at hg1_6; done))
   all_goals
    refine wl_gv (want_y rfl rfl rfl rfl (by rw [hg1_6]; rfl)) (x_move (tmI rfl rfl)) ?_
    refine wl_gv (want_y rfl rfl rfl rfl (by rw [hg1_6]; rfl)) (x_gtr (tmI rfl rfl) (ev_cN 2147483648)) ?_
    refine wl_v (x_pickF (tmB rfl rfl) hg1_6 (tmB rfl rfl)) ?_
    refine wl_nil ?_
    refine then_n (hK3 _ _ ?_); clear hK3 K3
    refine cnd (tm rfl) (fun hc0 => ?_) (fun hc0 => ?_)
    · exfalso
      simp at hc0
    try (exfalso; first | with_reducible exact absurd hc0 Bool.false_ne_true | with_reducible exact absurd hc0.symm Bool.false_ne_true | (simp only [nrm] at hc0; omega) | (simp at hc0; done))
    all_goals
     try simp only [nrm] at hc0
     refine wp_skip ?_
     refine then_n (hK2 _ _ ?_); clear hK2 K2
     refine wp_seq_k ?_; intro K4 hK4
     refine wlit ?_
     refine wl_v (x_move (tmI rfl rfl)) ?_
     refine wl_v (x_move (tmI rfl rfl)) ?_
     refine wl_v (x_move (tmI rfl rfl)) ?_
     refine wl_v (x_build (bc_take (tmI rfl rfl) <| bc_take (tmI rfl rfl) <| bc_take (tmI rfl rfl) <| bc_skip (.int .u64 0) <| bc_nil) (by kernel_rfl)) ?_
     refine wl_e rfl ?_; intro K hK
     refine ow_box hS (tmA rfl rfl) rfl ?_
     clear hS; intro g3_4 w hg3_4 hS
     refine hK _ _ ?_; clear hK K
     refine wl_v (x_assign (tmP rfl rfl)) ?_
     refine wl_v (x_assign (ev_cN 0)) ?_
     refine wl_nil ?_
     refine then_n (hK4 _ _ ?_); clear hK4 K4
     refine wp_ret ?_
     refine ret2 rfl (.tmp rfl (show _ = Value.pointer _ from rfl)) (.tmp rfl (show _ = Value.int _ _ from rfl)) ?_
     exact ⟨_, rfl, hS.new 0 rfl rfl, hS.kp⟩
set_option maxRecDepth 100000 in
set_option maxHeartbeats 4000000 in
theorem awake43_c (w0 : World) :
    Calls Try.prog 4 #[] w0 fun e w' => e = .returned (.bool true) ∧ Kp [] w0 w' := by
  have hS := St.sv w0
  refine ent (n := 22) Try.func4 rfl rfl ?_
  refine wp_seq_k ?_; intro K1 hK1
  refine wlit ?_
  refine wl_v (x_assign ev_c) ?_
  refine wl_nil ?_
  refine then_n (hK1 _ _ ?_); clear hK1 K1
  refine wp_seq_k ?_; intro K2 hK2
  refine wlit ?_
  refine wl_e rfl ?_; intro K hK
  refine ow_call Try.func10 rfl rfl (evs_cons (ev_cN 1) <| evs_cons (ev_cN 2) <| evs_nil) (new_c _) ?_
  rintro e w ⟨gb, rfl, hn, hk⟩
  refine ⟨_, rfl, ?_⟩
  replace hS := hS.add hk hn -- +bk
  clear hk hn
  refine hK _ _ ?_; clear hK K
  refine wl_v (x_move (tmT rfl rfl)) ?_
  refine wl_v (x_ext (tmT rfl rfl) rfl) ?_
  refine wl_v (x_ext (tmT rfl rfl) rfl) ?_
  refine wl_v (x_assign (tmP rfl rfl)) ?_
  refine wl_v (x_assign (tmI rfl rfl)) ?_
  refine wl_nil ?_
  refine then_n (hK2 _ _ ?_); clear hK2 K2
  refine wp_seq_k ?_; intro K3 hK3
  refine wlit ?_
  refine wl_v (x_move (tmI rfl rfl)) ?_
  refine wl_v (x_eql (tmI rfl rfl) (ev_cN 0)) ?_
  refine wl_v (x_move (tmB rfl rfl)) ?_
  refine gs_wl (tm (t := 9) rfl) (fun hg2_2 => ?_) (fun hg2_2 => ?_)
  · have hg2_2' := hg2_2; (try simp only [nrm] at hg2_2'); try (exfalso; first | with_reducible exact absurd hg2_2 Bool.false_ne_true | with_reducible exact absurd hg2_2.symm Bool.false_ne_true | omega | (simp at hg2_2; done))
    all_goals
     refine wl_gv (want_y rfl rfl rfl rfl (by rw [hg2_2]; rfl)) (x_move (tmP rfl rfl)) ?_
     refine wl_g (want_y rfl rfl rfl rfl (by rw [hg2_2]; rfl)) ?_; intro K hK
     refine ow_call Try.func11 rfl rfl (evs_cons (tmP rfl rfl) <| evs_cons (ev_cN 2) <| evs_cons (ev_cN 0) <| evs_nil) (take_a _ gb _ (hS.enter [0] [] rfl rfl)) ?_
     rintro e w ⟨rfl, hS2⟩
     refine ⟨_, rfl, ?_⟩
     replace hS := hS.leave [0] [] rfl rfl rfl (hS2.pick [0] rfl rfl) rfl
     clear hS2
     try replace hS := St.nm (M' := [_, _]) hS rfl
     refine hK _ _ ?_; clear hK K
     refine wl_v (x_pickT (tmB rfl rfl) hg2_2 (tmB rfl rfl)) ?_
     refine wl_v (x_move (tmB rfl rfl)) ?_
     refine gs_wl (tm (t := 13) rfl) (fun hg2_6 => ?_) (fun hg2_6 => ?_)
     · have hg2_6' := hg2_6; (try simp only [nrm] at hg2_6'); try (exfalso; first | with_reducible exact absurd hg2_6 Bool.false_ne_true | with_reducible exact absurd hg2_6.symm Bool.false_ne_true | omega | (simp at hg2_6; done))
       all_goals
        refine wl_gv (want_y rfl rfl rfl rfl (by rw [hg2_6]; rfl)) (x_move (tmP rfl rfl)) ?_
        refine wl_g (want_y rfl rfl rfl rfl (by rw [hg2_6]; rfl)) ?_; intro K hK
        refine ow_call Try.func11 rfl rfl (evs_cons (tmP rfl rfl) <| evs_cons (ev_cN 1) <| evs_cons (ev_cN 0) <| evs_nil) (take_b _ gb _ (hS.enter [0] [] rfl rfl)) ?_
        rintro e w ⟨rfl, hS2⟩
        refine ⟨_, rfl, ?_⟩
        replace hS := hS.leave [0] [] rfl rfl rfl (hS2.pick [0] rfl rfl) rfl
        clear hS2
        try replace hS := St.nm (M' := [_, _]) hS rfl
        refine hK _ _ ?_; clear hK K
        refine wl_gv (want_y rfl rfl rfl rfl (by rw [hg2_6]; rfl)) (x_not (tmB rfl rfl)) ?_
        refine wl_v (x_pickT (tmB rfl rfl) hg2_6 (tmB rfl rfl)) ?_
        refine wl_v (x_move (tmB rfl rfl)) ?_
        refine gs_wl (tm (t := 18) rfl) (fun hg2_11 => ?_) (fun hg2_11 => ?_)
        · have hg2_11' := hg2_11; (try simp only [nrm] at hg2_11'); try (exfalso; first | with_reducible exact absurd hg2_11 Bool.false_ne_true | with_reducible exact absurd hg2_11.symm Bool.false_ne_true | omega | (simp at hg2_11; done))
          all_goals
           refine wl_gv (want_y rfl rfl rfl rfl (by rw [hg2_11]; rfl)) (x_move (tmP rfl rfl)) ?_
           refine wl_g (want_y rfl rfl rfl rfl (by rw [hg2_11]; rfl)) ?_; intro K hK
           refine ow_call Try.func11 rfl rfl (evs_cons (tmP rfl rfl) <| evs_cons (ev_cN 1) <| evs_cons (ev_cN 1) <| evs_nil) (take_d _ gb _ (hS.enter [0] [] rfl rfl)) ?_
           rintro e w ⟨rfl, hS2⟩
           refine ⟨_, rfl, ?_⟩
           replace hS := hS.leave [0] [] rfl rfl rfl (hS2.pick [0] rfl rfl) rfl
           clear hS2
           try replace hS := St.nm (M' := [_, _]) hS rfl
           refine hK _ _ ?_; clear hK K
           refine wl_v (x_pickT (tmB rfl rfl) hg2_11 (tmB rfl rfl)) ?_
           refine wl_v (x_assign (tmB rfl rfl)) ?_
           refine wl_nil ?_
           refine then_n (hK3 _ _ ?_); clear hK3 K3
           refine wp_ret ?_
           refine ret1 rfl (.tmp rfl (show _ = Value.bool _ from rfl)) ?_
           exact ⟨rfl, hS.kp⟩
        have hg2_11' := hg2_11; (try simp only [nrm] at hg2_11'); try (exfalso; first | with_reducible exact absurd hg2_11 Bool.false_ne_true | with_reducible exact absurd hg2_11.symm Bool.false_ne_true | omega | (simp at hg2_11; done))
        all_goals
         refine wl_s rfl (want_n rfl rfl rfl rfl (by rw [hg2_11]; rfl)) ?_
         refine wl_s rfl (want_n rfl rfl rfl rfl (by rw [hg2_11]; rfl)) ?_
         refine wl_v (x_pickF (tmB rfl rfl) hg2_11 ev_c) ?_
         refine wl_v (x_assign (tmB rfl rfl)) ?_
         refine wl_nil ?_
         refine then_n (hK3 _ _ ?_); clear hK3 K3
         refine wp_ret ?_
         refine ret1 rfl (.tmp rfl (show _ = Value.bool _ from rfl)) ?_
         exact ⟨rfl, hS.kp⟩
     have hg2_6' := hg2_6; (try simp only [nrm] at hg2_6'); try (exfalso; first | with_reducible exact absurd hg2_6 Bool.false_ne_true | with_reducible exact absurd hg2_6.symm Bool.false_ne_true | omega | (simp at hg2_6; done))
     all_goals
      refine wl_s rfl (want_n rfl rfl rfl rfl (by rw [hg2_6]; rfl)) ?_
      refine wl_s rfl (want_n rfl rfl rfl rfl (by rw [hg2_6]; rfl)) ?_
      refine wl_s rfl (want_n rfl rfl rfl rfl (by rw [hg2_6]; rfl)) ?_
      refine wl_v (x_pickF (tmB rfl rfl) hg2_6 ev_c) ?_
      refine wl_v (x_move (tmB rfl rfl)) ?_
      refine wl_s rfl (want_n rfl rfl rfl rfl rfl) ?_
      refine wl_s rfl (want_n rfl rfl rfl rfl rfl) ?_
      refine wl_v (x_pickF (tmB rfl rfl) rfl ev_c) ?_
      refine wl_v (x_assign (tmB rfl rfl)) ?_
      refine wl_nil ?_
      refine then_n (hK3 _ _ ?_); clear hK3 K3
      refine wp_ret ?_
      refine ret1 rfl (.tmp rfl (show _ = Value.bool _ from rfl)) ?_
      exact ⟨rfl, hS.kp⟩
  have hg2_2' := hg2_2; (try simp only [nrm] at hg2_2'); try (exfalso; first | with_reducible exact absurd hg2_2 Bool.false_ne_true | with_reducible exact absurd hg2_2.symm Bool.false_ne_true | omega | (simp at hg2_2; done))
  all_goals
   refine wl_s rfl (want_n rfl rfl rfl rfl (by rw [hg2_2]; rfl)) ?_
   refine wl_s rfl (want_n rfl rfl rfl rfl (by rw [hg2_2]; rfl)) ?_
   refine wl_v (x_pickF (tmB rfl rfl) hg2_2 ev_c) ?_
   refine wl_v (x_move (tmB rfl rfl)) ?_
   refine wl_s rfl (want_n rfl rfl rfl rfl rfl) ?_
   refine wl_s rfl (want_n rfl rfl rfl rfl rfl) ?_
   refine wl_s rfl (want_n rfl rfl rfl rfl rfl) ?_
   refine wl_v (x_pickF (tmB rfl rfl) rfl ev_c) ?_
   refine wl_v (x_move (tmB rfl rfl)) ?_
   refine wl_s rfl (want_n rfl rfl rfl rfl rfl) ?_
   refine wl_s rfl (want_n rfl rfl rfl rfl rfl) ?_
   refine wl_v (x_pickF (tmB rfl rfl) rfl ev_c) ?_
   refine wl_v (x_assign (tmB rfl rfl)) ?_
   refine wl_nil ?_
   refine then_n (hK3 _ _ ?_); clear hK3 K3
   refine wp_ret ?_
   refine ret1 rfl (.tmp rfl (show _ = Value.bool _ from rfl)) ?_
   exact ⟨rfl, hS.kp⟩
theorem cnt_step (l : List Nat) (k : Nat) : hL (fun i => if i = bl (l.getD k 0) then cntB l k (bl (l.getD k 0)) + 1 else cntB l k i) = hL (cntB l (k + 1)) := by
  refine hL_congr fun j _ => ?_
  simp only [cntB]
  by_cases h : j = bl (l.getD k 0)
  · subst h; rw [if_pos rfl, if_pos rfl]
  · rw [if_neg h, if_neg (fun h2 => h h2.symm), Nat.add_zero]
theorem cum_full {l : List Nat} (n : Nat) (hb : ∀ i, i < n → l.getD i 0 < 18446744073709551616) : cum (cntB l n) 65 = n := by
  rw [cum_cnt]
  exact le_all n fun i hi => bl_lt (s := 64) (hb i hi)
end HistC
namespace MeterHists
open HistC
def pL (p : Int) : List Int := [p, 0, 50, 99, 100]
set_option maxRecDepth 100000 in
set_option maxHeartbeats 4000000 in
theorem walk_all (A1 : Option Addr) (n1 c1 : Nat) (l : List Nat) (A2 : Option Addr) (n2 c2 : Nat) (m : List Nat) (p : Int) (w0 : World) (hv1 : View w0 w0.heap.size A1 (l.map u64v)) (hv2 : View w0 w0.heap.size A2 (m.map u64v))
    (hl : l.length = n1) (hm : m.length = n2) (hn1 : n1 ≤ 9223372036854775807) (hn2 : n2 ≤ 9223372036854775807) (hb1 : ∀ i, i < n1 → l.getD i 0 < 18446744073709551616) (hb2 : ∀ i, i < n2 → m.getD i 0 < 18446744073709551616) :
    Calls Try.prog 3 #[.slice A1 n1 c1, .slice A2 n2 c2, .int .i64 p] w0 fun e w' => e = .returned (.bool true) ∧ Below w0.heap.size w0 w' := by
  have hS := ((St.sv w0).vcons rfl hv2).vcons rfl hv1
  refine ent (n := 159) Try.func3 rfl rfl ?_
  refine wp_seq_k ?_; intro K1 hK1
  refine wlit ?_
  refine wl_v (x_assign ev_c) ?_
  refine wl_nil ?_
  refine then_n (hK1 _ _ ?_); clear hK1 K1
  refine wp_seq_k ?_; intro K2 hK2
  refine wp_seq_k ?_; intro K3 hK3
  refine wlit ?_
  refine wl_e rfl ?_; intro K hK
  refine ow_call Try.func4 rfl rfl (evs_nil) (awake43_c _) ?_
  rintro e w ⟨rfl, hk1⟩
  refine ⟨_, rfl, ?_⟩
  replace hS := hS.kept hk1
  clear hk1
  refine hK _ _ ?_; clear hK K
  refine wl_v (x_not (tmB rfl rfl)) ?_
  refine wl_nil ?_
  refine then_n (hK3 _ _ ?_); clear hK3 K3
  refine cnd (tm rfl) (fun hc0 => ?_) (fun hc0 => ?_)
  · exfalso
    exact absurd hc0 (by decide)
  try (exfalso; first | with_reducible exact absurd hc0 Bool.false_ne_true | with_reducible exact absurd hc0.symm Bool.false_ne_true | (simp only [nrm] at hc0; omega) | (simp at hc0; done))
  all_goals
   try simp only [nrm] at hc0
   refine wp_skip ?_
   refine then_n (hK2 _ _ ?_); clear hK2 K2
   refine wp_seq_k ?_; intro K4 hK4
   refine wp_seq_k ?_; intro K5 hK5
   refine wlit ?_
   refine wl_v (x_move (tmS rfl rfl)) ?_
   refine wl_v (x_len Try.underlying22 (tmS rfl rfl)) ?_
   refine wl_v (x_gtr (tmI rfl rfl) (ev_cN 100)) ?_
   refine wl_v (x_move (tmB rfl rfl)) ?_
   refine gs_wl (tm (t := 29) rfl) (fun hg3_3 => ?_) (fun hg3_3 => ?_)
   · have hg3_3' := hg3_3; (try simp only [nrm] at hg3_3'); try (exfalso; first | with_reducible exact absurd hg3_3 Bool.false_ne_true | with_reducible exact absurd hg3_3.symm Bool.false_ne_true | omega | (simp at hg3_3; done))
     all_goals
      refine wl_s rfl (want_n rfl rfl rfl rfl (by rw [hg3_3]; rfl)) ?_
      refine wl_s rfl (want_n rfl rfl rfl rfl (by rw [hg3_3]; rfl)) ?_
      refine wl_s rfl (want_n rfl rfl rfl rfl (by rw [hg3_3]; rfl)) ?_
      refine wl_v (x_pickT (tmB rfl rfl) hg3_3 ev_c) ?_
      refine wl_nil ?_
      refine then_n (hK5 _ _ ?_); clear hK5 K5
      refine cnd_t (tmB rfl rfl) rfl ?_
      refine wp_seq_k ?_; intro K6 hK6
      refine wlit ?_
      refine wl_e rfl ?_; intro K hK
      refine ow_call Try.func4 rfl rfl (evs_nil) (awake43_c _) ?_
      rintro e w ⟨rfl, hk1⟩
      refine ⟨_, rfl, ?_⟩
      replace hS := hS.kept hk1
      clear hk1
      refine hK _ _ ?_; clear hK K
      refine wl_v (x_assign (tmB rfl rfl)) ?_
      refine wl_nil ?_
      refine then_n (hK6 _ _ ?_); clear hK6 K6
      refine wp_ret ?_
      refine then_r ?_
      refine ret1 rfl (.tmp rfl (show _ = Value.bool _ from rfl)) ?_
      exact ⟨rfl, hS.kp.below⟩
   have hg3_3' := hg3_3; (try simp only [nrm] at hg3_3'); try (exfalso; first | with_reducible exact absurd hg3_3 Bool.false_ne_true | with_reducible exact absurd hg3_3.symm Bool.false_ne_true | omega | (simp at hg3_3; done))
   all_goals
    refine wl_gv (want_y rfl rfl rfl rfl (by rw [hg3_3]; rfl)) (x_move (tmS rfl rfl)) ?_
    refine wl_gv (want_y rfl rfl rfl rfl (by rw [hg3_3]; rfl)) (x_len Try.underlying22 (tmS rfl rfl)) ?_
    refine wl_gv (want_y rfl rfl rfl rfl (by rw [hg3_3]; rfl)) (x_gtr (tmI rfl rfl) (ev_cN 100)) ?_
    refine wl_v (x_pickF (tmB rfl rfl) hg3_3 (tmB rfl rfl)) ?_
    refine wl_nil ?_
    refine then_n (hK5 _ _ ?_); clear hK5 K5
    refine cnd (tm rfl) (fun hc1 => ?_) (fun hc1 => ?_)
    · try (exfalso; first | with_reducible exact absurd hc1 Bool.false_ne_true | with_reducible exact absurd hc1.symm Bool.false_ne_true | (simp only [nrm] at hc1; omega) | (simp at hc1; done))
      all_goals
       try simp only [nrm] at hc1
       refine wp_seq_k ?_; intro K7 hK7
       refine wlit ?_
       refine wl_e rfl ?_; intro K hK
       refine ow_call Try.func4 rfl rfl (evs_nil) (awake43_c _) ?_
       rintro e w ⟨rfl, hk1⟩
       refine ⟨_, rfl, ?_⟩
       replace hS := hS.kept hk1
       clear hk1
       refine hK _ _ ?_; clear hK K
       refine wl_v (x_assign (tmB rfl rfl)) ?_
       refine wl_nil ?_
       refine then_n (hK7 _ _ ?_); clear hK7 K7
       refine wp_ret ?_
       refine then_r ?_
       refine ret1 rfl (.tmp rfl (show _ = Value.bool _ from rfl)) ?_
       exact ⟨rfl, hS.kp.below⟩
    try (exfalso; first | with_reducible exact absurd hc1 Bool.false_ne_true | with_reducible exact absurd hc1.symm Bool.false_ne_true | (simp only [nrm] at hc1; omega) | (simp at hc1; done))
    all_goals
     try simp only [nrm] at hc1
     refine wp_skip ?_
     refine then_n (hK4 _ _ ?_); clear hK4 K4
     refine wp_seq_k ?_; intro K8 hK8
     have h1 : n1 ≤ 100 := by first | omega | (simp at hc1 hg3_3; omega)
     have h2 : n2 ≤ 100 := by first | omega | (simp at hc1 hg3_3; omega)
     refine wlit ?_
     refine wl_v (x_build (bc_skipL [.int .u64 0, .int .u64 0, .int .u64 0, .int .u64 0, .int .u64 0, .int .u64 0, .int .u64 0, .int .u64 0, .int .u64 0, .int .u64 0, .int .u64 0, .int .u64 0, .int .u64 0, .int .u64 0, .int .u64 0, .int .u64 0, .int .u64 0, .int .u64 0, .int .u64 0, .int .u64 0, .int .u64 0, .int .u64 0, .int .u64 0, .int .u64 0, .int .u64 0, .int .u64 0, .int .u64 0, .int .u64 0, .int .u64 0, .int .u64 0, .int .u64 0, .int .u64 0, .int .u64 0, .int .u64 0, .int .u64 0, .int .u64 0, .int .u64 0, .int .u64 0, .int .u64 0, .int .u64 0, .int .u64 0, .int .u64 0, .int .u64 0, .int .u64 0, .int .u64 0, .int .u64 0, .int .u64 0, .int .u64 0, .int .u64 0, .int .u64 0, .int .u64 0, .int .u64 0, .int .u64 0, .int .u64 0, .int .u64 0, .int .u64 0, .int .u64 0, .int .u64 0, .int .u64 0, .int .u64 0, .int .u64 0, .int .u64 0, .int .u64 0, .int .u64 0, .int .u64 0] <| bc_nil) (by kernel_rfl)) ?_
     refine wl_e rfl ?_; intro K hK
     refine ow_box hS (tmA rfl rfl) rfl ?_
     clear hS; intro g5_1 w hg5_1 hS
     refine hK _ _ ?_; clear hK K
     refine wl_v (x_build (bc_skipL [.int .u64 0, .int .u64 0, .int .u64 0, .int .u64 0, .int .u64 0, .int .u64 0, .int .u64 0, .int .u64 0, .int .u64 0, .int .u64 0, .int .u64 0, .int .u64 0, .int .u64 0, .int .u64 0, .int .u64 0, .int .u64 0, .int .u64 0, .int .u64 0, .int .u64 0, .int .u64 0, .int .u64 0, .int .u64 0, .int .u64 0, .int .u64 0, .int .u64 0, .int .u64 0, .int .u64 0, .int .u64 0, .int .u64 0, .int .u64 0, .int .u64 0, .int .u64 0, .int .u64 0, .int .u64 0, .int .u64 0, .int .u64 0, .int .u64 0, .int .u64 0, .int .u64 0, .int .u64 0, .int .u64 0, .int .u64 0, .int .u64 0, .int .u64 0, .int .u64 0, .int .u64 0, .int .u64 0, .int .u64 0, .int .u64 0, .int .u64 0, .int .u64 0, .int .u64 0, .int .u64 0, .int .u64 0, .int .u64 0, .int .u64 0, .int .u64 0, .int .u64 0, .int .u64 0, .int .u64 0, .int .u64 0, .int .u64 0, .int .u64 0, .int .u64 0, .int .u64 0] <| bc_nil) (by kernel_rfl)) ?_
     refine wl_e rfl ?_; intro K hK
     refine ow_box hS (tmA rfl rfl) rfl ?_
     clear hS; intro g5_3 w hg5_3 hS
     refine hK _ _ ?_; clear hK K
     refine wl_v (x_assign (tmP rfl rfl)) ?_
     refine wl_v (x_assign (tmP rfl rfl)) ?_
     refine wl_nil ?_
     refine then_n (hK8 _ _ ?_); clear hK8 K8
     refine wp_seq_k ?_; intro K9 hK9
     refine wp_seq_k ?_; intro K10 hK10
     refine wlit ?_
     refine wl_v (x_assign (ev_cN 0)) ?_
     refine wl_nil ?_
     refine then_n (hK10 _ _ ?_); clear hK10 K10
     refine wp_block ?_
     refine lp [9, 39, 40, 41, 42, 43, 44, 45, 46, 47, 48, 49, 50] (fun mz g w => ∃ (k : Nat), mz = n1 - k ∧ g 9 = .int .i64 (k : Int) ∧ St [] w0 [.blk g5_1 28 (hL (cntB l k)), .blk g5_3 28 (hL (cntB m 0)), .vw A1 (l.map u64v), .vw A2 (m.map u64v)] w ∧ (k ≤ n1)) ?_ ?_
     · exact ⟨_, 0, rfl, (by first | rfl | go_num | exact congrArg (Value.int _) (by first | omega | (simp; done) | (simp; omega))), (hS.pick [1, 0, 2, 3] rfl rfl), (by omega)⟩
     · clear hS; intro mz g w hI
       obtain ⟨k, rfl, hs9, hS, hk⟩ := hI
       refine fr_know (d := 9) hs9 ?_; clear hs9
       refine wp_seq_k ?_; intro K11 hK11
       refine wp_seq_k ?_; intro K12 hK12
       refine wlit ?_
       refine wl_v (x_move (tmI rfl rfl)) ?_
       refine wl_v (x_move (tmS rfl rfl)) ?_
       refine wl_v (x_len Try.underlying22 (tmS rfl rfl)) ?_
       refine wl_v (x_lss (tmI rfl rfl) (tmI rfl rfl)) ?_
       refine wl_nil ?_
       refine then_n (hK12 _ _ ?_); clear hK12 K12
       refine cnd (tm rfl) (fun hc2 => ?_) (fun hc2 => ?_)
       · try (exfalso; first | with_reducible exact absurd hc2 Bool.false_ne_true | with_reducible exact absurd hc2.symm Bool.false_ne_true | (simp only [nrm] at hc2; omega) | (simp at hc2; done))
         all_goals
          try simp only [nrm] at hc2
          obtain ⟨b4, o4, rfl⟩ := view_some hv1 (by rw [List.length_map]; omega)
          have hcl := cnt_le l k (bl (l.getD k 0))
          have hbk := hb1 k (by omega)
          refine wp_skip ?_
          refine then_n (hK11 _ _ ?_); clear hK11 K11
          refine wp_seq_k ?_; intro K13 hK13
          refine wp_block ?_
          refine wlit ?_
          refine wl_v (x_move (tmP rfl rfl)) ?_
          refine wl_v (x_move (tmS rfl rfl)) ?_
          refine wl_v (x_move (tmI rfl rfl)) ?_
          refine wl_v (x_ixs1 Try.underlying22 ts_25 (tmS rfl rfl) (tmI rfl rfl) (by omega)) ?_
          first
           | refine wl_v (x_load Try.underlying25 rfl (tmP rfl rfl) (cellV hS.ok 2 rfl rfl)) ?_
           | refine wl_v (x_load Try.underlying25 rfl (tmP rfl rfl) (cellV hS.ok 2 rfl (getm (by omega)))) ?_
           | refine wl_v (x_load Try.underlying25 rfl (tmP rfl rfl) (cellVs hS.ok 2 rfl (fun _ => rfl) rfl (by omega) rfl)) ?_
           | refine wl_v (x_load Try.underlying25 rfl (tmP rfl rfl) (cellV hS.ok 3 rfl rfl)) ?_
           | refine wl_v (x_load Try.underlying25 rfl (tmP rfl rfl) (cellV hS.ok 3 rfl (getm (by omega)))) ?_
           | refine wl_v (x_load Try.underlying25 rfl (tmP rfl rfl) (cellVs hS.ok 3 rfl (fun _ => rfl) rfl (by omega) rfl)) ?_
          refine wl_e rfl ?_; intro K hK
          refine ow_call Try.func5 rfl rfl (evs_cons (tmP rfl rfl) <| evs_cons (tmI rfl rfl) <| evs_nil) (add_c _ g5_1 (cntB l k) (l.getD k 0) _ (hS.enter [0] [] rfl rfl) hbk (by omega)) ?_
          rintro e w ⟨rfl, hS2⟩
          refine ⟨_, rfl, ?_⟩
          replace hS := hS.leave [0] [1, 2, 3] rfl rfl rfl (hS2.pick [0] rfl rfl) rfl
          clear hS2
          rw [cnt_step] at hS
          try replace hS := St.nm (M' := [.blk _ _ [_, _, _, _, _, _, _, _, _, _, _, _, _, _, _, _, _, _, _, _, _, _, _, _, _, _, _, _, _, _, _, _, _, _, _, _, _, _, _, _, _, _, _, _, _, _, _, _, _, _, _, _, _, _, _, _, _, _, _, _, _, _, _, _, _], .blk _ _ [_, _, _, _, _, _, _, _, _, _, _, _, _, _, _, _, _, _, _, _, _, _, _, _, _, _, _, _, _, _, _, _, _, _, _, _, _, _, _, _, _, _, _, _, _, _, _, _, _, _, _, _, _, _, _, _, _, _, _, _, _, _, _, _, _], .vw _ _, .vw _ _]) hS rfl
          refine hK _ _ ?_; clear hK K
          refine wl_nil ?_
          refine inb_n ?_
          refine then_n (hK13 _ _ ?_); clear hK13 K13
          refine wlit ?_
          refine wl_v (x_move (tmI rfl rfl)) ?_
          first
           | refine wl_v (x_addN (tmI rfl rfl) (ev_cN 1) (fit_i64 (by omega))) ?_
           | refine wl_v (x_addI (tmI rfl rfl) (ev_cN 1) (IntWalk.i64_in _ (by omega))) ?_
           | refine wl_v (x_add (tmI rfl rfl) (ev_cN 1)) ?_
          refine wl_v (x_assign (tmI rfl rfl)) ?_
          refine wl_nil ?_
          exact then_n ⟨_, _, rfl, (by show _ < _; omega), (by repeat (first | exact agree_self | exact agree_refl | refine agree_upd rfl ?_ | refine agree_mix rfl ?_)), k + 1, rfl, (by first | rfl | go_num | exact congrArg (Value.int _) (by first | omega | (simp; done) | (simp; omega))), hS, (by omega)⟩
       try (exfalso; first | with_reducible exact absurd hc2 Bool.false_ne_true | with_reducible exact absurd hc2.symm Bool.false_ne_true | (simp only [nrm] at hc2; omega) | (simp at hc2; done))
       all_goals
        try simp only [nrm] at hc2
        refine wp_exit ?_
        refine then_x ?_; clear hK11 K11
        refine then_x ?_
        refine inb_x ?_
        refine then_n (hK9 _ _ ?_); clear hK9 K9
        refine wp_seq_k ?_; intro K14 hK14
        refine wp_seq_k ?_; intro K15 hK15
        obtain rfl : k = n1 := by omega
        refine wlit ?_
        refine wl_v (x_assign (ev_cN 0)) ?_
        refine wl_nil ?_
        refine then_n (hK15 _ _ ?_); clear hK15 K15
        refine wp_block ?_
        refine lp [10, 51, 52, 53, 54, 55, 56, 57, 58, 59, 60, 61, 62] (fun mz g w => ∃ (j : Nat), mz = n2 - j ∧ g 10 = .int .i64 (j : Int) ∧ St [] w0 [.blk g5_3 28 (hL (cntB m j)), .blk g5_1 28 (hL (cntB l k)), .vw A1 (l.map u64v), .vw A2 (m.map u64v)] w ∧ (j ≤ n2)) ?_ ?_
        · exact ⟨_, 0, rfl, (by first | rfl | go_num | exact congrArg (Value.int _) (by first | omega | (simp; done) | (simp; omega))), (hS.pick [1, 0, 2, 3] rfl rfl), (by omega)⟩
        · clear hS; intro mz g w hI
          obtain ⟨j, rfl, hs10, hS, hj⟩ := hI
          refine fr_know (d := 10) hs10 ?_; clear hs10
          refine wp_seq_k ?_; intro K16 hK16
          refine wp_seq_k ?_; intro K17 hK17
          refine wlit ?_
          refine wl_v (x_move (tmI rfl rfl)) ?_
          refine wl_v (x_move (tmS rfl rfl)) ?_
          refine wl_v (x_len Try.underlying22 (tmS rfl rfl)) ?_
          refine wl_v (x_lss (tmI rfl rfl) (tmI rfl rfl)) ?_
          refine wl_nil ?_
          refine then_n (hK17 _ _ ?_); clear hK17 K17
          refine cnd (tm rfl) (fun hc3 => ?_) (fun hc3 => ?_)
          · try (exfalso; first | with_reducible exact absurd hc3 Bool.false_ne_true | with_reducible exact absurd hc3.symm Bool.false_ne_true | (simp only [nrm] at hc3; omega) | (simp at hc3; done))
            all_goals
             try simp only [nrm] at hc3
             obtain ⟨b5, o5, rfl⟩ := view_some hv2 (by rw [List.length_map]; omega)
             have hcl := cnt_le m j (bl (m.getD j 0))
             have hbj := hb2 j (by omega)
             refine wp_skip ?_
             refine then_n (hK16 _ _ ?_); clear hK16 K16
             refine wp_seq_k ?_; intro K18 hK18
             refine wp_block ?_
             refine wlit ?_
             refine wl_v (x_move (tmP rfl rfl)) ?_
             refine wl_v (x_move (tmS rfl rfl)) ?_
             refine wl_v (x_move (tmI rfl rfl)) ?_
             refine wl_v (x_ixs1 Try.underlying22 ts_25 (tmS rfl rfl) (tmI rfl rfl) (by omega)) ?_
             first
              | refine wl_v (x_load Try.underlying25 rfl (tmP rfl rfl) (cellV hS.ok 2 rfl rfl)) ?_
              | refine wl_v (x_load Try.underlying25 rfl (tmP rfl rfl) (cellV hS.ok 2 rfl (getm (by omega)))) ?_
              | refine wl_v (x_load Try.underlying25 rfl (tmP rfl rfl) (cellVs hS.ok 2 rfl (fun _ => rfl) rfl (by omega) rfl)) ?_
              | refine wl_v (x_load Try.underlying25 rfl (tmP rfl rfl) (cellV hS.ok 3 rfl rfl)) ?_
              | refine wl_v (x_load Try.underlying25 rfl (tmP rfl rfl) (cellV hS.ok 3 rfl (getm (by omega)))) ?_
              | refine wl_v (x_load Try.underlying25 rfl (tmP rfl rfl) (cellVs hS.ok 3 rfl (fun _ => rfl) rfl (by omega) rfl)) ?_
             refine wl_e rfl ?_; intro K hK
             refine ow_call Try.func5 rfl rfl (evs_cons (tmP rfl rfl) <| evs_cons (tmI rfl rfl) <| evs_nil) (add_c _ g5_3 (cntB m j) (m.getD j 0) _ (hS.enter [0] [] rfl rfl) hbj (by omega)) ?_
             rintro e w ⟨rfl, hS2⟩
             refine ⟨_, rfl, ?_⟩
             replace hS := hS.leave [0] [1, 2, 3] rfl rfl rfl (hS2.pick [0] rfl rfl) rfl
             clear hS2
             rw [cnt_step] at hS
             try replace hS := St.nm (M' := [.blk _ _ [_, _, _, _, _, _, _, _, _, _, _, _, _, _, _, _, _, _, _, _, _, _, _, _, _, _, _, _, _, _, _, _, _, _, _, _, _, _, _, _, _, _, _, _, _, _, _, _, _, _, _, _, _, _, _, _, _, _, _, _, _, _, _, _, _], .blk _ _ [_, _, _, _, _, _, _, _, _, _, _, _, _, _, _, _, _, _, _, _, _, _, _, _, _, _, _, _, _, _, _, _, _, _, _, _, _, _, _, _, _, _, _, _, _, _, _, _, _, _, _, _, _, _, _, _, _, _, _, _, _, _, _, _, _], .vw _ _, .vw _ _]) hS rfl
             refine hK _ _ ?_; clear hK K
             refine wl_nil ?_
             refine inb_n ?_
             refine then_n (hK18 _ _ ?_); clear hK18 K18
             refine wlit ?_
             refine wl_v (x_move (tmI rfl rfl)) ?_
             first
              | refine wl_v (x_addN (tmI rfl rfl) (ev_cN 1) (fit_i64 (by omega))) ?_
              | refine wl_v (x_addI (tmI rfl rfl) (ev_cN 1) (IntWalk.i64_in _ (by omega))) ?_
              | refine wl_v (x_add (tmI rfl rfl) (ev_cN 1)) ?_
             refine wl_v (x_assign (tmI rfl rfl)) ?_
             refine wl_nil ?_
             exact then_n ⟨_, _, rfl, (by show _ < _; omega), (by repeat (first | exact agree_self | exact agree_refl | refine agree_upd rfl ?_ | refine agree_mix rfl ?_)), j + 1, rfl, (by first | rfl | go_num | exact congrArg (Value.int _) (by first | omega | (simp; done) | (simp; omega))), hS, (by omega)⟩
          try (exfalso; first | with_reducible exact absurd hc3 Bool.false_ne_true | with_reducible exact absurd hc3.symm Bool.false_ne_true | (simp only [nrm] at hc3; omega) | (simp at hc3; done))
          all_goals
           try simp only [nrm] at hc3
           refine wp_exit ?_
           refine then_x ?_; clear hK16 K16
           refine then_x ?_
           refine inb_x ?_
           refine then_n (hK14 _ _ ?_); clear hK14 K14
           refine wp_seq_k ?_; intro K19 hK19
           refine wp_seq_k ?_; intro K20 hK20
           obtain rfl : j = n2 := by omega
           refine wlit ?_
           refine wl_v (x_move (tmI rfl rfl)) ?_
           refine wl_e rfl ?_; intro K hK
           refine ow_build hS Try.underlying30 tz_3 (bc_take (tmI rfl rfl) <| bc_take (ev_cN 0) <| bc_take (ev_cN 50) <| bc_take (ev_cN 99) <| bc_take (ev_cN 100) <| bc_nil) rfl rfl (by kernel_rfl) ?_
           clear hS; intro g14_1 w hg14_1 hS
           refine hK _ _ ?_; clear hK K
           refine wl_v (x_len Try.underlying30 (tmS rfl rfl)) ?_
           refine wl_v (x_move (ev_cN 0)) ?_
           refine wl_nil ?_
           refine then_n (hK20 _ _ ?_); clear hK20 K20
           refine wp_block ?_
           refine lp [6, 12, 13, 14, 15, 16, 66, 67, 68, 69, 70, 71, 72, 73, 74, 75, 76, 77, 78, 79, 80, 81, 82, 83, 84, 85, 86, 87, 88, 89, 90] (fun mz g w => ∃ (t : Nat), mz = 5 - t ∧ g 66 = .int .i64 (t : Int) ∧ St [] w0 [.blk g14_1 3 ((pL p).map i64v), .blk g5_3 28 (hL (cntB m j)), .blk g5_1 28 (hL (cntB l k)), .vw A1 (l.map u64v), .vw A2 (m.map u64v)] w ∧ (t ≤ 5)) ?_ ?_
           · exact ⟨_, 0, rfl, (by first | rfl | go_num | exact congrArg (Value.int _) (by first | omega | (simp; done) | (simp; omega))), hS, (by omega)⟩
           · clear hS; intro mz g w hI
             obtain ⟨t, rfl, hs66, hS, ht⟩ := hI
             refine fr_know (d := 66) hs66 ?_; clear hs66
             refine wp_seq_k ?_; intro K21 hK21
             refine wlit ?_
             refine wl_v (x_lss (tmI rfl rfl) (tmI rfl rfl)) ?_
             refine wl_nil ?_
             refine then_n (hK21 _ _ ?_); clear hK21 K21
             refine wp_seq_k ?_; intro K22 hK22
             refine cnd (tm rfl) (fun hc4 => ?_) (fun hc4 => ?_)
             · try (exfalso; first | with_reducible exact absurd hc4 Bool.false_ne_true | with_reducible exact absurd hc4.symm Bool.false_ne_true | (simp only [nrm] at hc4; omega) | (simp at hc4; done))
               all_goals
                try simp only [nrm] at hc4
                refine wp_skip ?_
                refine then_n (hK22 _ _ ?_); clear hK22 K22
                refine wp_seq_k ?_; intro K23 hK23
                refine wp_block ?_
                refine wp_seq_k ?_; intro K24 hK24
                refine wlit ?_
                refine wl_v (x_ixs1 Try.underlying30 ts_3 (tmS rfl rfl) (tmI rfl rfl) (by omega)) ?_
                refine wl_v (x_load Try.underlying3 rfl (tmP rfl rfl) (cellB hS.ok 0 rfl (getm (by show 0 + t < 5; omega)))) ?_
                refine wl_v (x_assign (tmI rfl rfl)) ?_
                refine wl_nil ?_
                refine then_n (hK24 _ _ ?_); clear hK24 K24
                refine wp_seq_k ?_; intro K25 hK25
                refine wlit ?_
                refine wl_v (x_move (tmP rfl rfl)) ?_
                refine wl_v (x_move (tmI rfl rfl)) ?_
                refine wl_e rfl ?_; intro K hK
                refine ow_call Try.func6 rfl rfl (evs_cons (tmP rfl rfl) <| evs_cons (tmI rfl rfl) <| evs_nil) (below_c g5_1 (cntB l k) k _ _ (viewB hS.ok 2 rfl) (cum_full k hb1) (by omega)) ?_
                rintro e w ⟨v1, ok1, rfl, hB1, hk1⟩
                refine ⟨_, rfl, ?_⟩
                replace hS := hS.kept hk1
                clear hk1
                refine hK _ _ ?_; clear hK K
                refine wl_v (x_move (tmT rfl rfl)) ?_
                refine wl_v (x_ext (tmT rfl rfl) rfl) ?_
                refine wl_v (x_ext (tmT rfl rfl) rfl) ?_
                refine wl_v (x_assign (tmI rfl rfl)) ?_
                refine wl_v (x_assign (tmB rfl rfl)) ?_
                refine wl_nil ?_
                refine then_n (hK25 _ _ ?_); clear hK25 K25
                refine wp_seq_k ?_; intro K26 hK26
                refine wlit ?_
                refine wl_v (x_move (tmS rfl rfl)) ?_
                refine wl_v (x_move (tmI rfl rfl)) ?_
                refine wl_e rfl ?_; intro K hK
                refine ow_call Try.func7 rfl rfl (evs_cons (tmS rfl rfl) <| evs_cons (tmI rfl rfl) <| evs_nil) (rbelow_c k A1 c1 l _ _ (viewV hS.ok 3 rfl) hl (by omega) hb1) ?_
                rintro e w ⟨v2, ok2, rfl, hB2, hk1⟩
                refine ⟨_, rfl, ?_⟩
                replace hS := hS.kept hk1
                clear hk1
                obtain ⟨rfl, rfl⟩ := hB1.uniq hB2
                refine hK _ _ ?_; clear hK K
                refine wl_v (x_move (tmT rfl rfl)) ?_
                refine wl_v (x_ext (tmT rfl rfl) rfl) ?_
                refine wl_v (x_ext (tmT rfl rfl) rfl) ?_
                refine wl_v (x_assign (tmI rfl rfl)) ?_
                refine wl_v (x_assign (tmB rfl rfl)) ?_
                refine wl_nil ?_
                refine then_n (hK26 _ _ ?_); clear hK26 K26
                refine wp_seq_k ?_; intro K27 hK27
                refine wlit ?_
                refine wl_v (x_move (tmI rfl rfl)) ?_
                refine wl_v (x_move (tmI rfl rfl)) ?_
                refine wl_v (x_neq (tmI rfl rfl) (tmI rfl rfl)) ?_
                refine wl_v (x_move (tmB rfl rfl)) ?_
                refine gs_wl (tm (t := 85) rfl) (fun hg19_3 => ?_) (fun hg19_3 => ?_)
                · exfalso
                  simp at hg19_3
                have hg19_3' := hg19_3; (try simp only [nrm] at hg19_3'); try (exfalso; first | with_reducible exact absurd hg19_3 Bool.false_ne_true | with_reducible exact absurd hg19_3.symm Bool.false_ne_true | omega | (simp at hg19_3; done))
                all_goals
                 refine wl_gv (want_y rfl rfl rfl rfl (by rw [hg19_3]; rfl)) (x_move (tmB rfl rfl)) ?_
                 refine wl_gv (want_y rfl rfl rfl rfl (by rw [hg19_3]; rfl)) (x_move (tmB rfl rfl)) ?_
                 refine wl_gv (want_y rfl rfl rfl rfl (by rw [hg19_3]; rfl)) (x_bneq Try.underlying4 (tmB rfl rfl) (tmB rfl rfl)) ?_
                 refine wl_v (x_pickF (tmB rfl rfl) hg19_3 (tmB rfl rfl)) ?_
                 refine wl_nil ?_
                 refine then_n (hK27 _ _ ?_); clear hK27 K27
                 refine cnd (tm rfl) (fun hc5 => ?_) (fun hc5 => ?_)
                 · exfalso
                   simp at hc5
                 try (exfalso; first | with_reducible exact absurd hc5 Bool.false_ne_true | with_reducible exact absurd hc5.symm Bool.false_ne_true | (simp only [nrm] at hc5; omega) | (simp at hc5; done))
                 all_goals
                  try simp only [nrm] at hc5
                  refine wp_skip ?_
                  refine inb_n ?_
                  refine then_n (hK23 _ _ ?_); clear hK23 K23
                  refine wlit ?_
                  first
                   | refine wl_v (x_addN (tmI rfl rfl) (ev_cN 1) (fit_i64 (by omega))) ?_
                   | refine wl_v (x_addI (tmI rfl rfl) (ev_cN 1) (IntWalk.i64_in _ (by omega))) ?_
                   | refine wl_v (x_add (tmI rfl rfl) (ev_cN 1)) ?_
                  refine wl_v (x_move (tmI rfl rfl)) ?_
                  refine wl_nil ?_
                  exact then_n ⟨_, _, rfl, (by show _ < _; omega), (by repeat (first | exact agree_self | exact agree_refl | refine agree_upd rfl ?_ | refine agree_mix rfl ?_)), t + 1, rfl, (by first | rfl | go_num | exact congrArg (Value.int _) (by first | omega | (simp; done) | (simp; omega))), hS, (by omega)⟩
             try (exfalso; first | with_reducible exact absurd hc4 Bool.false_ne_true | with_reducible exact absurd hc4.symm Bool.false_ne_true | (simp only [nrm] at hc4; omega) | (simp at hc4; done))
             all_goals
              try simp only [nrm] at hc4
              refine wp_exit ?_
              refine then_x ?_; clear hK22 K22
              refine then_x ?_
              refine inb_x ?_
              refine then_n (hK19 _ _ ?_); clear hK19 K19
              refine wp_seq_k ?_; intro K28 hK28
              refine wlit ?_
              refine wl_v (x_move (tmP rfl rfl)) ?_
              refine wl_v (x_move (tmP rfl rfl)) ?_
              refine wl_e rfl ?_; intro K hK
              refine ow_call Try.func8 rfl rfl (evs_cons (tmP rfl rfl) <| evs_cons (tmP rfl rfl) <| evs_nil) (join_c _ g5_1 (cntB l k) (cntB m j) g5_3 _ (hS.enter [2] [1] rfl rfl) (fun i => by have := cnt_le l k i; omega) (fun i => by have := cnt_le m j i; omega)) ?_
              rintro e w ⟨rfl, hS2⟩
              refine ⟨_, rfl, ?_⟩
              replace hS := hS.leave [2] [1, 3, 4] rfl rfl rfl (hS2.pick [0] rfl rfl) rfl -- --ents g5_1,g5_3,vl,vm
              clear hS2
              try replace hS := St.nm (M' := [.blk _ _ [_, _, _, _, _, _, _, _, _, _, _, _, _, _, _, _, _, _, _, _, _, _, _, _, _, _, _, _, _, _, _, _, _, _, _, _, _, _, _, _, _, _, _, _, _, _, _, _, _, _, _, _, _, _, _, _, _, _, _, _, _, _, _, _, _], .blk _ _ [_, _, _, _, _, _, _, _, _, _, _, _, _, _, _, _, _, _, _, _, _, _, _, _, _, _, _, _, _, _, _, _, _, _, _, _, _, _, _, _, _, _, _, _, _, _, _, _, _, _, _, _, _, _, _, _, _, _, _, _, _, _, _, _, _], .vw _ _, .vw _ _]) hS rfl
              refine hK _ _ ?_; clear hK K
              refine wl_nil ?_
              refine then_n (hK28 _ _ ?_); clear hK28 K28
              refine wp_seq_k ?_; intro K29 hK29
              refine wlit ?_
              refine wl_v (x_move (tmP rfl rfl)) ?_
              refine wl_v (x_move (tmI rfl rfl)) ?_
              refine wl_e rfl ?_; intro K hK
              refine ow_call Try.func6 rfl rfl (evs_cons (tmP rfl rfl) <| evs_cons (tmI rfl rfl) <| evs_nil) (below_c g5_1 (fun i => cntB l k i + cntB m j i) (k + j) p _ (viewB hS.ok 0 rfl) (by rw [cum_add, cum_full k hb1, cum_full j hb2]) (by omega)) ?_
              rintro e w ⟨v3, ok3, rfl, hB3, hk1⟩
              refine ⟨_, rfl, ?_⟩
              replace hS := hS.kept hk1
              clear hk1
              refine hK _ _ ?_; clear hK K
              refine wl_v (x_move (tmT rfl rfl)) ?_
              refine wl_v (x_ext (tmT rfl rfl) rfl) ?_
              refine wl_v (x_ext (tmT rfl rfl) rfl) ?_
              refine wl_v (x_assign (tmI rfl rfl)) ?_
              refine wl_v (x_assign (tmB rfl rfl)) ?_
              refine wl_nil ?_
              refine then_n (hK29 _ _ ?_); clear hK29 K29
              refine wp_seq_k ?_; intro K30 hK30
              have hbb : ∀ i, i < 0 + k + j → (l ++ m).getD i 0 < 18446744073709551616 := by
                intro i hi
                by_cases h : i < k
                · rw [List.getD_eq_getElem?_getD, List.getElem?_append_left (by omega), ← List.getD_eq_getElem?_getD]
                  exact hb1 i h
                · rw [List.getD_eq_getElem?_getD, List.getElem?_append_right (by omega), ← List.getD_eq_getElem?_getD]
                  exact hb2 _ (by omega)
              have hfun : (fun i => cntB l k i + cntB m j i) = cntB (l ++ m) (0 + k + j) := by
                funext i
                have h := cnt_app l m j i
                rw [hl] at h
                rw [Nat.zero_add]
                exact h.symm
              refine wlit ?_
              refine wl_e rfl ?_; intro K hK
              refine ow_build0 hS Try.underlying22 tz_25 rfl rfl ?_
              clear hS; intro g24_0 w hg24_0 hS
              refine hK _ _ ?_; clear hK K
              refine wl_v (x_move (tmS rfl rfl)) ?_
              refine wl_e rfl ?_; intro K hK
              first
               | (refine ow_append hS 0 1 rfl rfl Try.underlying22 tz_25 rfl (tmS rfl rfl) (tmS rfl rfl) rfl ⟨by decide, by decide, rfl⟩ (by simp only [maxLen]; omega) (by omega) ?_; clear hS; intro g24_2 cg24_2 w hS)
               | (refine ow_append hS 0 2 rfl rfl Try.underlying22 tz_25 rfl (tmS rfl rfl) (tmS rfl rfl) rfl ⟨by decide, by decide, rfl⟩ (by simp only [maxLen]; omega) (by omega) ?_; clear hS; intro g24_2 cg24_2 w hS)
               | (refine ow_append hS 0 3 rfl rfl Try.underlying22 tz_25 rfl (tmS rfl rfl) (tmS rfl rfl) rfl ⟨by decide, by decide, rfl⟩ (by simp only [maxLen]; omega) (by omega) ?_; clear hS; intro g24_2 cg24_2 w hS)
               | (refine ow_append hS 0 4 rfl rfl Try.underlying22 tz_25 rfl (tmS rfl rfl) (tmS rfl rfl) rfl ⟨by decide, by decide, rfl⟩ (by simp only [maxLen]; omega) (by omega) ?_; clear hS; intro g24_2 cg24_2 w hS)
               | (refine ow_appendV hS 0 rfl (viewR hS.ok 0 rfl) Try.underlying22 tz_25 rfl (tmS rfl rfl) (tmS rfl rfl) (by first | exact u8v_one _ | (intro u hu; simp at hu; first | (rcases hu with rfl | rfl <;> rfl) | (obtain ⟨_, _, rfl⟩ := hu; rfl))) ⟨by decide, by first | rfl | (simp; done) | (simp; omega)⟩ (by simp only [maxLen]; omega) (by omega) ?_; clear hS; intro g24_2 cg24_2 w hAg24_2 hCg24_2 hS)
               | (refine ow_appendV hS 0 rfl (viewV hS.ok 3 rfl) Try.underlying22 tz_25 rfl (tmS rfl rfl) (tmS rfl rfl) (by first | exact u8v_one _ | (intro u hu; simp at hu; first | (rcases hu with rfl | rfl <;> rfl) | (obtain ⟨_, _, rfl⟩ := hu; rfl))) ⟨by decide, by first | rfl | (simp; done) | (simp; omega)⟩ (by simp only [maxLen]; omega) (by omega) ?_; clear hS; intro g24_2 cg24_2 w hAg24_2 hCg24_2 hS)
               | (refine ow_appendV hS 0 rfl (viewV hS.ok 4 rfl) Try.underlying22 tz_25 rfl (tmS rfl rfl) (tmS rfl rfl) (by first | exact u8v_one _ | (intro u hu; simp at hu; first | (rcases hu with rfl | rfl <;> rfl) | (obtain ⟨_, _, rfl⟩ := hu; rfl))) ⟨by decide, by first | rfl | (simp; done) | (simp; omega)⟩ (by simp only [maxLen]; omega) (by omega) ?_; clear hS; intro g24_2 cg24_2 w hAg24_2 hCg24_2 hS)
               | (refine ow_appendV hS 0 rfl View.nil_ Try.underlying22 tz_25 rfl (tmS rfl rfl) (tmS rfl rfl) (by first | exact u8v_one _ | (intro u hu; simp at hu; first | (rcases hu with rfl | rfl <;> rfl) | (obtain ⟨_, _, rfl⟩ := hu; rfl))) ⟨by decide, by first | rfl | (simp; done) | (simp; omega)⟩ (by simp only [maxLen]; omega) (by omega) ?_; clear hS; intro g24_2 cg24_2 w hAg24_2 hCg24_2 hS)
              refine hK _ _ ?_; clear hK K
              refine wl_v (x_move (tmS rfl rfl)) ?_
              refine wl_e rfl ?_; intro K hK
              first
               | (refine ow_append hS 0 1 rfl rfl Try.underlying22 tz_25 rfl (tmS rfl rfl) (tmS rfl rfl) rfl ⟨by decide, by decide, rfl⟩ (by simp only [maxLen]; omega) (by omega) ?_; clear hS; intro g24_4 cg24_4 w hS)
               | (refine ow_append hS 0 2 rfl rfl Try.underlying22 tz_25 rfl (tmS rfl rfl) (tmS rfl rfl) rfl ⟨by decide, by decide, rfl⟩ (by simp only [maxLen]; omega) (by omega) ?_; clear hS; intro g24_4 cg24_4 w hS)
               | (refine ow_append hS 0 3 rfl rfl Try.underlying22 tz_25 rfl (tmS rfl rfl) (tmS rfl rfl) rfl ⟨by decide, by decide, rfl⟩ (by simp only [maxLen]; omega) (by omega) ?_; clear hS; intro g24_4 cg24_4 w hS)
               | (refine ow_append hS 0 4 rfl rfl Try.underlying22 tz_25 rfl (tmS rfl rfl) (tmS rfl rfl) rfl ⟨by decide, by decide, rfl⟩ (by simp only [maxLen]; omega) (by omega) ?_; clear hS; intro g24_4 cg24_4 w hS)
               | (refine ow_appendV hS 0 rfl (viewR hS.ok 0 rfl) Try.underlying22 tz_25 rfl (tmS rfl rfl) (tmS rfl rfl) (by first | exact u8v_one _ | (intro u hu; simp at hu; first | (rcases hu with rfl | rfl <;> rfl) | (obtain ⟨_, _, rfl⟩ := hu; rfl))) ⟨by decide, by first | rfl | (simp; done) | (simp; omega)⟩ (by simp only [maxLen]; omega) (by omega) ?_; clear hS; intro g24_4 cg24_4 w hAg24_4 hCg24_4 hS)
               | (refine ow_appendV hS 0 rfl (viewV hS.ok 3 rfl) Try.underlying22 tz_25 rfl (tmS rfl rfl) (tmS rfl rfl) (by first | exact u8v_one _ | (intro u hu; simp at hu; first | (rcases hu with rfl | rfl <;> rfl) | (obtain ⟨_, _, rfl⟩ := hu; rfl))) ⟨by decide, by first | rfl | (simp; done) | (simp; omega)⟩ (by simp only [maxLen]; omega) (by omega) ?_; clear hS; intro g24_4 cg24_4 w hAg24_4 hCg24_4 hS)
               | (refine ow_appendV hS 0 rfl (viewV hS.ok 4 rfl) Try.underlying22 tz_25 rfl (tmS rfl rfl) (tmS rfl rfl) (by first | exact u8v_one _ | (intro u hu; simp at hu; first | (rcases hu with rfl | rfl <;> rfl) | (obtain ⟨_, _, rfl⟩ := hu; rfl))) ⟨by decide, by first | rfl | (simp; done) | (simp; omega)⟩ (by simp only [maxLen]; omega) (by omega) ?_; clear hS; intro g24_4 cg24_4 w hAg24_4 hCg24_4 hS)
               | (refine ow_appendV hS 0 rfl View.nil_ Try.underlying22 tz_25 rfl (tmS rfl rfl) (tmS rfl rfl) (by first | exact u8v_one _ | (intro u hu; simp at hu; first | (rcases hu with rfl | rfl <;> rfl) | (obtain ⟨_, _, rfl⟩ := hu; rfl))) ⟨by decide, by first | rfl | (simp; done) | (simp; omega)⟩ (by simp only [maxLen]; omega) (by omega) ?_; clear hS; intro g24_4 cg24_4 w hAg24_4 hCg24_4 hS)
              refine hK _ _ ?_; clear hK K
              refine wl_v (x_move (tmI rfl rfl)) ?_
              refine wl_e rfl ?_; intro K hK
              refine ow_call Try.func7 rfl rfl (evs_cons (tmS rfl rfl) <| evs_cons (tmI rfl rfl) <| evs_nil) (rbelow_c (0 + k + j) _ _ (l ++ m) p _ (by have hq := viewR hS.ok 0 rfl; rw [List.map_append]; exact hq) (by rw [List.length_append]; omega) (by omega) hbb) ?_
              rintro e w ⟨v4, ok4, rfl, hB4, hk1⟩
              refine ⟨_, rfl, ?_⟩
              replace hS := hS.kept hk1
              clear hk1
              rw [← hfun, Nat.zero_add] at hB4
              obtain ⟨rfl, rfl⟩ := hB3.uniq hB4
              refine hK _ _ ?_; clear hK K
              refine wl_v (x_move (tmT rfl rfl)) ?_
              refine wl_v (x_ext (tmT rfl rfl) rfl) ?_
              refine wl_v (x_ext (tmT rfl rfl) rfl) ?_
              refine wl_v (x_assign (tmI rfl rfl)) ?_
              refine wl_v (x_assign (tmB rfl rfl)) ?_
              refine wl_nil ?_
              refine then_n (hK30 _ _ ?_); clear hK30 K30
              refine wp_seq_k ?_; intro K31 hK31
              refine wlit ?_
              refine wl_v (x_assign ev_c) ?_
              refine wl_nil ?_
              refine then_n (hK31 _ _ ?_); clear hK31 K31
              refine wp_seq_k ?_; intro K32 hK32
              refine wlit ?_
              refine wl_v (x_move (tmP rfl rfl)) ?_
              refine wl_e rfl ?_; intro K hK
              refine ow_call Try.func5 rfl rfl (evs_cons (tmP rfl rfl) <| evs_cons (ev_cN 1) <| evs_nil) (add_nil_c _ _) ?_
              rintro e w ⟨rfl, hk1⟩
              refine ⟨_, rfl, ?_⟩
              replace hS := hS.kept hk1
              clear hk1
              refine hK _ _ ?_; clear hK K
              refine wl_nil ?_
              refine then_n (hK32 _ _ ?_); clear hK32 K32
              refine wp_seq_k ?_; intro K33 hK33
              refine wlit ?_
              refine wl_v (x_move (tmP rfl rfl)) ?_
              refine wl_v (x_move (tmP rfl rfl)) ?_
              refine wl_e rfl ?_; intro K hK
              refine ow_call Try.func8 rfl rfl (evs_cons (tmP rfl rfl) <| evs_cons (tmP rfl rfl) <| evs_nil) (join_nil_c _ _) ?_
              rintro e w ⟨rfl, hk1⟩
              refine ⟨_, rfl, ?_⟩
              replace hS := hS.kept hk1
              clear hk1
              refine hK _ _ ?_; clear hK K
              refine wl_nil ?_
              refine then_n (hK33 _ _ ?_); clear hK33 K33
              refine wp_seq_k ?_; intro K34 hK34
              refine wlit ?_
              refine wl_v (x_move (tmP rfl rfl)) ?_
              refine wl_e rfl ?_; intro K hK
              refine ow_call Try.func6 rfl rfl (evs_cons (tmP rfl rfl) <| evs_cons (ev_cN 50) <| evs_nil) (below_nil_c _ _) ?_
              rintro e w ⟨rfl, hk1⟩
              refine ⟨_, rfl, ?_⟩
              replace hS := hS.kept hk1
              clear hk1
              refine hK _ _ ?_; clear hK K
              refine wl_v (x_move (tmT rfl rfl)) ?_
              refine wl_v (x_ext (tmT rfl rfl) rfl) ?_
              refine wl_v (x_ext (tmT rfl rfl) rfl) ?_
              refine wl_v (x_assign (tmI rfl rfl)) ?_
              refine wl_v (x_assign (tmB rfl rfl)) ?_
              refine wl_nil ?_
              refine then_n (hK34 _ _ ?_); clear hK34 K34
              refine wp_seq_k ?_; intro K35 hK35
              refine wlit ?_
              refine wl_v (x_move (tmI rfl rfl)) ?_
              refine wl_v (x_move (tmI rfl rfl)) ?_
              refine wl_v (x_eql (tmI rfl rfl) (tmI rfl rfl)) ?_
              refine wl_v (x_move (tmB rfl rfl)) ?_
              refine gs_wls (tm (t := 123) rfl) (fun hg29_3 => ?_) (fun hg29_3 => ?_)
              · exfalso
                simp at hg29_3
              have hg29_3' := hg29_3; (try simp only [nrm] at hg29_3'); try (exfalso; first | with_reducible exact absurd hg29_3 Bool.false_ne_true | with_reducible exact absurd hg29_3.symm Bool.false_ne_true | omega | (simp at hg29_3; done))
              all_goals
               refine wl_gv (want_y rfl rfl rfl rfl (by rw [hg29_3]; rfl)) (x_move (tmB rfl rfl)) ?_
               refine wl_gv (want_y rfl rfl rfl rfl (by rw [hg29_3]; rfl)) (x_move (tmB rfl rfl)) ?_
               refine wl_gv (want_y rfl rfl rfl rfl (by rw [hg29_3]; rfl)) (x_beql Try.underlying4 (tmB rfl rfl) (tmB rfl rfl)) ?_
               refine wl_v (x_pickT (tmB rfl rfl) hg29_3 (tmB rfl rfl)) ?_
               refine wl_v (x_move (tmB rfl rfl)) ?_
               refine gs_wls (tm (t := 128) rfl) (fun hg29_8 => ?_) (fun hg29_8 => ?_)
               · exfalso
                 simp at hg29_8
               have hg29_8' := hg29_8; (try simp only [nrm] at hg29_8'); try (exfalso; first | with_reducible exact absurd hg29_8 Bool.false_ne_true | with_reducible exact absurd hg29_8.symm Bool.false_ne_true | omega | (simp at hg29_8; done))
               all_goals
                refine wl_gv (want_y rfl rfl rfl rfl (by rw [hg29_8]; rfl)) (x_move (tmP rfl rfl)) ?_
                refine wl_g (want_y rfl rfl rfl rfl (by rw [hg29_8]; rfl)) ?_; intro K hK
                refine ow_call Try.func9 rfl rfl (evs_cons (tmP rfl rfl) <| evs_nil) (total_c g5_1 (fun i => cntB l k i + cntB m j i) _ (viewB hS.ok 1 rfl) (by rw [cum_add, cum_full k hb1, cum_full j hb2]; omega)) ?_
                rintro e w ⟨rfl, hk1⟩
                refine ⟨_, rfl, ?_⟩
                replace hS := hS.kept hk1
                clear hk1
                rw [cum_add, cum_full k hb1, cum_full j hb2]
                refine hK _ _ ?_; clear hK K
                refine wl_gv (want_y rfl rfl rfl rfl (by rw [hg29_8]; rfl)) (x_move (tmS rfl rfl)) ?_
                refine wl_gv (want_y rfl rfl rfl rfl (by rw [hg29_8]; rfl)) (x_len Try.underlying22 (tmS rfl rfl)) ?_
                refine wl_gv (want_y rfl rfl rfl rfl (by rw [hg29_8]; rfl)) (x_move (tmS rfl rfl)) ?_
                refine wl_gv (want_y rfl rfl rfl rfl (by rw [hg29_8]; rfl)) (x_len Try.underlying22 (tmS rfl rfl)) ?_
                first
                 | refine wl_gv (want_y rfl rfl rfl rfl (by rw [hg29_8]; rfl)) (x_addN (tmI rfl rfl) (tmI rfl rfl) (fit_i64 (by omega))) ?_
                 | refine wl_gv (want_y rfl rfl rfl rfl (by rw [hg29_8]; rfl)) (x_addI (tmI rfl rfl) (tmI rfl rfl) (IntWalk.i64_in _ (by omega))) ?_
                 | refine wl_gv (want_y rfl rfl rfl rfl (by rw [hg29_8]; rfl)) (x_add (tmI rfl rfl) (tmI rfl rfl)) ?_
                first
                 | refine wl_gv (want_y rfl rfl rfl rfl (by rw [hg29_8]; rfl)) (x_convN Try.underlying3 Try.underlying25 (tmI rfl rfl) (fit_u64 (by omega))) ?_
                 | refine wl_gv (want_y rfl rfl rfl rfl (by rw [hg29_8]; rfl)) (x_convU Try.underlying3 Try.underlying25 (tmI rfl rfl) rfl) ?_
                 | refine wl_gv (want_y rfl rfl rfl rfl (by rw [hg29_8]; rfl)) (x_conv Try.underlying3 Try.underlying25 (tmI rfl rfl)) ?_
                refine wl_gv (want_y rfl rfl rfl rfl (by rw [hg29_8]; rfl)) (x_eql (tmI rfl rfl) (tmI rfl rfl)) ?_
                refine wl_v (x_pickT (tmB rfl rfl) hg29_8 (tmB rfl rfl)) ?_
                refine wl_v (x_move (tmB rfl rfl)) ?_
                refine gs_wls (tm (t := 139) rfl) (fun hg29_19 => ?_) (fun hg29_19 => ?_)
                · exfalso
                  simp at hg29_19
                have hg29_19' := hg29_19; (try simp only [nrm] at hg29_19'); try (exfalso; first | with_reducible exact absurd hg29_19 Bool.false_ne_true | with_reducible exact absurd hg29_19.symm Bool.false_ne_true | omega | (simp at hg29_19; done))
                all_goals
                 refine wl_gv (want_y rfl rfl rfl rfl (by rw [hg29_19]; rfl)) (x_move (tmP rfl rfl)) ?_
                 refine wl_g (want_y rfl rfl rfl rfl (by rw [hg29_19]; rfl)) ?_; intro K hK
                 refine ow_call Try.func9 rfl rfl (evs_cons (tmP rfl rfl) <| evs_nil) (total_c g5_3 (cntB m j) _ (viewB hS.ok 2 rfl) (by rw [cum_full j hb2]; omega)) ?_
                 rintro e w ⟨rfl, hk1⟩
                 refine ⟨_, rfl, ?_⟩
                 replace hS := hS.kept hk1
                 clear hk1
                 rw [cum_full j hb2]
                 refine hK _ _ ?_; clear hK K
                 refine wl_gv (want_y rfl rfl rfl rfl (by rw [hg29_19]; rfl)) (x_move (tmS rfl rfl)) ?_
                 refine wl_gv (want_y rfl rfl rfl rfl (by rw [hg29_19]; rfl)) (x_len Try.underlying22 (tmS rfl rfl)) ?_
                 first
                  | refine wl_gv (want_y rfl rfl rfl rfl (by rw [hg29_19]; rfl)) (x_convN Try.underlying3 Try.underlying25 (tmI rfl rfl) (fit_u64 (by omega))) ?_
                  | refine wl_gv (want_y rfl rfl rfl rfl (by rw [hg29_19]; rfl)) (x_convU Try.underlying3 Try.underlying25 (tmI rfl rfl) rfl) ?_
                  | refine wl_gv (want_y rfl rfl rfl rfl (by rw [hg29_19]; rfl)) (x_conv Try.underlying3 Try.underlying25 (tmI rfl rfl)) ?_
                 refine wl_gv (want_y rfl rfl rfl rfl (by rw [hg29_19]; rfl)) (x_eql (tmI rfl rfl) (tmI rfl rfl)) ?_
                 refine wl_v (x_pickT (tmB rfl rfl) hg29_19 (tmB rfl rfl)) ?_
                 refine wl_v (x_move (tmB rfl rfl)) ?_
                 refine gs_wls (tm (t := 147) rfl) (fun hg29_27 => ?_) (fun hg29_27 => ?_)
                 · exfalso
                   simp at hg29_27
                 have hg29_27' := hg29_27; (try simp only [nrm] at hg29_27'); try (exfalso; first | with_reducible exact absurd hg29_27 Bool.false_ne_true | with_reducible exact absurd hg29_27.symm Bool.false_ne_true | omega | (simp at hg29_27; done))
                 all_goals
                  refine wl_gv (want_y rfl rfl rfl rfl (by rw [hg29_27]; rfl)) (x_move (tmB rfl rfl)) ?_
                  refine wl_gv (want_y rfl rfl rfl rfl (by rw [hg29_27]; rfl)) (x_not (tmB rfl rfl)) ?_
                  refine wl_v (x_pickT (tmB rfl rfl) hg29_27 (tmB rfl rfl)) ?_
                  refine wl_v (x_move (tmB rfl rfl)) ?_
                  refine gs_wls (tm (t := 151) rfl) (fun hg29_31 => ?_) (fun hg29_31 => ?_)
                  · exfalso
                    simp at hg29_31
                  have hg29_31' := hg29_31; (try simp only [nrm] at hg29_31'); try (exfalso; first | with_reducible exact absurd hg29_31 Bool.false_ne_true | with_reducible exact absurd hg29_31.symm Bool.false_ne_true | omega | (simp at hg29_31; done))
                  all_goals
                   refine wl_gv (want_y rfl rfl rfl rfl (by rw [hg29_31]; rfl)) (x_move (tmP rfl rfl)) ?_
                   refine wl_g (want_y rfl rfl rfl rfl (by rw [hg29_31]; rfl)) ?_; intro K hK
                   refine ow_call Try.func9 rfl rfl (evs_cons (tmP rfl rfl) <| evs_nil) (total_nil_c _) ?_
                   rintro e w ⟨rfl, hk1⟩
                   refine ⟨_, rfl, ?_⟩
                   replace hS := hS.kept hk1
                   clear hk1
                   refine hK _ _ ?_; clear hK K
                   refine wl_gv (want_y rfl rfl rfl rfl (by rw [hg29_31]; rfl)) (x_eql (tmI rfl rfl) (ev_cN 0)) ?_
                   refine wl_v (x_pickT (tmB rfl rfl) hg29_31 (tmB rfl rfl)) ?_
                   refine wl_v (x_move (tmB rfl rfl)) ?_
                   refine gs_wls (tm (t := 156) rfl) (fun hg29_36 => ?_) (fun hg29_36 => ?_)
                   · exfalso
                     simp at hg29_36
                   have hg29_36' := hg29_36; (try simp only [nrm] at hg29_36'); try (exfalso; first | with_reducible exact absurd hg29_36 Bool.false_ne_true | with_reducible exact absurd hg29_36.symm Bool.false_ne_true | omega | (simp at hg29_36; done))
                   all_goals
                    refine wl_g (want_y rfl rfl rfl rfl (by rw [hg29_36]; rfl)) ?_; intro K hK
                    refine ow_call Try.func4 rfl rfl (evs_nil) (awake43_c _) ?_
                    rintro e w ⟨rfl, hk1⟩
                    refine ⟨_, rfl, ?_⟩
                    replace hS := hS.kept hk1
                    clear hk1
                    refine hK _ _ ?_; clear hK K
                    refine wl_v (x_pickT (tmB rfl rfl) hg29_36 (tmB rfl rfl)) ?_
                    refine wl_v (x_assign (tmB rfl rfl)) ?_
                    refine wl_nil ?_
                    refine then_n (hK35 _ _ ?_); clear hK35 K35
                    refine wp_ret ?_
                    refine ret1 rfl (.tmp rfl (show _ = Value.bool _ from rfl)) ?_
                    exact ⟨rfl, hS.kp.below⟩
open Go.ChangeShapes Go.WideShapes Go.ChangeAt
theorem flat_u64 (l : List Nat) : flat (fun n : Nat => [u64v n]) l = l.map u64v := by
  unfold flat
  induction l with
  | nil => rfl
  | cons a l ih => simp [ih]
set_option maxRecDepth 100000 in
theorem open_u64 {H : Type} {enc : TypeId × Value → H} {r : Reach} {b0 : Nat} {d : DataW H} {ps : List MemPlace} {v : Value} {w0 : World}
    (hval : Value.okWide Try.prog w0 r b0 22 v) (hd : DataW.Trod enc Try.prog w0 0 (fun _ => true) true 22 v d ps) (hlt : ∀ x ∈ ps, x.block < w0.heap.size) :
    ∃ (A : Option Addr) (c : Nat) (l : List Nat), v = .slice A l.length c ∧ l.length ≤ 9223372036854775807 ∧ View w0 w0.heap.size A (l.map u64v) ∧ ∀ i, i < l.length → l.getD i 0 < 18446744073709551616 := by
  obtain ⟨s, rfl, hnc, hcm, hv, hall⟩ := arg_sl (V := fun n : Nat => [u64v n]) (ok := fun n => n < 18446744073709551616) Try.underlying22 1 (by kernel_rfl) (by omega) (fun h1 h2 => by obtain ⟨n, e, h⟩ := t_u64 Try.underlying25 h1 h2; exact ⟨n, e, h⟩) hval hd hlt
  have hmx : maxLen = 9223372036854775807 := by simp [maxLen]
  rw [hmx] at hcm
  rw [flat_u64] at hv
  refine ⟨s.a, s.c, s.l, rfl, Nat.le_trans hnc hcm, hv, fun i hi => ?_⟩
  rw [List.getD_eq_getElem?_getD, List.getElem?_eq_getElem hi]
  exact hall _ (List.getElem_mem hi)
theorem walk (v0 v1 : Value) (p : Int) (w0 : World) {H : Type} {enc : TypeId × Value → H} {r : Reach} {b0 b1 : Nat} {d0 d1 : DataW H} {p0 p1 : List MemPlace}
    (hval0 : Value.okWide Try.prog w0 r b0 22 v0) (hd0 : DataW.Trod enc Try.prog w0 0 (fun _ => true) true 22 v0 d0 p0) (hlt0 : ∀ p ∈ p0, p.block < w0.heap.size)
    (hval1 : Value.okWide Try.prog w0 r b1 22 v1) (hd1 : DataW.Trod enc Try.prog w0 0 (fun _ => true) true 22 v1 d1 p1) (hlt1 : ∀ p ∈ p1, p.block < w0.heap.size)
    (_ : -9223372036854775808 ≤ p ∧ p ≤ 9223372036854775807) :
    Calls Try.prog 3 #[v0, v1, .int .i64 p] w0 fun e w' => e = .returned (.bool true) ∧ Below w0.heap.size w0 w' := by
  obtain ⟨A1, c1, l, rfl, h1, hv1, hb1⟩ := open_u64 hval0 hd0 hlt0
  obtain ⟨A2, c2, m, rfl, h2, hv2, hb2⟩ := open_u64 hval1 hd1 hlt1
  exact walk_all A1 l.length c1 l A2 m.length c2 m p w0 hv1 hv2 rfl rfl h1 h2 hb1 hb2
end MeterHists
end Go.Proofs.Ytmkieoinmfkofaa
