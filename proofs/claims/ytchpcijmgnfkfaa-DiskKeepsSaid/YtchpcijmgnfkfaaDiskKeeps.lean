
/- Proved: DiskKeeps returns true for every input, and changes no memory that was there. Conditions: none. -/
import Derived.Test.YtchpcijmgnfkfaaDisk
import Derived.Test.YtchpcijmgnfkfaaArgs
namespace Go.Proofs.Ytchpcijmgnfkfaa
open Go.RowKit

set_option maxRecDepth 100000 in
set_option maxHeartbeats 4000000 in
theorem law24_awake_c (w0 : World) :
    Calls Try.prog 85 #[] w0 fun e w' => e = .returned (.bool true) ∧ Kp [] w0 w' := by
  have hS := St.sv w0
  refine ent (n := 17) Try.func85 rfl rfl ?_
  refine wp_seq_k ?_; intro K1 hK1
  refine wlit ?_
  refine wl_v (x_assign ev_c) ?_
  refine wl_nil ?_
  refine then_n (hK1 _ _ ?_); clear hK1 K1
  refine wp_seq_k ?_; intro K2 hK2
  refine wlit ?_
  refine wl_e rfl ?_; intro K hK
  refine ow_call Try.func86 rfl rfl (evs_cons (ev_cN 9) <| evs_nil) (dnew_c 9 _) ?_
  rintro e w ⟨g, rfl, hn, hk⟩
  refine ⟨_, rfl, ?_⟩
  replace hS := (hS.add hk hn).nilrow 5 1 -- +2
  clear hn hk
  refine hK _ _ ?_; clear hK K
  refine wl_v (x_assign (tmP rfl rfl)) ?_
  refine wl_nil ?_
  refine then_n (hK2 _ _ ?_); clear hK2 K2
  refine wp_seq_k ?_; intro K3 hK3
  refine wlit ?_
  refine wl_v (x_move (tmP rfl rfl)) ?_
  refine wl_e rfl ?_; intro K hK
  refine ow_build hS Try.underlying36 tz_5 (bc_take (ev_cN 1) <| bc_take (ev_cN 2) <| bc_take (ev_cN 3) <| bc_nil) rfl rfl (by kernel_rfl) ?_
  clear hS; intro g2_1 w hg2_1 hS
  refine hK _ _ ?_; clear hK K
  refine wl_e rfl ?_; intro K hK
  refine ow_call Try.func87 rfl rfl (evs_cons (tmP rfl rfl) <| evs_cons (tmS rfl rfl) <| evs_nil) (dappend_c g none 0 0 0 9 0 [] _ 3 3 [1, 2, 3] _ _ (hS.enter [1, 2] [0] rfl rfl) rfl (by omega) (by omega)) ?_
  rintro e w ⟨A2, c2, rfl, hS2⟩
  refine ⟨_, rfl, ?_⟩
  replace hS := hS.leave [1, 2] [0] rfl rfl rfl (hS2.pick [0, 1] rfl rfl) rfl
  clear hS2
  refine hK _ _ ?_; clear hK K
  refine wl_v (x_eql (tmI rfl rfl) (ev_cN 0)) ?_
  refine wl_v (x_move (tmB rfl rfl)) ?_
  refine gs_wl (tm (t := 7) rfl) (fun hg2_4 => ?_) (fun hg2_4 => ?_)
  · have hg2_4' := hg2_4; (try simp only [nrm] at hg2_4'); try (exfalso; first | with_reducible exact absurd hg2_4 Bool.false_ne_true | with_reducible exact absurd hg2_4.symm Bool.false_ne_true | omega | (simp at hg2_4; done))
    all_goals
     refine wl_gv (want_y rfl rfl rfl rfl (by rw [hg2_4]; rfl)) (x_move (tmP rfl rfl)) ?_
     refine wl_g (want_y rfl rfl rfl rfl (by rw [hg2_4]; rfl)) ?_; intro K hK
     refine ow_call Try.func89 rfl rfl (evs_cons (tmP rfl rfl) <| evs_cons (ev_cN 1) <| evs_cons (ev_cN 0) <| evs_nil) (dcrash_c g A2 3 c2 0 9 0 1 1 0 [1, 2, 3] _ _ (hS.enter [0, 1] [] rfl rfl) rfl (by intro x hx; simp at hx; omega) (by omega) (by omega) (by omega) (by decide)) ?_
     rintro e w ⟨l2, rfl, hl2, hl3, hb2, hS2⟩
     refine ⟨_, rfl, ?_⟩
     replace hS := hS.leave [0, 1] [] rfl rfl rfl hS2 rfl
     clear hS2
     refine hK _ _ ?_; clear hK K
     refine wl_gv (want_y rfl rfl rfl rfl (by rw [hg2_4]; rfl)) (x_eql (tmI rfl rfl) (ev_cN 2)) ?_
     refine wl_v (x_pickT (tmB rfl rfl) hg2_4 (tmB rfl rfl)) ?_
     refine wl_v (x_move (tmB rfl rfl)) ?_
     refine gs_wls (tm (t := 12) rfl) (fun hg2_9 => ?_) (fun hg2_9 => ?_)
     · exfalso
       exact absurd hg2_9 (by decide)
     have hg2_9' := hg2_9; (try simp only [nrm] at hg2_9'); try (exfalso; first | with_reducible exact absurd hg2_9 Bool.false_ne_true | with_reducible exact absurd hg2_9.symm Bool.false_ne_true | omega | (simp at hg2_9; done))
     all_goals
      refine wl_gv (want_y rfl rfl rfl rfl (by rw [hg2_9]; rfl)) (x_move (tmP rfl rfl)) ?_
      refine wl_g (want_y rfl rfl rfl rfl (by rw [hg2_9]; rfl)) ?_; intro K hK
      refine ow_call Try.func134 rfl rfl (evs_cons (tmP rfl rfl) <| evs_nil) (dlen_c g _ _ _ _ _ _ _ (viewB hS.ok 1 rfl)) ?_
      rintro e w ⟨rfl, hk⟩
      refine ⟨_, rfl, ?_⟩
      replace hS := hS.kept hk
      clear hk
      refine hK _ _ ?_; clear hK K
      refine wl_gv (want_y rfl rfl rfl rfl (by rw [hg2_9]; rfl)) (x_eql (tmI rfl rfl) (ev_cN 1)) ?_
      refine wl_v (x_pickT (tmB rfl rfl) hg2_9 (tmB rfl rfl)) ?_
      refine wl_v (x_assign (tmB rfl rfl)) ?_
      refine wl_nil ?_
      refine then_n (hK3 _ _ ?_); clear hK3 K3
      refine wp_ret ?_
      refine ret1 rfl (.tmp rfl (show _ = Value.bool _ from rfl)) ?_
      exact ⟨rfl, hS.kp⟩
  have hg2_4' := hg2_4; (try simp only [nrm] at hg2_4'); try (exfalso; first | with_reducible exact absurd hg2_4 Bool.false_ne_true | with_reducible exact absurd hg2_4.symm Bool.false_ne_true | omega | (simp at hg2_4; done))
  all_goals
   refine wl_s rfl (want_n rfl rfl rfl rfl (by rw [hg2_4]; rfl)) ?_
   refine wl_s rfl (want_n rfl rfl rfl rfl (by rw [hg2_4]; rfl)) ?_
   refine wl_s rfl (want_n rfl rfl rfl rfl (by rw [hg2_4]; rfl)) ?_
   refine wl_v (x_pickF (tmB rfl rfl) hg2_4 ev_c) ?_
   refine wl_v (x_move (tmB rfl rfl)) ?_
   refine wl_s rfl (want_n rfl rfl rfl rfl rfl) ?_
   refine wl_s rfl (want_n rfl rfl rfl rfl rfl) ?_
   refine wl_s rfl (want_n rfl rfl rfl rfl rfl) ?_
   refine wl_v (x_pickF (tmB rfl rfl) rfl ev_c) ?_
   refine wl_v (x_assign (tmB rfl rfl)) ?_
   refine wl_nil ?_
   refine then_n (hK3 _ _ ?_); clear hK3 K3
   refine wp_ret ?_
   refine ret1 rfl (.tmp rfl (show _ = Value.bool _ from rfl)) ?_
   exact ⟨rfl, hS.kp⟩

namespace DiskKeeps
set_option maxRecDepth 100000 in
set_option maxHeartbeats 4000000 in
theorem walk (A : Option Addr) (n c : Nat) (l : List Nat) (B : Option Addr) (m cb : Nat) (b : List Nat) (keep bits : Int) (w0 : World)
    (r1 : l.length = n ∧ (A = none → c = 0) ∧ BView w0 w0.heap.size A l ∧ n ≤ c) (r2 : b.length = m ∧ (B = none → cb = 0) ∧ BView w0 w0.heap.size B b ∧ m ≤ cb) (hk0 : -9223372036854775808 ≤ keep ∧ keep ≤ 9223372036854775807) (hbt : 0 ≤ bits ∧ bits < 256) :
    Calls Try.prog 16 #[.slice A n c, .slice B m cb, .int .i64 keep, .int .u8 bits] w0 fun e w' => e = .returned (.bool true) ∧ Below w0.heap.size w0 w' := by
  obtain ⟨bits, rfl⟩ := Int.eq_ofNat_of_zero_le hbt.1
  obtain ⟨hl, _, ⟨hb, hv⟩, hc⟩ := r1
  obtain ⟨hl2, _, ⟨hb2, hv2⟩, hc2⟩ := r2
  have hS := ((St.sv w0).vcons rfl hv2).vcons rfl hv
  obtain ⟨q, hq⟩ : ∃ q : Nat, min (max keep ((0 : Nat) : Int)) ((0 + n + m - (0 + n) : Nat) : Int) = (q : Int) := ⟨(min (max keep ((0 : Nat) : Int)) ((0 + n + m - (0 + n) : Nat) : Int)).toNat, by omega⟩
  have hq2 : q ≤ m := by omega
  have hlb : (([] ++ l ++ b : List Nat)).length = 0 + n + m := by simp; omega
  have hlbb : Bytes ([] ++ l ++ b) := (Bytes.nil.append hb).append hb2
  have htk : ([] ++ l ++ b : List Nat).take (0 + n) = l := by rw [List.nil_append, Nat.zero_add, List.take_append_of_le_length (by omega), List.take_of_length_le (by omega)]
  refine ent (n := 83) Try.func16 rfl rfl ?_
  refine wp_seq_k ?_; intro K1 hK1
  refine wlit ?_
  refine wl_v (x_assign ev_c) ?_
  refine wl_nil ?_
  refine then_n (hK1 _ _ ?_); clear hK1 K1
  refine wp_seq_k ?_; intro K2 hK2
  refine wp_seq_k ?_; intro K3 hK3
  refine wlit ?_
  refine wl_e rfl ?_; intro K hK
  refine ow_call Try.func85 rfl rfl (evs_nil) (law24_awake_c _) ?_
  rintro e w ⟨rfl, hk⟩
  refine ⟨_, rfl, ?_⟩
  replace hS := hS.kept hk
  clear hk
  refine hK _ _ ?_; clear hK K
  refine wl_v (x_not (tmB rfl rfl)) ?_
  refine wl_nil ?_
  refine then_n (hK3 _ _ ?_); clear hK3 K3
  refine cnd (tm rfl) (fun hc0 => ?_) (fun hc0 => ?_)
  · try (exfalso; first | with_reducible exact absurd hc0 Bool.false_ne_true | with_reducible exact absurd hc0.symm Bool.false_ne_true | (simp only [nrm] at hc0; omega) | (simp at hc0; done))
    all_goals
     try simp only [nrm] at hc0
     refine wp_seq_k ?_; intro K4 hK4
     refine wlit ?_
     refine wl_v (x_assign ev_c) ?_
     refine wl_nil ?_
     refine then_n (hK4 _ _ ?_); clear hK4 K4
     refine wp_ret ?_
     refine then_r ?_
     refine ret1 rfl (.tmp rfl (show _ = Value.bool _ from rfl)) ?_
     exact ⟨rfl, hS.kp.below⟩
  try (exfalso; first | with_reducible exact absurd hc0 Bool.false_ne_true | with_reducible exact absurd hc0.symm Bool.false_ne_true | (simp only [nrm] at hc0; omega) | (simp at hc0; done))
  all_goals
   try simp only [nrm] at hc0
   refine wp_skip ?_
   refine then_n (hK2 _ _ ?_); clear hK2 K2
   refine wp_seq_k ?_; intro K5 hK5
   refine wp_seq_k ?_; intro K6 hK6
   refine wlit ?_
   refine wl_v (x_move (tmS rfl rfl)) ?_
   refine wl_v (x_len Try.underlying36 (tmS rfl rfl)) ?_
   refine wl_v (x_gtr (tmI rfl rfl) (ev_cN 500)) ?_
   refine wl_v (x_move (tmB rfl rfl)) ?_
   refine gs_wl (tm (t := 20) rfl) (fun hg3_3 => ?_) (fun hg3_3 => ?_)
   · have hg3_3' := hg3_3; (try simp only [nrm] at hg3_3'); try (exfalso; first | with_reducible exact absurd hg3_3 Bool.false_ne_true | with_reducible exact absurd hg3_3.symm Bool.false_ne_true | omega | (simp at hg3_3; done))
     all_goals
      refine wl_s rfl (want_n rfl rfl rfl rfl (by rw [hg3_3]; rfl)) ?_
      refine wl_s rfl (want_n rfl rfl rfl rfl (by rw [hg3_3]; rfl)) ?_
      refine wl_s rfl (want_n rfl rfl rfl rfl (by rw [hg3_3]; rfl)) ?_
      refine wl_v (x_pickT (tmB rfl rfl) hg3_3 ev_c) ?_
      refine wl_nil ?_
      refine then_n (hK6 _ _ ?_); clear hK6 K6
      refine cnd_t (tmB rfl rfl) rfl ?_
      refine wp_seq_k ?_; intro K7 hK7
      refine wlit ?_
      refine wl_e rfl ?_; intro K hK
      refine ow_call Try.func85 rfl rfl (evs_nil) (law24_awake_c _) ?_
      rintro e w ⟨rfl, hk⟩
      refine ⟨_, rfl, ?_⟩
      replace hS := hS.kept hk
      clear hk
      refine hK _ _ ?_; clear hK K
      refine wl_v (x_assign (tmB rfl rfl)) ?_
      refine wl_nil ?_
      refine then_n (hK7 _ _ ?_); clear hK7 K7
      refine wp_ret ?_
      refine then_r ?_
      refine ret1 rfl (.tmp rfl (show _ = Value.bool _ from rfl)) ?_
      exact ⟨rfl, hS.kp.below⟩
   have hg3_3' := hg3_3; (try simp only [nrm] at hg3_3'); try (exfalso; first | with_reducible exact absurd hg3_3 Bool.false_ne_true | with_reducible exact absurd hg3_3.symm Bool.false_ne_true | omega | (simp at hg3_3; done))
   all_goals
    refine wl_gv (want_y rfl rfl rfl rfl (by rw [hg3_3]; rfl)) (x_move (tmS rfl rfl)) ?_
    refine wl_gv (want_y rfl rfl rfl rfl (by rw [hg3_3]; rfl)) (x_len Try.underlying36 (tmS rfl rfl)) ?_
    refine wl_gv (want_y rfl rfl rfl rfl (by rw [hg3_3]; rfl)) (x_gtr (tmI rfl rfl) (ev_cN 500)) ?_
    refine wl_v (x_pickF (tmB rfl rfl) hg3_3 (tmB rfl rfl)) ?_
    refine wl_nil ?_
    refine then_n (hK6 _ _ ?_); clear hK6 K6
    refine cnd (tm rfl) (fun hc1 => ?_) (fun hc1 => ?_)
    · try (exfalso; first | with_reducible exact absurd hc1 Bool.false_ne_true | with_reducible exact absurd hc1.symm Bool.false_ne_true | (simp only [nrm] at hc1; omega) | (simp at hc1; done))
      all_goals
       try simp only [nrm] at hc1
       refine wp_seq_k ?_; intro K8 hK8
       refine wlit ?_
       refine wl_e rfl ?_; intro K hK
       refine ow_call Try.func85 rfl rfl (evs_nil) (law24_awake_c _) ?_
       rintro e w ⟨rfl, hk⟩
       refine ⟨_, rfl, ?_⟩
       replace hS := hS.kept hk
       clear hk
       refine hK _ _ ?_; clear hK K
       refine wl_v (x_assign (tmB rfl rfl)) ?_
       refine wl_nil ?_
       refine then_n (hK8 _ _ ?_); clear hK8 K8
       refine wp_ret ?_
       refine then_r ?_
       refine ret1 rfl (.tmp rfl (show _ = Value.bool _ from rfl)) ?_
       exact ⟨rfl, hS.kp.below⟩
    try (exfalso; first | with_reducible exact absurd hc1 Bool.false_ne_true | with_reducible exact absurd hc1.symm Bool.false_ne_true | (simp only [nrm] at hc1; omega) | (simp at hc1; done))
    all_goals
     try simp only [nrm] at hc1
     refine wp_skip ?_
     refine then_n (hK5 _ _ ?_); clear hK5 K5
     refine wp_seq_k ?_; intro K9 hK9
     refine wlit ?_
     refine wl_e rfl ?_; intro K hK
     refine ow_call Try.func86 rfl rfl (evs_cons (ev_cN 1000) <| evs_nil) (dnew_c 1000 _) ?_
     rintro e w ⟨g, rfl, hn, hk⟩
     refine ⟨_, rfl, ?_⟩
     replace hS := (hS.add hk hn).nilrow 5 1 -- +2
     clear hn hk
     refine hK _ _ ?_; clear hK K
     refine wl_v (x_assign (tmP rfl rfl)) ?_
     refine wl_nil ?_
     refine then_n (hK9 _ _ ?_); clear hK9 K9
     refine wp_seq_k ?_; intro K10 hK10
     refine wlit ?_
     refine wl_v (x_move (tmP rfl rfl)) ?_
     refine wl_v (x_move (tmS rfl rfl)) ?_
     refine wl_e rfl ?_; intro K hK
     refine ow_call Try.func87 rfl rfl (evs_cons (tmP rfl rfl) <| evs_cons (tmS rfl rfl) <| evs_nil) (dappend_c g none 0 0 0 1000 0 [] A n c l _ _ (hS.enter [0, 1] [2] rfl rfl) hl (by omega) (by omega)) ?_
     rintro e w ⟨A2, c2, rfl, hS2⟩
     refine ⟨_, rfl, ?_⟩
     replace hS := hS.leave [0, 1] [2, 3] rfl rfl rfl (hS2.pick [0, 1] rfl rfl) rfl
     clear hS2
     refine hK _ _ ?_; clear hK K
     refine wl_v (x_move (tmP rfl rfl)) ?_
     refine wl_e rfl ?_; intro K hK
     refine ow_call Try.func88 rfl rfl (evs_cons (tmP rfl rfl) <| evs_nil) (dsync_c g A2 _ c2 0 1000 0 _ _ (hS.enter [1] [] rfl rfl) (by omega)) ?_
     rintro e w ⟨rfl, hS2⟩
     refine ⟨_, rfl, ?_⟩
     replace hS := (hS.leave [1] [0, 2, 3] rfl rfl rfl hS2 rfl).pick [1, 0, 2, 3] rfl rfl
     clear hS2
     refine hK _ _ ?_; clear hK K
     refine wl_v (x_assign (tmI rfl rfl)) ?_
     refine wl_v (x_assign (tmI rfl rfl)) ?_
     refine wl_nil ?_
     refine then_n (hK10 _ _ ?_); clear hK10 K10
     refine wp_seq_k ?_; intro K11 hK11
     refine wlit ?_
     refine wl_v (x_move (tmP rfl rfl)) ?_
     refine wl_v (x_move (tmS rfl rfl)) ?_
     refine wl_e rfl ?_; intro K hK
     refine ow_call Try.func87 rfl rfl (evs_cons (tmP rfl rfl) <| evs_cons (tmS rfl rfl) <| evs_nil) (dappend_c g _ _ _ _ _ _ _ B m cb b _ _ (hS.enter [0, 1] [3] rfl rfl) hl2 (by omega) (by omega)) ?_
     rintro e w ⟨A3, c3, rfl, hS2⟩
     refine ⟨_, rfl, ?_⟩
     replace hS := hS.leave [0, 1] [2, 3] rfl rfl rfl (hS2.pick [0, 1] rfl rfl) rfl
     clear hS2
     refine hK _ _ ?_; clear hK K
     refine wl_v (x_assign (tmI rfl rfl)) ?_
     refine wl_nil ?_
     refine then_n (hK11 _ _ ?_); clear hK11 K11
     refine wp_seq_k ?_; intro K12 hK12
     refine wlit ?_
     refine wl_v (x_move (tmP rfl rfl)) ?_
     refine wl_v (x_move (tmI rfl rfl)) ?_
     refine wl_v (x_move (tmI rfl rfl)) ?_
     refine wl_e rfl ?_; intro K hK
     refine ow_call Try.func89 rfl rfl (evs_cons (tmP rfl rfl) <| evs_cons (tmI rfl rfl) <| evs_cons (tmI rfl rfl) <| evs_nil) (dcrash_c g A3 _ c3 _ _ _ q keep bits _ _ _ (hS.enter [0, 1] [] rfl rfl) hlb hlbb (by omega) (by omega) (by omega) hq) ?_
     rintro e w ⟨l4, rfl, hl4, ht4, hb4, hS2⟩
     refine ⟨_, rfl, ?_⟩
     replace hS := hS.leave [0, 1] [2, 3] rfl rfl rfl hS2 rfl
     clear hS2
     rw [htk] at ht4
     refine hK _ _ ?_; clear hK K
     refine wl_v (x_assign (tmI rfl rfl)) ?_
     refine wl_nil ?_
     refine then_n (hK12 _ _ ?_); clear hK12 K12
     refine wp_seq_k ?_; intro K13 hK13
     refine wlit ?_
     refine wl_v (x_move (tmP rfl rfl)) ?_
     refine wl_e rfl ?_; intro K hK
     refine ow_call Try.func90 rfl rfl (evs_cons (tmP rfl rfl) <| evs_nil) (dread_c g _ _ _ _ _ _ l4 _ (viewB hS.ok 1 rfl) (viewR hS.ok 0 rfl) hl4 (by omega)) ?_
     rintro e w ⟨A5, c5, rfl, hn, hk⟩
     refine ⟨_, rfl, ?_⟩
     replace hS := hS.add hk hn -- +1
     have hcap := row_cap (hS.rowOk 0 rfl) (by omega)
     clear hn hk
     refine hK _ _ ?_; clear hK K
     refine wl_v (x_assign (tmS rfl rfl)) ?_
     refine wl_nil ?_
     refine then_n (hK13 _ _ ?_); clear hK13 K13
     refine wp_seq_k ?_; intro K14 hK14
     replace hS := (hS.freeze 0 rfl).cutb 0 0 n rfl (show l4.length ≤ c5 by omega)
     have ht5 : (l4.drop 0).take n = l := by rw [Nat.zero_add] at ht4; exact ht4
     refine rg_startk 0 hS mixed_ ?_
     clear hS; intro w hS
     refine rg_take 0 rfl rfl (by kernel_rfl) (by kernel_rfl) (by kernel_rfl) (want_0) (fun w hok => x_move (tmI rfl rfl)) ?_
     refine rg_take 1 rfl rfl (by kernel_rfl) (by kernel_rfl) (by kernel_rfl) (want_0) (fun w hok => x_eql (tmI rfl rfl) (ev_cN 0)) ?_
     refine rg_take 2 rfl rfl (by kernel_rfl) (by kernel_rfl) (by kernel_rfl) (want_0) (fun w hok => x_move (tmB rfl rfl)) ?_
     refine gs_rg (tm (t := 43) rfl) (fun hg10_2 => ?_) (fun hg10_2 => ?_)
     · have hg10_2' := hg10_2; (try simp only [nrm] at hg10_2'); try (exfalso; first | with_reducible exact absurd hg10_2 Bool.false_ne_true | with_reducible exact absurd hg10_2.symm Bool.false_ne_true | omega | (simp at hg10_2; done))
       all_goals
        refine rg_take 3 rfl rfl (by kernel_rfl) (by kernel_rfl) (by kernel_rfl) (want_y rfl rfl rfl rfl (by rw [hg10_2]; rfl)) (fun w hok => x_move (tmI rfl rfl)) ?_
        refine rg_take 4 rfl rfl (by kernel_rfl) (by kernel_rfl) (by kernel_rfl) (want_y rfl rfl rfl rfl (by rw [hg10_2]; rfl)) (fun w hok => x_eql (tmI rfl rfl) (ev_cN 0)) ?_
        refine rg_take 5 rfl rfl (by kernel_rfl) (by kernel_rfl) (by kernel_rfl) (want_0) (fun w hok => x_pickT (tmB rfl rfl) hg10_2 (tmB rfl rfl)) ?_
        refine rg_take 6 rfl rfl (by kernel_rfl) (by kernel_rfl) (by kernel_rfl) (want_0) (fun w hok => x_move (tmB rfl rfl)) ?_
        refine gs_rg (tm (t := 47) rfl) (fun hg10_6 => ?_) (fun hg10_6 => ?_)
        · have hg10_6' := hg10_6; (try simp only [nrm] at hg10_6'); try (exfalso; first | with_reducible exact absurd hg10_6 Bool.false_ne_true | with_reducible exact absurd hg10_6.symm Bool.false_ne_true | omega | (simp at hg10_6; done))
          all_goals
           refine rg_take 7 rfl rfl (by kernel_rfl) (by kernel_rfl) (by kernel_rfl) (want_y rfl rfl rfl rfl (by rw [hg10_6]; rfl)) (fun w hok => x_move (tmI rfl rfl)) ?_
           refine rg_take 8 rfl rfl (by kernel_rfl) (by kernel_rfl) (by kernel_rfl) (want_y rfl rfl rfl rfl (by rw [hg10_6]; rfl)) (fun w hok => x_eql (tmI rfl rfl) (ev_cN 0)) ?_
           refine rg_take 9 rfl rfl (by kernel_rfl) (by kernel_rfl) (by kernel_rfl) (want_0) (fun w hok => x_pickT (tmB rfl rfl) hg10_6 (tmB rfl rfl)) ?_
           refine rg_take 10 rfl rfl (by kernel_rfl) (by kernel_rfl) (by kernel_rfl) (want_0) (fun w hok => x_move (tmB rfl rfl)) ?_
           refine gs_rg (tm (t := 51) rfl) (fun hg10_10 => ?_) (fun hg10_10 => ?_)
           · have hg10_10' := hg10_10; (try simp only [nrm] at hg10_10'); try (exfalso; first | with_reducible exact absurd hg10_10 Bool.false_ne_true | with_reducible exact absurd hg10_10.symm Bool.false_ne_true | omega | (simp at hg10_10; done))
             all_goals
              refine rg_take 11 rfl rfl (by kernel_rfl) (by kernel_rfl) (by kernel_rfl) (want_y rfl rfl rfl rfl (by rw [hg10_10]; rfl)) (fun w hok => x_move (tmS rfl rfl)) ?_
              refine rg_take 12 rfl rfl (by kernel_rfl) (by kernel_rfl) (by kernel_rfl) (want_y rfl rfl rfl rfl (by rw [hg10_10]; rfl)) (fun w hok => x_len Try.underlying36 (tmS rfl rfl)) ?_
              refine rg_take 13 rfl rfl (by kernel_rfl) (by kernel_rfl) (by kernel_rfl) (want_y rfl rfl rfl rfl (by rw [hg10_10]; rfl)) (fun w hok => x_move (tmS rfl rfl)) ?_
              refine rg_take 14 rfl rfl (by kernel_rfl) (by kernel_rfl) (by kernel_rfl) (want_y rfl rfl rfl rfl (by rw [hg10_10]; rfl)) (fun w hok => x_len Try.underlying36 (tmS rfl rfl)) ?_
              refine rg_take 15 rfl rfl (by kernel_rfl) (by kernel_rfl) (by kernel_rfl) (want_y rfl rfl rfl rfl (by rw [hg10_10]; rfl)) (fun w hok => x_move (tmS rfl rfl)) ?_
              refine rg_take 16 rfl rfl (by kernel_rfl) (by kernel_rfl) (by kernel_rfl) (want_y rfl rfl rfl rfl (by rw [hg10_10]; rfl)) (fun w hok => x_len Try.underlying36 (tmS rfl rfl)) ?_
              first
               | refine rg_take 17 rfl rfl (by kernel_rfl) (by kernel_rfl) (by kernel_rfl) (want_y rfl rfl rfl rfl (by rw [hg10_10]; rfl)) (fun w hok => x_addN (tmI rfl rfl) (tmI rfl rfl) (fit_i64 (by omega))) ?_
               | refine rg_take 17 rfl rfl (by kernel_rfl) (by kernel_rfl) (by kernel_rfl) (want_y rfl rfl rfl rfl (by rw [hg10_10]; rfl)) (fun w hok => x_addI (tmI rfl rfl) (tmI rfl rfl) (IntWalk.i64_in _ (by omega))) ?_
               | refine rg_take 17 rfl rfl (by kernel_rfl) (by kernel_rfl) (by kernel_rfl) (want_y rfl rfl rfl rfl (by rw [hg10_10]; rfl)) (fun w hok => x_add (tmI rfl rfl) (tmI rfl rfl)) ?_
              refine rg_take 18 rfl rfl (by kernel_rfl) (by kernel_rfl) (by kernel_rfl) (want_y rfl rfl rfl rfl (by rw [hg10_10]; rfl)) (fun w hok => x_move (tmI rfl rfl)) ?_
              first
               | refine rg_take 19 rfl rfl (by kernel_rfl) (by kernel_rfl) (by kernel_rfl) (want_y rfl rfl rfl rfl (by rw [hg10_10]; rfl)) (fun w hok => x_subN (tmI rfl rfl) (tmI rfl rfl) (fit_i64 (by omega)) (by omega)) ?_
               | refine rg_take 19 rfl rfl (by kernel_rfl) (by kernel_rfl) (by kernel_rfl) (want_y rfl rfl rfl rfl (by rw [hg10_10]; rfl)) (fun w hok => x_subI (tmI rfl rfl) (tmI rfl rfl) (IntWalk.i64_in _ (by omega))) ?_
               | refine rg_take 19 rfl rfl (by kernel_rfl) (by kernel_rfl) (by kernel_rfl) (want_y rfl rfl rfl rfl (by rw [hg10_10]; rfl)) (fun w hok => x_sub (tmI rfl rfl) (tmI rfl rfl)) ?_
              refine rg_take 20 rfl rfl (by kernel_rfl) (by kernel_rfl) (by kernel_rfl) (want_y rfl rfl rfl rfl (by rw [hg10_10]; rfl)) (fun w hok => x_eql (tmI rfl rfl) (tmI rfl rfl)) ?_
              refine rg_take 21 rfl rfl (by kernel_rfl) (by kernel_rfl) (by kernel_rfl) (want_0) (fun w hok => x_pickT (tmB rfl rfl) hg10_10 (tmB rfl rfl)) ?_
              refine rg_take 22 rfl rfl (by kernel_rfl) (by kernel_rfl) (by kernel_rfl) (want_0) (fun w hok => x_move (tmB rfl rfl)) ?_
              refine gs_rg (tm (t := 63) rfl) (fun hg10_22 => ?_) (fun hg10_22 => ?_)
              · have hg10_22' := hg10_22; (try simp only [nrm] at hg10_22'); try (exfalso; first | with_reducible exact absurd hg10_22 Bool.false_ne_true | with_reducible exact absurd hg10_22.symm Bool.false_ne_true | omega | (simp at hg10_22; done))
                all_goals
                 refine rg_take 23 rfl rfl (by kernel_rfl) (by kernel_rfl) (by kernel_rfl) (want_y rfl rfl rfl rfl (by rw [hg10_22]; rfl)) (fun w hok => x_move (tmS rfl rfl)) ?_
                 refine rg_take 24 rfl rfl (by kernel_rfl) (by kernel_rfl) (by kernel_rfl) (want_y rfl rfl rfl rfl (by rw [hg10_22]; rfl)) (fun w hok => x_move (tmS rfl rfl)) ?_
                 refine rg_take 25 rfl rfl (by kernel_rfl) (by kernel_rfl) (by kernel_rfl) (want_y rfl rfl rfl rfl (by rw [hg10_22]; rfl)) (fun w hok => x_len Try.underlying36 (tmS rfl rfl)) ?_
                 refine rg_take 26 rfl rfl (by kernel_rfl) (by kernel_rfl) (by kernel_rfl) (want_y rfl rfl rfl rfl (by rw [hg10_22]; rfl)) (fun w hok => x_sliceH Try.underlying36 ts_5 (tmS rfl rfl) (tmI rfl rfl) (by omega)) ?_
                 first
                  | refine rg_take 27 rfl rfl (by kernel_rfl) (by kernel_rfl) (by kernel_rfl) (want_y rfl rfl rfl rfl (by rw [hg10_22]; rfl)) (fun w hok => x_bstr Try.underlying36 Try.underlying5 Try.underlying9 (tmS rfl rfl) (viewV hok 0 rfl) (by first | assumption | exact Bytes.nil | (repeat' (first | assumption | exact Bytes.nil | exact be_bytes _ _ | apply Bytes.append | apply Bytes.take | apply Bytes.drop | apply Bytes.replicate))) (by first | rfl | assumption | (simp; done) | (simp; omega) | omega)) ?_
                  | refine rg_take 27 rfl rfl (by kernel_rfl) (by kernel_rfl) (by kernel_rfl) (want_y rfl rfl rfl rfl (by rw [hg10_22]; rfl)) (fun w hok => x_bstr Try.underlying36 Try.underlying5 Try.underlying9 (tmS rfl rfl) (viewR hok 0 rfl) (by first | assumption | exact Bytes.nil | (repeat' (first | assumption | exact Bytes.nil | exact be_bytes _ _ | apply Bytes.append | apply Bytes.take | apply Bytes.drop | apply Bytes.replicate))) (by first | rfl | assumption | (simp; done) | (simp; omega) | omega)) ?_
                  | refine rg_take 27 rfl rfl (by kernel_rfl) (by kernel_rfl) (by kernel_rfl) (want_y rfl rfl rfl rfl (by rw [hg10_22]; rfl)) (fun w hok => x_bstr Try.underlying36 Try.underlying5 Try.underlying9 (tmS rfl rfl) (viewB hok 0 rfl) (by first | assumption | exact Bytes.nil | (repeat' (first | assumption | exact Bytes.nil | exact be_bytes _ _ | apply Bytes.append | apply Bytes.take | apply Bytes.drop | apply Bytes.replicate))) (by first | rfl | assumption | (simp; done) | (simp; omega) | omega)) ?_
                  | refine rg_take 27 rfl rfl (by kernel_rfl) (by kernel_rfl) (by kernel_rfl) (want_y rfl rfl rfl rfl (by rw [hg10_22]; rfl)) (fun w hok => x_bstr Try.underlying36 Try.underlying5 Try.underlying9 (tmS rfl rfl) (viewV hok 1 rfl) (by first | assumption | exact Bytes.nil | (repeat' (first | assumption | exact Bytes.nil | exact be_bytes _ _ | apply Bytes.append | apply Bytes.take | apply Bytes.drop | apply Bytes.replicate))) (by first | rfl | assumption | (simp; done) | (simp; omega) | omega)) ?_
                  | refine rg_take 27 rfl rfl (by kernel_rfl) (by kernel_rfl) (by kernel_rfl) (want_y rfl rfl rfl rfl (by rw [hg10_22]; rfl)) (fun w hok => x_bstr Try.underlying36 Try.underlying5 Try.underlying9 (tmS rfl rfl) (viewR hok 1 rfl) (by first | assumption | exact Bytes.nil | (repeat' (first | assumption | exact Bytes.nil | exact be_bytes _ _ | apply Bytes.append | apply Bytes.take | apply Bytes.drop | apply Bytes.replicate))) (by first | rfl | assumption | (simp; done) | (simp; omega) | omega)) ?_
                  | refine rg_take 27 rfl rfl (by kernel_rfl) (by kernel_rfl) (by kernel_rfl) (want_y rfl rfl rfl rfl (by rw [hg10_22]; rfl)) (fun w hok => x_bstr Try.underlying36 Try.underlying5 Try.underlying9 (tmS rfl rfl) (viewB hok 1 rfl) (by first | assumption | exact Bytes.nil | (repeat' (first | assumption | exact Bytes.nil | exact be_bytes _ _ | apply Bytes.append | apply Bytes.take | apply Bytes.drop | apply Bytes.replicate))) (by first | rfl | assumption | (simp; done) | (simp; omega) | omega)) ?_
                  | refine rg_take 27 rfl rfl (by kernel_rfl) (by kernel_rfl) (by kernel_rfl) (want_y rfl rfl rfl rfl (by rw [hg10_22]; rfl)) (fun w hok => x_bstr Try.underlying36 Try.underlying5 Try.underlying9 (tmS rfl rfl) (viewV hok 2 rfl) (by first | assumption | exact Bytes.nil | (repeat' (first | assumption | exact Bytes.nil | exact be_bytes _ _ | apply Bytes.append | apply Bytes.take | apply Bytes.drop | apply Bytes.replicate))) (by first | rfl | assumption | (simp; done) | (simp; omega) | omega)) ?_
                  | refine rg_take 27 rfl rfl (by kernel_rfl) (by kernel_rfl) (by kernel_rfl) (want_y rfl rfl rfl rfl (by rw [hg10_22]; rfl)) (fun w hok => x_bstr Try.underlying36 Try.underlying5 Try.underlying9 (tmS rfl rfl) (viewR hok 2 rfl) (by first | assumption | exact Bytes.nil | (repeat' (first | assumption | exact Bytes.nil | exact be_bytes _ _ | apply Bytes.append | apply Bytes.take | apply Bytes.drop | apply Bytes.replicate))) (by first | rfl | assumption | (simp; done) | (simp; omega) | omega)) ?_
                  | refine rg_take 27 rfl rfl (by kernel_rfl) (by kernel_rfl) (by kernel_rfl) (want_y rfl rfl rfl rfl (by rw [hg10_22]; rfl)) (fun w hok => x_bstr Try.underlying36 Try.underlying5 Try.underlying9 (tmS rfl rfl) (viewB hok 2 rfl) (by first | assumption | exact Bytes.nil | (repeat' (first | assumption | exact Bytes.nil | exact be_bytes _ _ | apply Bytes.append | apply Bytes.take | apply Bytes.drop | apply Bytes.replicate))) (by first | rfl | assumption | (simp; done) | (simp; omega) | omega)) ?_
                  | refine rg_take 27 rfl rfl (by kernel_rfl) (by kernel_rfl) (by kernel_rfl) (want_y rfl rfl rfl rfl (by rw [hg10_22]; rfl)) (fun w hok => x_bstr Try.underlying36 Try.underlying5 Try.underlying9 (tmS rfl rfl) (viewV hok 3 rfl) (by first | assumption | exact Bytes.nil | (repeat' (first | assumption | exact Bytes.nil | exact be_bytes _ _ | apply Bytes.append | apply Bytes.take | apply Bytes.drop | apply Bytes.replicate))) (by first | rfl | assumption | (simp; done) | (simp; omega) | omega)) ?_
                  | refine rg_take 27 rfl rfl (by kernel_rfl) (by kernel_rfl) (by kernel_rfl) (want_y rfl rfl rfl rfl (by rw [hg10_22]; rfl)) (fun w hok => x_bstr Try.underlying36 Try.underlying5 Try.underlying9 (tmS rfl rfl) (viewR hok 3 rfl) (by first | assumption | exact Bytes.nil | (repeat' (first | assumption | exact Bytes.nil | exact be_bytes _ _ | apply Bytes.append | apply Bytes.take | apply Bytes.drop | apply Bytes.replicate))) (by first | rfl | assumption | (simp; done) | (simp; omega) | omega)) ?_
                  | refine rg_take 27 rfl rfl (by kernel_rfl) (by kernel_rfl) (by kernel_rfl) (want_y rfl rfl rfl rfl (by rw [hg10_22]; rfl)) (fun w hok => x_bstr Try.underlying36 Try.underlying5 Try.underlying9 (tmS rfl rfl) (viewB hok 3 rfl) (by first | assumption | exact Bytes.nil | (repeat' (first | assumption | exact Bytes.nil | exact be_bytes _ _ | apply Bytes.append | apply Bytes.take | apply Bytes.drop | apply Bytes.replicate))) (by first | rfl | assumption | (simp; done) | (simp; omega) | omega)) ?_
                  | refine rg_take 27 rfl rfl (by kernel_rfl) (by kernel_rfl) (by kernel_rfl) (want_y rfl rfl rfl rfl (by rw [hg10_22]; rfl)) (fun w hok => x_bstr Try.underlying36 Try.underlying5 Try.underlying9 (tmS rfl rfl) (viewV hok 4 rfl) (by first | assumption | exact Bytes.nil | (repeat' (first | assumption | exact Bytes.nil | exact be_bytes _ _ | apply Bytes.append | apply Bytes.take | apply Bytes.drop | apply Bytes.replicate))) (by first | rfl | assumption | (simp; done) | (simp; omega) | omega)) ?_
                  | refine rg_take 27 rfl rfl (by kernel_rfl) (by kernel_rfl) (by kernel_rfl) (want_y rfl rfl rfl rfl (by rw [hg10_22]; rfl)) (fun w hok => x_bstr Try.underlying36 Try.underlying5 Try.underlying9 (tmS rfl rfl) (viewR hok 4 rfl) (by first | assumption | exact Bytes.nil | (repeat' (first | assumption | exact Bytes.nil | exact be_bytes _ _ | apply Bytes.append | apply Bytes.take | apply Bytes.drop | apply Bytes.replicate))) (by first | rfl | assumption | (simp; done) | (simp; omega) | omega)) ?_
                  | refine rg_take 27 rfl rfl (by kernel_rfl) (by kernel_rfl) (by kernel_rfl) (want_y rfl rfl rfl rfl (by rw [hg10_22]; rfl)) (fun w hok => x_bstr Try.underlying36 Try.underlying5 Try.underlying9 (tmS rfl rfl) (viewB hok 4 rfl) (by first | assumption | exact Bytes.nil | (repeat' (first | assumption | exact Bytes.nil | exact be_bytes _ _ | apply Bytes.append | apply Bytes.take | apply Bytes.drop | apply Bytes.replicate))) (by first | rfl | assumption | (simp; done) | (simp; omega) | omega)) ?_
                  | refine rg_take 27 rfl rfl (by kernel_rfl) (by kernel_rfl) (by kernel_rfl) (want_y rfl rfl rfl rfl (by rw [hg10_22]; rfl)) (fun w hok => x_bstr Try.underlying36 Try.underlying5 Try.underlying9 (tmS rfl rfl) (viewV hok 5 rfl) (by first | assumption | exact Bytes.nil | (repeat' (first | assumption | exact Bytes.nil | exact be_bytes _ _ | apply Bytes.append | apply Bytes.take | apply Bytes.drop | apply Bytes.replicate))) (by first | rfl | assumption | (simp; done) | (simp; omega) | omega)) ?_
                  | refine rg_take 27 rfl rfl (by kernel_rfl) (by kernel_rfl) (by kernel_rfl) (want_y rfl rfl rfl rfl (by rw [hg10_22]; rfl)) (fun w hok => x_bstr Try.underlying36 Try.underlying5 Try.underlying9 (tmS rfl rfl) (viewR hok 5 rfl) (by first | assumption | exact Bytes.nil | (repeat' (first | assumption | exact Bytes.nil | exact be_bytes _ _ | apply Bytes.append | apply Bytes.take | apply Bytes.drop | apply Bytes.replicate))) (by first | rfl | assumption | (simp; done) | (simp; omega) | omega)) ?_
                  | refine rg_take 27 rfl rfl (by kernel_rfl) (by kernel_rfl) (by kernel_rfl) (want_y rfl rfl rfl rfl (by rw [hg10_22]; rfl)) (fun w hok => x_bstr Try.underlying36 Try.underlying5 Try.underlying9 (tmS rfl rfl) (viewB hok 5 rfl) (by first | assumption | exact Bytes.nil | (repeat' (first | assumption | exact Bytes.nil | exact be_bytes _ _ | apply Bytes.append | apply Bytes.take | apply Bytes.drop | apply Bytes.replicate))) (by first | rfl | assumption | (simp; done) | (simp; omega) | omega)) ?_
                  | refine rg_take 27 rfl rfl (by kernel_rfl) (by kernel_rfl) (by kernel_rfl) (want_y rfl rfl rfl rfl (by rw [hg10_22]; rfl)) (fun w hok => x_bstr Try.underlying36 Try.underlying5 Try.underlying9 (tmS rfl rfl) View.nil_ (by first | assumption | exact Bytes.nil | (repeat' (first | assumption | exact Bytes.nil | exact be_bytes _ _ | apply Bytes.append | apply Bytes.take | apply Bytes.drop | apply Bytes.replicate))) (by first | rfl | assumption | (simp; done) | (simp; omega) | omega)) ?_
                 refine rg_take 28 rfl rfl (by kernel_rfl) (by kernel_rfl) (by kernel_rfl) (want_y rfl rfl rfl rfl (by rw [hg10_22]; rfl)) (fun w hok => x_move (tmS rfl rfl)) ?_
                 first
                  | refine rg_take 29 rfl rfl (by kernel_rfl) (by kernel_rfl) (by kernel_rfl) (want_y rfl rfl rfl rfl (by rw [hg10_22]; rfl)) (fun w hok => x_bstr Try.underlying36 Try.underlying5 Try.underlying9 (tmS rfl rfl) (viewV hok 0 rfl) (by first | assumption | exact Bytes.nil | (repeat' (first | assumption | exact Bytes.nil | exact be_bytes _ _ | apply Bytes.append | apply Bytes.take | apply Bytes.drop | apply Bytes.replicate))) (by first | rfl | assumption | (simp; done) | (simp; omega) | omega)) ?_
                  | refine rg_take 29 rfl rfl (by kernel_rfl) (by kernel_rfl) (by kernel_rfl) (want_y rfl rfl rfl rfl (by rw [hg10_22]; rfl)) (fun w hok => x_bstr Try.underlying36 Try.underlying5 Try.underlying9 (tmS rfl rfl) (viewR hok 0 rfl) (by first | assumption | exact Bytes.nil | (repeat' (first | assumption | exact Bytes.nil | exact be_bytes _ _ | apply Bytes.append | apply Bytes.take | apply Bytes.drop | apply Bytes.replicate))) (by first | rfl | assumption | (simp; done) | (simp; omega) | omega)) ?_
                  | refine rg_take 29 rfl rfl (by kernel_rfl) (by kernel_rfl) (by kernel_rfl) (want_y rfl rfl rfl rfl (by rw [hg10_22]; rfl)) (fun w hok => x_bstr Try.underlying36 Try.underlying5 Try.underlying9 (tmS rfl rfl) (viewB hok 0 rfl) (by first | assumption | exact Bytes.nil | (repeat' (first | assumption | exact Bytes.nil | exact be_bytes _ _ | apply Bytes.append | apply Bytes.take | apply Bytes.drop | apply Bytes.replicate))) (by first | rfl | assumption | (simp; done) | (simp; omega) | omega)) ?_
                  | refine rg_take 29 rfl rfl (by kernel_rfl) (by kernel_rfl) (by kernel_rfl) (want_y rfl rfl rfl rfl (by rw [hg10_22]; rfl)) (fun w hok => x_bstr Try.underlying36 Try.underlying5 Try.underlying9 (tmS rfl rfl) (viewV hok 1 rfl) (by first | assumption | exact Bytes.nil | (repeat' (first | assumption | exact Bytes.nil | exact be_bytes _ _ | apply Bytes.append | apply Bytes.take | apply Bytes.drop | apply Bytes.replicate))) (by first | rfl | assumption | (simp; done) | (simp; omega) | omega)) ?_
                  | refine rg_take 29 rfl rfl (by kernel_rfl) (by kernel_rfl) (by kernel_rfl) (want_y rfl rfl rfl rfl (by rw [hg10_22]; rfl)) (fun w hok => x_bstr Try.underlying36 Try.underlying5 Try.underlying9 (tmS rfl rfl) (viewR hok 1 rfl) (by first | assumption | exact Bytes.nil | (repeat' (first | assumption | exact Bytes.nil | exact be_bytes _ _ | apply Bytes.append | apply Bytes.take | apply Bytes.drop | apply Bytes.replicate))) (by first | rfl | assumption | (simp; done) | (simp; omega) | omega)) ?_
                  | refine rg_take 29 rfl rfl (by kernel_rfl) (by kernel_rfl) (by kernel_rfl) (want_y rfl rfl rfl rfl (by rw [hg10_22]; rfl)) (fun w hok => x_bstr Try.underlying36 Try.underlying5 Try.underlying9 (tmS rfl rfl) (viewB hok 1 rfl) (by first | assumption | exact Bytes.nil | (repeat' (first | assumption | exact Bytes.nil | exact be_bytes _ _ | apply Bytes.append | apply Bytes.take | apply Bytes.drop | apply Bytes.replicate))) (by first | rfl | assumption | (simp; done) | (simp; omega) | omega)) ?_
                  | refine rg_take 29 rfl rfl (by kernel_rfl) (by kernel_rfl) (by kernel_rfl) (want_y rfl rfl rfl rfl (by rw [hg10_22]; rfl)) (fun w hok => x_bstr Try.underlying36 Try.underlying5 Try.underlying9 (tmS rfl rfl) (viewV hok 2 rfl) (by first | assumption | exact Bytes.nil | (repeat' (first | assumption | exact Bytes.nil | exact be_bytes _ _ | apply Bytes.append | apply Bytes.take | apply Bytes.drop | apply Bytes.replicate))) (by first | rfl | assumption | (simp; done) | (simp; omega) | omega)) ?_
                  | refine rg_take 29 rfl rfl (by kernel_rfl) (by kernel_rfl) (by kernel_rfl) (want_y rfl rfl rfl rfl (by rw [hg10_22]; rfl)) (fun w hok => x_bstr Try.underlying36 Try.underlying5 Try.underlying9 (tmS rfl rfl) (viewR hok 2 rfl) (by first | assumption | exact Bytes.nil | (repeat' (first | assumption | exact Bytes.nil | exact be_bytes _ _ | apply Bytes.append | apply Bytes.take | apply Bytes.drop | apply Bytes.replicate))) (by first | rfl | assumption | (simp; done) | (simp; omega) | omega)) ?_
                  | refine rg_take 29 rfl rfl (by kernel_rfl) (by kernel_rfl) (by kernel_rfl) (want_y rfl rfl rfl rfl (by rw [hg10_22]; rfl)) (fun w hok => x_bstr Try.underlying36 Try.underlying5 Try.underlying9 (tmS rfl rfl) (viewB hok 2 rfl) (by first | assumption | exact Bytes.nil | (repeat' (first | assumption | exact Bytes.nil | exact be_bytes _ _ | apply Bytes.append | apply Bytes.take | apply Bytes.drop | apply Bytes.replicate))) (by first | rfl | assumption | (simp; done) | (simp; omega) | omega)) ?_
                  | refine rg_take 29 rfl rfl (by kernel_rfl) (by kernel_rfl) (by kernel_rfl) (want_y rfl rfl rfl rfl (by rw [hg10_22]; rfl)) (fun w hok => x_bstr Try.underlying36 Try.underlying5 Try.underlying9 (tmS rfl rfl) (viewV hok 3 rfl) (by first | assumption | exact Bytes.nil | (repeat' (first | assumption | exact Bytes.nil | exact be_bytes _ _ | apply Bytes.append | apply Bytes.take | apply Bytes.drop | apply Bytes.replicate))) (by first | rfl | assumption | (simp; done) | (simp; omega) | omega)) ?_
                  | refine rg_take 29 rfl rfl (by kernel_rfl) (by kernel_rfl) (by kernel_rfl) (want_y rfl rfl rfl rfl (by rw [hg10_22]; rfl)) (fun w hok => x_bstr Try.underlying36 Try.underlying5 Try.underlying9 (tmS rfl rfl) (viewR hok 3 rfl) (by first | assumption | exact Bytes.nil | (repeat' (first | assumption | exact Bytes.nil | exact be_bytes _ _ | apply Bytes.append | apply Bytes.take | apply Bytes.drop | apply Bytes.replicate))) (by first | rfl | assumption | (simp; done) | (simp; omega) | omega)) ?_
                  | refine rg_take 29 rfl rfl (by kernel_rfl) (by kernel_rfl) (by kernel_rfl) (want_y rfl rfl rfl rfl (by rw [hg10_22]; rfl)) (fun w hok => x_bstr Try.underlying36 Try.underlying5 Try.underlying9 (tmS rfl rfl) (viewB hok 3 rfl) (by first | assumption | exact Bytes.nil | (repeat' (first | assumption | exact Bytes.nil | exact be_bytes _ _ | apply Bytes.append | apply Bytes.take | apply Bytes.drop | apply Bytes.replicate))) (by first | rfl | assumption | (simp; done) | (simp; omega) | omega)) ?_
                  | refine rg_take 29 rfl rfl (by kernel_rfl) (by kernel_rfl) (by kernel_rfl) (want_y rfl rfl rfl rfl (by rw [hg10_22]; rfl)) (fun w hok => x_bstr Try.underlying36 Try.underlying5 Try.underlying9 (tmS rfl rfl) (viewV hok 4 rfl) (by first | assumption | exact Bytes.nil | (repeat' (first | assumption | exact Bytes.nil | exact be_bytes _ _ | apply Bytes.append | apply Bytes.take | apply Bytes.drop | apply Bytes.replicate))) (by first | rfl | assumption | (simp; done) | (simp; omega) | omega)) ?_
                  | refine rg_take 29 rfl rfl (by kernel_rfl) (by kernel_rfl) (by kernel_rfl) (want_y rfl rfl rfl rfl (by rw [hg10_22]; rfl)) (fun w hok => x_bstr Try.underlying36 Try.underlying5 Try.underlying9 (tmS rfl rfl) (viewR hok 4 rfl) (by first | assumption | exact Bytes.nil | (repeat' (first | assumption | exact Bytes.nil | exact be_bytes _ _ | apply Bytes.append | apply Bytes.take | apply Bytes.drop | apply Bytes.replicate))) (by first | rfl | assumption | (simp; done) | (simp; omega) | omega)) ?_
                  | refine rg_take 29 rfl rfl (by kernel_rfl) (by kernel_rfl) (by kernel_rfl) (want_y rfl rfl rfl rfl (by rw [hg10_22]; rfl)) (fun w hok => x_bstr Try.underlying36 Try.underlying5 Try.underlying9 (tmS rfl rfl) (viewB hok 4 rfl) (by first | assumption | exact Bytes.nil | (repeat' (first | assumption | exact Bytes.nil | exact be_bytes _ _ | apply Bytes.append | apply Bytes.take | apply Bytes.drop | apply Bytes.replicate))) (by first | rfl | assumption | (simp; done) | (simp; omega) | omega)) ?_
                  | refine rg_take 29 rfl rfl (by kernel_rfl) (by kernel_rfl) (by kernel_rfl) (want_y rfl rfl rfl rfl (by rw [hg10_22]; rfl)) (fun w hok => x_bstr Try.underlying36 Try.underlying5 Try.underlying9 (tmS rfl rfl) (viewV hok 5 rfl) (by first | assumption | exact Bytes.nil | (repeat' (first | assumption | exact Bytes.nil | exact be_bytes _ _ | apply Bytes.append | apply Bytes.take | apply Bytes.drop | apply Bytes.replicate))) (by first | rfl | assumption | (simp; done) | (simp; omega) | omega)) ?_
                  | refine rg_take 29 rfl rfl (by kernel_rfl) (by kernel_rfl) (by kernel_rfl) (want_y rfl rfl rfl rfl (by rw [hg10_22]; rfl)) (fun w hok => x_bstr Try.underlying36 Try.underlying5 Try.underlying9 (tmS rfl rfl) (viewR hok 5 rfl) (by first | assumption | exact Bytes.nil | (repeat' (first | assumption | exact Bytes.nil | exact be_bytes _ _ | apply Bytes.append | apply Bytes.take | apply Bytes.drop | apply Bytes.replicate))) (by first | rfl | assumption | (simp; done) | (simp; omega) | omega)) ?_
                  | refine rg_take 29 rfl rfl (by kernel_rfl) (by kernel_rfl) (by kernel_rfl) (want_y rfl rfl rfl rfl (by rw [hg10_22]; rfl)) (fun w hok => x_bstr Try.underlying36 Try.underlying5 Try.underlying9 (tmS rfl rfl) (viewB hok 5 rfl) (by first | assumption | exact Bytes.nil | (repeat' (first | assumption | exact Bytes.nil | exact be_bytes _ _ | apply Bytes.append | apply Bytes.take | apply Bytes.drop | apply Bytes.replicate))) (by first | rfl | assumption | (simp; done) | (simp; omega) | omega)) ?_
                  | refine rg_take 29 rfl rfl (by kernel_rfl) (by kernel_rfl) (by kernel_rfl) (want_y rfl rfl rfl rfl (by rw [hg10_22]; rfl)) (fun w hok => x_bstr Try.underlying36 Try.underlying5 Try.underlying9 (tmS rfl rfl) View.nil_ (by first | assumption | exact Bytes.nil | (repeat' (first | assumption | exact Bytes.nil | exact be_bytes _ _ | apply Bytes.append | apply Bytes.take | apply Bytes.drop | apply Bytes.replicate))) (by first | rfl | assumption | (simp; done) | (simp; omega) | omega)) ?_
                 refine rg_take 30 rfl rfl (by kernel_rfl) (by kernel_rfl) (by kernel_rfl) (want_y rfl rfl rfl rfl (by rw [hg10_22]; rfl)) (fun w hok => x_Geql (tmG rfl rfl) (tmG rfl rfl) (by first | assumption | exact Bytes.nil | (repeat' (first | assumption | exact Bytes.nil | exact be_bytes _ _ | apply Bytes.append | apply Bytes.take | apply Bytes.drop | apply Bytes.replicate))) (by first | assumption | exact Bytes.nil | (repeat' (first | assumption | exact Bytes.nil | exact be_bytes _ _ | apply Bytes.append | apply Bytes.take | apply Bytes.drop | apply Bytes.replicate)))) ?_
                 refine rg_take 31 rfl rfl (by kernel_rfl) (by kernel_rfl) (by kernel_rfl) (want_0) (fun w hok => x_pickT (tmB rfl rfl) hg10_22 (tmB rfl rfl)) ?_
                 refine rg_take 32 rfl rfl (by kernel_rfl) (by kernel_rfl) (by kernel_rfl) (want_0) (fun w hok => x_move (tmB rfl rfl)) ?_
                 refine gs_rgs (tm (t := 73) rfl) (fun hg10_32 => ?_) (fun hg10_32 => ?_)
                 · exfalso
                   exact absurd ht5 (of_decide_eq_false hg10_32)
                 have hg10_32' := hg10_32; (try simp only [nrm] at hg10_32'); try (exfalso; first | with_reducible exact absurd hg10_32 Bool.false_ne_true | with_reducible exact absurd hg10_32.symm Bool.false_ne_true | omega | (simp at hg10_32; done))
                 all_goals
                  refine rg_take 33 rfl rfl (by kernel_rfl) (by kernel_rfl) (by kernel_rfl) (want_y rfl rfl rfl rfl (by rw [hg10_32]; rfl)) (fun w hok => x_move (tmP rfl rfl)) ?_
                  refine rg_take 35 rfl rfl (by kernel_rfl) (by kernel_rfl) (by kernel_rfl) (want_y rfl rfl rfl rfl (by rw [hg10_32]; rfl)) (fun w hok => x_move (tmS rfl rfl)) ?_
                  refine rg_take 36 rfl rfl (by kernel_rfl) (by kernel_rfl) (by kernel_rfl) (want_y rfl rfl rfl rfl (by rw [hg10_32]; rfl)) (fun w hok => x_len Try.underlying36 (tmS rfl rfl)) ?_
                  refine rg_step 34 rfl (by kernel_rfl) (want_y rfl rfl rfl rfl (by rw [hg10_32]; rfl)) (oks_drop hS 0 rfl) ?_; intro K hK
                  refine ow_call Try.func91 rfl rfl (evs_cons (tmP rfl rfl) <| evs_nil) (dsafe_c g _ _ _ _ _ _ _ (viewB hS.ok 3 rfl)) ?_
                  rintro e w ⟨rfl, hk⟩
                  refine ⟨_, rfl, ?_⟩
                  replace hS := hS.kept hk
                  clear hk
                  refine hK _ _ ?_; clear hK K
                  refine rg_take 37 rfl rfl (by kernel_rfl) (by kernel_rfl) (by kernel_rfl) (want_y rfl rfl rfl rfl (by rw [hg10_32]; rfl)) (fun w hok => x_eql (tmI rfl rfl) (tmI rfl rfl)) ?_
                  refine rg_take 38 rfl rfl (by kernel_rfl) (by kernel_rfl) (by kernel_rfl) (want_0) (fun w hok => x_pickT (tmB rfl rfl) hg10_32 (tmB rfl rfl)) ?_
                  refine rg_take 39 rfl rfl (by kernel_rfl) (by kernel_rfl) (by kernel_rfl) (want_0) (fun w hok => x_move (tmB rfl rfl)) ?_
                  refine gs_rg (tm (t := 80) rfl) (fun hg10_39 => ?_) (fun hg10_39 => ?_)
                  · have hg10_39' := hg10_39; (try simp only [nrm] at hg10_39'); try (exfalso; first | with_reducible exact absurd hg10_39 Bool.false_ne_true | with_reducible exact absurd hg10_39.symm Bool.false_ne_true | omega | (simp at hg10_39; done))
                    all_goals
                     refine rg_step 40 rfl (by kernel_rfl) (want_y rfl rfl rfl rfl (by rw [hg10_39]; rfl)) (oks_drop hS 0 rfl) ?_; intro K hK
                     refine ow_call Try.func85 rfl rfl (evs_nil) (law24_awake_c _) ?_
                     rintro e w ⟨rfl, hk⟩
                     refine ⟨_, rfl, ?_⟩
                     replace hS := hS.kept hk
                     clear hk
                     refine hK _ _ ?_; clear hK K
                     refine rg_take 41 rfl rfl (by kernel_rfl) (by kernel_rfl) (by kernel_rfl) (want_0) (fun w hok => x_pickT (tmB rfl rfl) hg10_39 (tmB rfl rfl)) ?_
                     refine rg_take 42 rfl rfl (by kernel_rfl) (by kernel_rfl) (by kernel_rfl) (want_0) (fun w hok => x_assign (tmB rfl rfl)) ?_
                     refine rg_done (oks_drop hS 0 rfl) (by kernel_rfl) ?_
                     refine then_n (hK14 _ _ ?_); clear hK14 K14
                     refine wp_ret ?_
                     refine ret1 rfl (.tmp rfl (show _ = Value.bool _ from rfl)) ?_
                     exact ⟨rfl, hS.kp.below⟩
                  have hg10_39' := hg10_39; (try simp only [nrm] at hg10_39'); try (exfalso; first | with_reducible exact absurd hg10_39 Bool.false_ne_true | with_reducible exact absurd hg10_39.symm Bool.false_ne_true | omega | (simp at hg10_39; done))
                  all_goals
                   refine rg_skip 40 rfl rfl (by kernel_rfl) (by kernel_rfl) (by kernel_rfl) (want_n rfl rfl rfl rfl (by rw [hg10_39]; rfl)) ?_
                   refine rg_take 41 rfl rfl (by kernel_rfl) (by kernel_rfl) (by kernel_rfl) (want_0) (fun w hok => x_pickF (tmB rfl rfl) hg10_39 ev_c) ?_
                   refine rg_take 42 rfl rfl (by kernel_rfl) (by kernel_rfl) (by kernel_rfl) (want_0) (fun w hok => x_assign (tmB rfl rfl)) ?_
                   refine rg_done (oks_drop hS 0 rfl) (by kernel_rfl) ?_
                   refine then_n (hK14 _ _ ?_); clear hK14 K14
                   refine wp_ret ?_
                   refine ret1 rfl (.tmp rfl (show _ = Value.bool _ from rfl)) ?_
                   exact ⟨rfl, hS.kp.below⟩
              have hg10_22' := hg10_22; (try simp only [nrm] at hg10_22'); try (exfalso; first | with_reducible exact absurd hg10_22 Bool.false_ne_true | with_reducible exact absurd hg10_22.symm Bool.false_ne_true | omega | (simp at hg10_22; done))
              all_goals
               refine rg_skip 23 rfl rfl (by kernel_rfl) (by kernel_rfl) (by kernel_rfl) (want_n rfl rfl rfl rfl (by rw [hg10_22]; rfl)) ?_
               refine rg_skip 24 rfl rfl (by kernel_rfl) (by kernel_rfl) (by kernel_rfl) (want_n rfl rfl rfl rfl (by rw [hg10_22]; rfl)) ?_
               refine rg_skip 25 rfl rfl (by kernel_rfl) (by kernel_rfl) (by kernel_rfl) (want_n rfl rfl rfl rfl (by rw [hg10_22]; rfl)) ?_
               refine rg_skip 26 rfl rfl (by kernel_rfl) (by kernel_rfl) (by kernel_rfl) (want_n rfl rfl rfl rfl (by rw [hg10_22]; rfl)) ?_
               refine rg_skip 27 rfl rfl (by kernel_rfl) (by kernel_rfl) (by kernel_rfl) (want_n rfl rfl rfl rfl (by rw [hg10_22]; rfl)) ?_
               refine rg_skip 28 rfl rfl (by kernel_rfl) (by kernel_rfl) (by kernel_rfl) (want_n rfl rfl rfl rfl (by rw [hg10_22]; rfl)) ?_
               refine rg_skip 29 rfl rfl (by kernel_rfl) (by kernel_rfl) (by kernel_rfl) (want_n rfl rfl rfl rfl (by rw [hg10_22]; rfl)) ?_
               refine rg_skip 30 rfl rfl (by kernel_rfl) (by kernel_rfl) (by kernel_rfl) (want_n rfl rfl rfl rfl (by rw [hg10_22]; rfl)) ?_
               refine rg_take 31 rfl rfl (by kernel_rfl) (by kernel_rfl) (by kernel_rfl) (want_0) (fun w hok => x_pickF (tmB rfl rfl) hg10_22 ev_c) ?_
               refine rg_take 32 rfl rfl (by kernel_rfl) (by kernel_rfl) (by kernel_rfl) (want_0) (fun w hok => x_move (tmB rfl rfl)) ?_
               refine rg_skip 33 rfl rfl (by kernel_rfl) (by kernel_rfl) (by kernel_rfl) (want_n rfl rfl rfl rfl rfl) ?_
               refine rg_skip 34 rfl rfl (by kernel_rfl) (by kernel_rfl) (by kernel_rfl) (want_n rfl rfl rfl rfl rfl) ?_
               refine rg_skip 35 rfl rfl (by kernel_rfl) (by kernel_rfl) (by kernel_rfl) (want_n rfl rfl rfl rfl rfl) ?_
               refine rg_skip 36 rfl rfl (by kernel_rfl) (by kernel_rfl) (by kernel_rfl) (want_n rfl rfl rfl rfl rfl) ?_
               refine rg_skip 37 rfl rfl (by kernel_rfl) (by kernel_rfl) (by kernel_rfl) (want_n rfl rfl rfl rfl rfl) ?_
               refine rg_take 38 rfl rfl (by kernel_rfl) (by kernel_rfl) (by kernel_rfl) (want_0) (fun w hok => x_pickF (tmB rfl rfl) rfl ev_c) ?_
               refine rg_take 39 rfl rfl (by kernel_rfl) (by kernel_rfl) (by kernel_rfl) (want_0) (fun w hok => x_move (tmB rfl rfl)) ?_
               refine rg_skip 40 rfl rfl (by kernel_rfl) (by kernel_rfl) (by kernel_rfl) (want_n rfl rfl rfl rfl rfl) ?_
               refine rg_take 41 rfl rfl (by kernel_rfl) (by kernel_rfl) (by kernel_rfl) (want_0) (fun w hok => x_pickF (tmB rfl rfl) rfl ev_c) ?_
               refine rg_take 42 rfl rfl (by kernel_rfl) (by kernel_rfl) (by kernel_rfl) (want_0) (fun w hok => x_assign (tmB rfl rfl)) ?_
               refine rg_done (oks_drop hS 0 rfl) (by kernel_rfl) ?_
               refine then_n (hK14 _ _ ?_); clear hK14 K14
               refine wp_ret ?_
               refine ret1 rfl (.tmp rfl (show _ = Value.bool _ from rfl)) ?_
               exact ⟨rfl, hS.kp.below⟩
           have hg10_10' := hg10_10; (try simp only [nrm] at hg10_10'); try (exfalso; first | with_reducible exact absurd hg10_10 Bool.false_ne_true | with_reducible exact absurd hg10_10.symm Bool.false_ne_true | omega | (simp at hg10_10; done))
           all_goals
            refine rg_skip 11 rfl rfl (by kernel_rfl) (by kernel_rfl) (by kernel_rfl) (want_n rfl rfl rfl rfl (by rw [hg10_10]; rfl)) ?_
            refine rg_skip 12 rfl rfl (by kernel_rfl) (by kernel_rfl) (by kernel_rfl) (want_n rfl rfl rfl rfl (by rw [hg10_10]; rfl)) ?_
            refine rg_skip 13 rfl rfl (by kernel_rfl) (by kernel_rfl) (by kernel_rfl) (want_n rfl rfl rfl rfl (by rw [hg10_10]; rfl)) ?_
            refine rg_skip 14 rfl rfl (by kernel_rfl) (by kernel_rfl) (by kernel_rfl) (want_n rfl rfl rfl rfl (by rw [hg10_10]; rfl)) ?_
            refine rg_skip 15 rfl rfl (by kernel_rfl) (by kernel_rfl) (by kernel_rfl) (want_n rfl rfl rfl rfl (by rw [hg10_10]; rfl)) ?_
            refine rg_skip 16 rfl rfl (by kernel_rfl) (by kernel_rfl) (by kernel_rfl) (want_n rfl rfl rfl rfl (by rw [hg10_10]; rfl)) ?_
            refine rg_skip 17 rfl rfl (by kernel_rfl) (by kernel_rfl) (by kernel_rfl) (want_n rfl rfl rfl rfl (by rw [hg10_10]; rfl)) ?_
            refine rg_skip 18 rfl rfl (by kernel_rfl) (by kernel_rfl) (by kernel_rfl) (want_n rfl rfl rfl rfl (by rw [hg10_10]; rfl)) ?_
            refine rg_skip 19 rfl rfl (by kernel_rfl) (by kernel_rfl) (by kernel_rfl) (want_n rfl rfl rfl rfl (by rw [hg10_10]; rfl)) ?_
            refine rg_skip 20 rfl rfl (by kernel_rfl) (by kernel_rfl) (by kernel_rfl) (want_n rfl rfl rfl rfl (by rw [hg10_10]; rfl)) ?_
            refine rg_take 21 rfl rfl (by kernel_rfl) (by kernel_rfl) (by kernel_rfl) (want_0) (fun w hok => x_pickF (tmB rfl rfl) hg10_10 ev_c) ?_
            refine rg_take 22 rfl rfl (by kernel_rfl) (by kernel_rfl) (by kernel_rfl) (want_0) (fun w hok => x_move (tmB rfl rfl)) ?_
            refine rg_skip 23 rfl rfl (by kernel_rfl) (by kernel_rfl) (by kernel_rfl) (want_n rfl rfl rfl rfl rfl) ?_
            refine rg_skip 24 rfl rfl (by kernel_rfl) (by kernel_rfl) (by kernel_rfl) (want_n rfl rfl rfl rfl rfl) ?_
            refine rg_skip 25 rfl rfl (by kernel_rfl) (by kernel_rfl) (by kernel_rfl) (want_n rfl rfl rfl rfl rfl) ?_
            refine rg_skip 26 rfl rfl (by kernel_rfl) (by kernel_rfl) (by kernel_rfl) (want_n rfl rfl rfl rfl rfl) ?_
            refine rg_skip 27 rfl rfl (by kernel_rfl) (by kernel_rfl) (by kernel_rfl) (want_n rfl rfl rfl rfl rfl) ?_
            refine rg_skip 28 rfl rfl (by kernel_rfl) (by kernel_rfl) (by kernel_rfl) (want_n rfl rfl rfl rfl rfl) ?_
            refine rg_skip 29 rfl rfl (by kernel_rfl) (by kernel_rfl) (by kernel_rfl) (want_n rfl rfl rfl rfl rfl) ?_
            refine rg_skip 30 rfl rfl (by kernel_rfl) (by kernel_rfl) (by kernel_rfl) (want_n rfl rfl rfl rfl rfl) ?_
            refine rg_take 31 rfl rfl (by kernel_rfl) (by kernel_rfl) (by kernel_rfl) (want_0) (fun w hok => x_pickF (tmB rfl rfl) rfl ev_c) ?_
            refine rg_take 32 rfl rfl (by kernel_rfl) (by kernel_rfl) (by kernel_rfl) (want_0) (fun w hok => x_move (tmB rfl rfl)) ?_
            refine rg_skip 33 rfl rfl (by kernel_rfl) (by kernel_rfl) (by kernel_rfl) (want_n rfl rfl rfl rfl rfl) ?_
            refine rg_skip 34 rfl rfl (by kernel_rfl) (by kernel_rfl) (by kernel_rfl) (want_n rfl rfl rfl rfl rfl) ?_
            refine rg_skip 35 rfl rfl (by kernel_rfl) (by kernel_rfl) (by kernel_rfl) (want_n rfl rfl rfl rfl rfl) ?_
            refine rg_skip 36 rfl rfl (by kernel_rfl) (by kernel_rfl) (by kernel_rfl) (want_n rfl rfl rfl rfl rfl) ?_
            refine rg_skip 37 rfl rfl (by kernel_rfl) (by kernel_rfl) (by kernel_rfl) (want_n rfl rfl rfl rfl rfl) ?_
            refine rg_take 38 rfl rfl (by kernel_rfl) (by kernel_rfl) (by kernel_rfl) (want_0) (fun w hok => x_pickF (tmB rfl rfl) rfl ev_c) ?_
            refine rg_take 39 rfl rfl (by kernel_rfl) (by kernel_rfl) (by kernel_rfl) (want_0) (fun w hok => x_move (tmB rfl rfl)) ?_
            refine rg_skip 40 rfl rfl (by kernel_rfl) (by kernel_rfl) (by kernel_rfl) (want_n rfl rfl rfl rfl rfl) ?_
            refine rg_take 41 rfl rfl (by kernel_rfl) (by kernel_rfl) (by kernel_rfl) (want_0) (fun w hok => x_pickF (tmB rfl rfl) rfl ev_c) ?_
            refine rg_take 42 rfl rfl (by kernel_rfl) (by kernel_rfl) (by kernel_rfl) (want_0) (fun w hok => x_assign (tmB rfl rfl)) ?_
            refine rg_done (oks_drop hS 0 rfl) (by kernel_rfl) ?_
            refine then_n (hK14 _ _ ?_); clear hK14 K14
            refine wp_ret ?_
            refine ret1 rfl (.tmp rfl (show _ = Value.bool _ from rfl)) ?_
            exact ⟨rfl, hS.kp.below⟩
        have hg10_6' := hg10_6; (try simp only [nrm] at hg10_6'); try (exfalso; first | with_reducible exact absurd hg10_6 Bool.false_ne_true | with_reducible exact absurd hg10_6.symm Bool.false_ne_true | omega | (simp at hg10_6; done))
        all_goals
         refine rg_skip 7 rfl rfl (by kernel_rfl) (by kernel_rfl) (by kernel_rfl) (want_n rfl rfl rfl rfl (by rw [hg10_6]; rfl)) ?_
         refine rg_skip 8 rfl rfl (by kernel_rfl) (by kernel_rfl) (by kernel_rfl) (want_n rfl rfl rfl rfl (by rw [hg10_6]; rfl)) ?_
         refine rg_take 9 rfl rfl (by kernel_rfl) (by kernel_rfl) (by kernel_rfl) (want_0) (fun w hok => x_pickF (tmB rfl rfl) hg10_6 ev_c) ?_
         refine rg_take 10 rfl rfl (by kernel_rfl) (by kernel_rfl) (by kernel_rfl) (want_0) (fun w hok => x_move (tmB rfl rfl)) ?_
         refine rg_skip 11 rfl rfl (by kernel_rfl) (by kernel_rfl) (by kernel_rfl) (want_n rfl rfl rfl rfl rfl) ?_
         refine rg_skip 12 rfl rfl (by kernel_rfl) (by kernel_rfl) (by kernel_rfl) (want_n rfl rfl rfl rfl rfl) ?_
         refine rg_skip 13 rfl rfl (by kernel_rfl) (by kernel_rfl) (by kernel_rfl) (want_n rfl rfl rfl rfl rfl) ?_
         refine rg_skip 14 rfl rfl (by kernel_rfl) (by kernel_rfl) (by kernel_rfl) (want_n rfl rfl rfl rfl rfl) ?_
         refine rg_skip 15 rfl rfl (by kernel_rfl) (by kernel_rfl) (by kernel_rfl) (want_n rfl rfl rfl rfl rfl) ?_
         refine rg_skip 16 rfl rfl (by kernel_rfl) (by kernel_rfl) (by kernel_rfl) (want_n rfl rfl rfl rfl rfl) ?_
         refine rg_skip 17 rfl rfl (by kernel_rfl) (by kernel_rfl) (by kernel_rfl) (want_n rfl rfl rfl rfl rfl) ?_
         refine rg_skip 18 rfl rfl (by kernel_rfl) (by kernel_rfl) (by kernel_rfl) (want_n rfl rfl rfl rfl rfl) ?_
         refine rg_skip 19 rfl rfl (by kernel_rfl) (by kernel_rfl) (by kernel_rfl) (want_n rfl rfl rfl rfl rfl) ?_
         refine rg_skip 20 rfl rfl (by kernel_rfl) (by kernel_rfl) (by kernel_rfl) (want_n rfl rfl rfl rfl rfl) ?_
         refine rg_take 21 rfl rfl (by kernel_rfl) (by kernel_rfl) (by kernel_rfl) (want_0) (fun w hok => x_pickF (tmB rfl rfl) rfl ev_c) ?_
         refine rg_take 22 rfl rfl (by kernel_rfl) (by kernel_rfl) (by kernel_rfl) (want_0) (fun w hok => x_move (tmB rfl rfl)) ?_
         refine rg_skip 23 rfl rfl (by kernel_rfl) (by kernel_rfl) (by kernel_rfl) (want_n rfl rfl rfl rfl rfl) ?_
         refine rg_skip 24 rfl rfl (by kernel_rfl) (by kernel_rfl) (by kernel_rfl) (want_n rfl rfl rfl rfl rfl) ?_
         refine rg_skip 25 rfl rfl (by kernel_rfl) (by kernel_rfl) (by kernel_rfl) (want_n rfl rfl rfl rfl rfl) ?_
         refine rg_skip 26 rfl rfl (by kernel_rfl) (by kernel_rfl) (by kernel_rfl) (want_n rfl rfl rfl rfl rfl) ?_
         refine rg_skip 27 rfl rfl (by kernel_rfl) (by kernel_rfl) (by kernel_rfl) (want_n rfl rfl rfl rfl rfl) ?_
         refine rg_skip 28 rfl rfl (by kernel_rfl) (by kernel_rfl) (by kernel_rfl) (want_n rfl rfl rfl rfl rfl) ?_
         refine rg_skip 29 rfl rfl (by kernel_rfl) (by kernel_rfl) (by kernel_rfl) (want_n rfl rfl rfl rfl rfl) ?_
         refine rg_skip 30 rfl rfl (by kernel_rfl) (by kernel_rfl) (by kernel_rfl) (want_n rfl rfl rfl rfl rfl) ?_
         refine rg_take 31 rfl rfl (by kernel_rfl) (by kernel_rfl) (by kernel_rfl) (want_0) (fun w hok => x_pickF (tmB rfl rfl) rfl ev_c) ?_
         refine rg_take 32 rfl rfl (by kernel_rfl) (by kernel_rfl) (by kernel_rfl) (want_0) (fun w hok => x_move (tmB rfl rfl)) ?_
         refine rg_skip 33 rfl rfl (by kernel_rfl) (by kernel_rfl) (by kernel_rfl) (want_n rfl rfl rfl rfl rfl) ?_
         refine rg_skip 34 rfl rfl (by kernel_rfl) (by kernel_rfl) (by kernel_rfl) (want_n rfl rfl rfl rfl rfl) ?_
         refine rg_skip 35 rfl rfl (by kernel_rfl) (by kernel_rfl) (by kernel_rfl) (want_n rfl rfl rfl rfl rfl) ?_
         refine rg_skip 36 rfl rfl (by kernel_rfl) (by kernel_rfl) (by kernel_rfl) (want_n rfl rfl rfl rfl rfl) ?_
         refine rg_skip 37 rfl rfl (by kernel_rfl) (by kernel_rfl) (by kernel_rfl) (want_n rfl rfl rfl rfl rfl) ?_
         refine rg_take 38 rfl rfl (by kernel_rfl) (by kernel_rfl) (by kernel_rfl) (want_0) (fun w hok => x_pickF (tmB rfl rfl) rfl ev_c) ?_
         refine rg_take 39 rfl rfl (by kernel_rfl) (by kernel_rfl) (by kernel_rfl) (want_0) (fun w hok => x_move (tmB rfl rfl)) ?_
         refine rg_skip 40 rfl rfl (by kernel_rfl) (by kernel_rfl) (by kernel_rfl) (want_n rfl rfl rfl rfl rfl) ?_
         refine rg_take 41 rfl rfl (by kernel_rfl) (by kernel_rfl) (by kernel_rfl) (want_0) (fun w hok => x_pickF (tmB rfl rfl) rfl ev_c) ?_
         refine rg_take 42 rfl rfl (by kernel_rfl) (by kernel_rfl) (by kernel_rfl) (want_0) (fun w hok => x_assign (tmB rfl rfl)) ?_
         refine rg_done (oks_drop hS 0 rfl) (by kernel_rfl) ?_
         refine then_n (hK14 _ _ ?_); clear hK14 K14
         refine wp_ret ?_
         refine ret1 rfl (.tmp rfl (show _ = Value.bool _ from rfl)) ?_
         exact ⟨rfl, hS.kp.below⟩
     have hg10_2' := hg10_2; (try simp only [nrm] at hg10_2'); try (exfalso; first | with_reducible exact absurd hg10_2 Bool.false_ne_true | with_reducible exact absurd hg10_2.symm Bool.false_ne_true | omega | (simp at hg10_2; done))
     all_goals
      refine rg_skip 3 rfl rfl (by kernel_rfl) (by kernel_rfl) (by kernel_rfl) (want_n rfl rfl rfl rfl (by rw [hg10_2]; rfl)) ?_
      refine rg_skip 4 rfl rfl (by kernel_rfl) (by kernel_rfl) (by kernel_rfl) (want_n rfl rfl rfl rfl (by rw [hg10_2]; rfl)) ?_
      refine rg_take 5 rfl rfl (by kernel_rfl) (by kernel_rfl) (by kernel_rfl) (want_0) (fun w hok => x_pickF (tmB rfl rfl) hg10_2 ev_c) ?_
      refine rg_take 6 rfl rfl (by kernel_rfl) (by kernel_rfl) (by kernel_rfl) (want_0) (fun w hok => x_move (tmB rfl rfl)) ?_
      refine rg_skip 7 rfl rfl (by kernel_rfl) (by kernel_rfl) (by kernel_rfl) (want_n rfl rfl rfl rfl rfl) ?_
      refine rg_skip 8 rfl rfl (by kernel_rfl) (by kernel_rfl) (by kernel_rfl) (want_n rfl rfl rfl rfl rfl) ?_
      refine rg_take 9 rfl rfl (by kernel_rfl) (by kernel_rfl) (by kernel_rfl) (want_0) (fun w hok => x_pickF (tmB rfl rfl) rfl ev_c) ?_
      refine rg_take 10 rfl rfl (by kernel_rfl) (by kernel_rfl) (by kernel_rfl) (want_0) (fun w hok => x_move (tmB rfl rfl)) ?_
      refine rg_skip 11 rfl rfl (by kernel_rfl) (by kernel_rfl) (by kernel_rfl) (want_n rfl rfl rfl rfl rfl) ?_
      refine rg_skip 12 rfl rfl (by kernel_rfl) (by kernel_rfl) (by kernel_rfl) (want_n rfl rfl rfl rfl rfl) ?_
      refine rg_skip 13 rfl rfl (by kernel_rfl) (by kernel_rfl) (by kernel_rfl) (want_n rfl rfl rfl rfl rfl) ?_
      refine rg_skip 14 rfl rfl (by kernel_rfl) (by kernel_rfl) (by kernel_rfl) (want_n rfl rfl rfl rfl rfl) ?_
      refine rg_skip 15 rfl rfl (by kernel_rfl) (by kernel_rfl) (by kernel_rfl) (want_n rfl rfl rfl rfl rfl) ?_
      refine rg_skip 16 rfl rfl (by kernel_rfl) (by kernel_rfl) (by kernel_rfl) (want_n rfl rfl rfl rfl rfl) ?_
      refine rg_skip 17 rfl rfl (by kernel_rfl) (by kernel_rfl) (by kernel_rfl) (want_n rfl rfl rfl rfl rfl) ?_
      refine rg_skip 18 rfl rfl (by kernel_rfl) (by kernel_rfl) (by kernel_rfl) (want_n rfl rfl rfl rfl rfl) ?_
      refine rg_skip 19 rfl rfl (by kernel_rfl) (by kernel_rfl) (by kernel_rfl) (want_n rfl rfl rfl rfl rfl) ?_
      refine rg_skip 20 rfl rfl (by kernel_rfl) (by kernel_rfl) (by kernel_rfl) (want_n rfl rfl rfl rfl rfl) ?_
      refine rg_take 21 rfl rfl (by kernel_rfl) (by kernel_rfl) (by kernel_rfl) (want_0) (fun w hok => x_pickF (tmB rfl rfl) rfl ev_c) ?_
      refine rg_take 22 rfl rfl (by kernel_rfl) (by kernel_rfl) (by kernel_rfl) (want_0) (fun w hok => x_move (tmB rfl rfl)) ?_
      refine rg_skip 23 rfl rfl (by kernel_rfl) (by kernel_rfl) (by kernel_rfl) (want_n rfl rfl rfl rfl rfl) ?_
      refine rg_skip 24 rfl rfl (by kernel_rfl) (by kernel_rfl) (by kernel_rfl) (want_n rfl rfl rfl rfl rfl) ?_
      refine rg_skip 25 rfl rfl (by kernel_rfl) (by kernel_rfl) (by kernel_rfl) (want_n rfl rfl rfl rfl rfl) ?_
      refine rg_skip 26 rfl rfl (by kernel_rfl) (by kernel_rfl) (by kernel_rfl) (want_n rfl rfl rfl rfl rfl) ?_
      refine rg_skip 27 rfl rfl (by kernel_rfl) (by kernel_rfl) (by kernel_rfl) (want_n rfl rfl rfl rfl rfl) ?_
      refine rg_skip 28 rfl rfl (by kernel_rfl) (by kernel_rfl) (by kernel_rfl) (want_n rfl rfl rfl rfl rfl) ?_
      refine rg_skip 29 rfl rfl (by kernel_rfl) (by kernel_rfl) (by kernel_rfl) (want_n rfl rfl rfl rfl rfl) ?_
      refine rg_skip 30 rfl rfl (by kernel_rfl) (by kernel_rfl) (by kernel_rfl) (want_n rfl rfl rfl rfl rfl) ?_
      refine rg_take 31 rfl rfl (by kernel_rfl) (by kernel_rfl) (by kernel_rfl) (want_0) (fun w hok => x_pickF (tmB rfl rfl) rfl ev_c) ?_
      refine rg_take 32 rfl rfl (by kernel_rfl) (by kernel_rfl) (by kernel_rfl) (want_0) (fun w hok => x_move (tmB rfl rfl)) ?_
      refine rg_skip 33 rfl rfl (by kernel_rfl) (by kernel_rfl) (by kernel_rfl) (want_n rfl rfl rfl rfl rfl) ?_
      refine rg_skip 34 rfl rfl (by kernel_rfl) (by kernel_rfl) (by kernel_rfl) (want_n rfl rfl rfl rfl rfl) ?_
      refine rg_skip 35 rfl rfl (by kernel_rfl) (by kernel_rfl) (by kernel_rfl) (want_n rfl rfl rfl rfl rfl) ?_
      refine rg_skip 36 rfl rfl (by kernel_rfl) (by kernel_rfl) (by kernel_rfl) (want_n rfl rfl rfl rfl rfl) ?_
      refine rg_skip 37 rfl rfl (by kernel_rfl) (by kernel_rfl) (by kernel_rfl) (want_n rfl rfl rfl rfl rfl) ?_
      refine rg_take 38 rfl rfl (by kernel_rfl) (by kernel_rfl) (by kernel_rfl) (want_0) (fun w hok => x_pickF (tmB rfl rfl) rfl ev_c) ?_
      refine rg_take 39 rfl rfl (by kernel_rfl) (by kernel_rfl) (by kernel_rfl) (want_0) (fun w hok => x_move (tmB rfl rfl)) ?_
      refine rg_skip 40 rfl rfl (by kernel_rfl) (by kernel_rfl) (by kernel_rfl) (want_n rfl rfl rfl rfl rfl) ?_
      refine rg_take 41 rfl rfl (by kernel_rfl) (by kernel_rfl) (by kernel_rfl) (want_0) (fun w hok => x_pickF (tmB rfl rfl) rfl ev_c) ?_
      refine rg_take 42 rfl rfl (by kernel_rfl) (by kernel_rfl) (by kernel_rfl) (want_0) (fun w hok => x_assign (tmB rfl rfl)) ?_
      refine rg_done (oks_drop hS 0 rfl) (by kernel_rfl) ?_
      refine then_n (hK14 _ _ ?_); clear hK14 K14
      refine wp_ret ?_
      refine ret1 rfl (.tmp rfl (show _ = Value.bool _ from rfl)) ?_
      exact ⟨rfl, hS.kp.below⟩
end DiskKeeps
end Go.Proofs.Ytchpcijmgnfkfaa
