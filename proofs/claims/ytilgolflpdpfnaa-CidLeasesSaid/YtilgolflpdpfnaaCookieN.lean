
/- cookie: Right, Word, Of, mask, Hide and Seek by contract; the law's awake. Conditions: none but bounds. -/
import Derived.Test.YtilgolflpdpfnaaFlow
import Derived.Test.YtilgolflpdpfnaaRingA
namespace Go.Proofs.Ytilgolflpdpfnaa
open Go.RowKit
set_option maxRecDepth 100000 in
set_option maxHeartbeats 4000000 in
theorem fold15_c (N : Nat) (w0 : World) (hN : N ≤ 18446744073709551615) :
    Calls Try.prog 149 #[.int .u64 (N : Int), .int .i64 15] w0 fun e w' => e = .returned (.int .u64 ((N % 32768 : Nat) : Int)) ∧ Kp [] w0 w' := by
  have hS := St.sv w0
  have hm : N &&& (1 * 2 ^ 15 - 1) = N % 32768 := Nat.and_two_pow_sub_one_eq_mod N 15
  refine ent (n := 17) Try.func149 rfl rfl ?_
  refine wp_seq_k ?_; intro K1 hK1
  refine wlit ?_
  refine wl_v (x_assign (ev_cN 0)) ?_
  refine wl_nil ?_
  refine then_n (hK1 _ _ ?_); clear hK1 K1
  refine wp_seq_k ?_; intro K2 hK2
  refine wp_seq_k ?_; intro K3 hK3
  refine wlit ?_
  refine wl_v (x_move (tmI rfl rfl)) ?_
  refine wl_v (x_lss (tmI rfl rfl) (ev_cN 1)) ?_
  refine wl_v (x_move (tmB rfl rfl)) ?_
  refine gs_wl (tm (t := 7) rfl) (fun hg1_2 => ?_) (fun hg1_2 => ?_)
  · have hg1_2' := hg1_2; (try simp only [nrm] at hg1_2'); try (exfalso; first | with_reducible exact absurd hg1_2 Bool.false_ne_true | with_reducible exact absurd hg1_2.symm Bool.false_ne_true | omega | (simp at hg1_2; done))
    all_goals
     refine wl_s rfl (want_n rfl rfl rfl rfl (by rw [hg1_2]; rfl)) ?_
     refine wl_s rfl (want_n rfl rfl rfl rfl (by rw [hg1_2]; rfl)) ?_
     refine wl_v (x_pickT (tmB rfl rfl) hg1_2 ev_c) ?_
     refine wl_nil ?_
     refine then_n (hK3 _ _ ?_); clear hK3 K3
     refine cnd_t (tmB rfl rfl) rfl ?_
     refine wp_seq_k ?_; intro K4 hK4
     refine wlit ?_
     refine wl_v (x_move (tmI rfl rfl)) ?_
     refine wl_v (x_assign (tmI rfl rfl)) ?_
     refine wl_nil ?_
     refine then_n (hK4 _ _ ?_); clear hK4 K4
     refine wp_ret ?_
     refine then_r ?_
     refine ret1 rfl (.tmp rfl (show _ = Value.int _ _ from rfl)) ?_
     refine ⟨?_, hS.kp⟩
     rw [← hm]
     first | done | rfl
  have hg1_2' := hg1_2; (try simp only [nrm] at hg1_2'); try (exfalso; first | with_reducible exact absurd hg1_2 Bool.false_ne_true | with_reducible exact absurd hg1_2.symm Bool.false_ne_true | omega | (simp at hg1_2; done))
  all_goals
   refine wl_gv (want_y rfl rfl rfl rfl (by rw [hg1_2]; rfl)) (x_move (tmI rfl rfl)) ?_
   refine wl_gv (want_y rfl rfl rfl rfl (by rw [hg1_2]; rfl)) (x_gtr (tmI rfl rfl) (ev_cN 63)) ?_
   refine wl_v (x_pickF (tmB rfl rfl) hg1_2 (tmB rfl rfl)) ?_
   refine wl_nil ?_
   refine then_n (hK3 _ _ ?_); clear hK3 K3
   refine cnd (tm rfl) (fun hc0 => ?_) (fun hc0 => ?_)
   · exfalso
     simp at hc0
   try (exfalso; first | with_reducible exact absurd hc0 Bool.false_ne_true | with_reducible exact absurd hc0.symm Bool.false_ne_true | (simp only [nrm] at hc0; omega) | (simp at hc0; done))
   all_goals
    try simp only [nrm] at hc0
    refine wp_skip ?_
    refine then_n (hK2 _ _ ?_); clear hK2 K2
    refine wp_seq_k ?_; intro K5 hK5
    refine wlit ?_
    refine wl_v (x_move (tmI rfl rfl)) ?_
    refine wl_v (x_move (tmI rfl rfl)) ?_
    refine wl_v (x_shlN (n := 15) (ev_cN 1) (tmI rfl rfl) (by decide) (fit_u64 (by omega))) ?_
    refine wl_v (x_subN (tmI rfl rfl) (ev_cN 1) (fit_u64 (by omega)) (by omega)) ?_
    refine wl_v (x_andN (tmI rfl rfl) (tmI rfl rfl) (fit_u64 (by omega)) (fit_u64 (by omega))) ?_
    refine wl_v (x_assign (tmI rfl rfl)) ?_
    refine wl_nil ?_
    refine then_n (hK5 _ _ ?_); clear hK5 K5
    refine wp_ret ?_
    refine ret1 rfl (.tmp rfl (show _ = Value.int _ _ from rfl)) ?_
    refine ⟨?_, hS.kp⟩
    rw [← hm]
    first | done | rfl
def plV (v s : Int) : List Value := [.int .i64 v, .int .i64 s]
set_option maxRecDepth 100000 in
set_option maxHeartbeats 4000000 in
theorem place_right_c (v s : Nat) (w0 : World) (hv : v < 8) (hs : s < 4096) :
    Calls Try.prog 62 #[.agg (plV v s).toArray] w0 fun e w' => e = .returned (.bool true) ∧ Kp [] w0 w' := by
  have hS := St.sv w0
  refine ent (n := 21) Try.func62 rfl rfl ?_
  refine wp_seq_k ?_; intro K1 hK1
  refine wlit ?_
  refine wl_e rfl ?_; intro K hK
  refine ow_box hS (tmA rfl rfl) rfl ?_
  clear hS; intro g0_0 w hg0_0 hS
  refine hK _ _ ?_; clear hK K
  refine wl_v (x_assign ev_c) ?_
  refine wl_nil ?_
  refine then_n (hK1 _ _ ?_); clear hK1 K1
  refine wp_seq_k ?_; intro K2 hK2
  refine wlit ?_
  refine wl_v (x_fa 0 Try.underlying88 rfl rfl ts_3 (tmP rfl rfl)) ?_
  first
   | refine wl_v (x_load Try.underlying3 rfl (tmP rfl rfl) (cellB hS.ok 0 rfl rfl)) ?_
   | refine wl_v (x_load Try.underlying3 rfl (tmP rfl rfl) (cellB hS.ok 0 rfl (getm (by omega)))) ?_
  refine wl_v (x_geq (tmI rfl rfl) (ev_cN 0)) ?_
  refine wl_v (x_move (tmB rfl rfl)) ?_
  refine gs_wls (tm (t := 6) rfl) (fun hg1_3 => ?_) (fun hg1_3 => ?_)
  · exfalso
    first | (simp at hg1_3; done) | (simp at hg1_3; omega)
  have hg1_3' := hg1_3; (try simp only [nrm] at hg1_3'); try (exfalso; first | with_reducible exact absurd hg1_3 Bool.false_ne_true | with_reducible exact absurd hg1_3.symm Bool.false_ne_true | omega | (simp at hg1_3; done))
  all_goals
   refine wl_gv (want_y rfl rfl rfl rfl (by rw [hg1_3]; rfl)) (x_fa 0 Try.underlying88 rfl rfl ts_3 (tmP rfl rfl)) ?_
   first
    | refine wl_gv (want_y rfl rfl rfl rfl (by rw [hg1_3]; rfl)) (x_load Try.underlying3 rfl (tmP rfl rfl) (cellB hS.ok 0 rfl rfl)) ?_
    | refine wl_gv (want_y rfl rfl rfl rfl (by rw [hg1_3]; rfl)) (x_load Try.underlying3 rfl (tmP rfl rfl) (cellB hS.ok 0 rfl (getm (by omega)))) ?_
   refine wl_gv (want_y rfl rfl rfl rfl (by rw [hg1_3]; rfl)) (x_lss (tmI rfl rfl) (ev_cN 8)) ?_
   refine wl_v (x_pickT (tmB rfl rfl) hg1_3 (tmB rfl rfl)) ?_
   refine wl_v (x_move (tmB rfl rfl)) ?_
   refine gs_wls (tm (t := 11) rfl) (fun hg1_8 => ?_) (fun hg1_8 => ?_)
   · exfalso
     first | (simp at hg1_8; done) | (simp at hg1_8; omega)
   have hg1_8' := hg1_8; (try simp only [nrm] at hg1_8'); try (exfalso; first | with_reducible exact absurd hg1_8 Bool.false_ne_true | with_reducible exact absurd hg1_8.symm Bool.false_ne_true | omega | (simp at hg1_8; done))
   all_goals
    refine wl_gv (want_y rfl rfl rfl rfl (by rw [hg1_8]; rfl)) (x_fa 1 Try.underlying88 rfl rfl ts_3 (tmP rfl rfl)) ?_
    first
     | refine wl_gv (want_y rfl rfl rfl rfl (by rw [hg1_8]; rfl)) (x_load Try.underlying3 rfl (tmP rfl rfl) (cellB hS.ok 0 rfl rfl)) ?_
     | refine wl_gv (want_y rfl rfl rfl rfl (by rw [hg1_8]; rfl)) (x_load Try.underlying3 rfl (tmP rfl rfl) (cellB hS.ok 0 rfl (getm (by omega)))) ?_
    refine wl_gv (want_y rfl rfl rfl rfl (by rw [hg1_8]; rfl)) (x_geq (tmI rfl rfl) (ev_cN 0)) ?_
    refine wl_v (x_pickT (tmB rfl rfl) hg1_8 (tmB rfl rfl)) ?_
    refine wl_v (x_move (tmB rfl rfl)) ?_
    refine gs_wls (tm (t := 16) rfl) (fun hg1_13 => ?_) (fun hg1_13 => ?_)
    · exfalso
      first | (simp at hg1_13; done) | (simp at hg1_13; omega)
    have hg1_13' := hg1_13; (try simp only [nrm] at hg1_13'); try (exfalso; first | with_reducible exact absurd hg1_13 Bool.false_ne_true | with_reducible exact absurd hg1_13.symm Bool.false_ne_true | omega | (simp at hg1_13; done))
    all_goals
     refine wl_gv (want_y rfl rfl rfl rfl (by rw [hg1_13]; rfl)) (x_fa 1 Try.underlying88 rfl rfl ts_3 (tmP rfl rfl)) ?_
     first
      | refine wl_gv (want_y rfl rfl rfl rfl (by rw [hg1_13]; rfl)) (x_load Try.underlying3 rfl (tmP rfl rfl) (cellB hS.ok 0 rfl rfl)) ?_
      | refine wl_gv (want_y rfl rfl rfl rfl (by rw [hg1_13]; rfl)) (x_load Try.underlying3 rfl (tmP rfl rfl) (cellB hS.ok 0 rfl (getm (by omega)))) ?_
     refine wl_gv (want_y rfl rfl rfl rfl (by rw [hg1_13]; rfl)) (x_lss (tmI rfl rfl) (ev_cN 4096)) ?_
     refine wl_v (x_pickT (tmB rfl rfl) hg1_13 (tmB rfl rfl)) ?_
     refine wl_v (x_assign (tmB rfl rfl)) ?_
     refine wl_nil ?_
     refine then_n (hK2 _ _ ?_); clear hK2 K2
     refine wp_ret ?_
     refine ret1 rfl (.tmp rfl (show _ = Value.bool _ from rfl)) ?_
     exact ⟨ret_bool (by simp; omega), hS.kp⟩
set_option maxRecDepth 100000 in
set_option maxHeartbeats 4000000 in
theorem place_word_c (v s : Nat) (w0 : World) (hv : v < 8) (hs : s < 4096) :
    Calls Try.prog 63 #[.agg (plV v s).toArray] w0 fun e w' => e = .returned (.int .u16 ((v * 4096 + s : Nat) : Int)) ∧ Kp [] w0 w' := by
  have hS := St.sv w0
  refine ent (n := 10) Try.func63 rfl rfl ?_
  refine wp_seq_k ?_; intro K1 hK1
  refine wlit ?_
  refine wl_e rfl ?_; intro K hK
  refine ow_box hS (tmA rfl rfl) rfl ?_
  clear hS; intro g0_0 w hg0_0 hS
  refine hK _ _ ?_; clear hK K
  refine wl_v (x_assign (ev_cN 0)) ?_
  refine wl_nil ?_
  refine then_n (hK1 _ _ ?_); clear hK1 K1
  refine wp_seq_k ?_; intro K2 hK2
  refine wlit ?_
  refine wl_v (x_fa 0 Try.underlying88 rfl rfl ts_3 (tmP rfl rfl)) ?_
  first
   | refine wl_v (x_load Try.underlying3 rfl (tmP rfl rfl) (cellB hS.ok 0 rfl rfl)) ?_
   | refine wl_v (x_load Try.underlying3 rfl (tmP rfl rfl) (cellB hS.ok 0 rfl (getm (by omega)))) ?_
  first
   | refine wl_v (x_mulN (tmI rfl rfl) (ev_cN 4096) (fit_i64 (by omega))) ?_
   | refine wl_v (x_mulI (tmI rfl rfl) (ev_cN 4096) (IntWalk.i64_in _ (by omega))) ?_
   | refine wl_v (x_mul (tmI rfl rfl) (ev_cN 4096)) ?_
  refine wl_v (x_fa 1 Try.underlying88 rfl rfl ts_3 (tmP rfl rfl)) ?_
  first
   | refine wl_v (x_load Try.underlying3 rfl (tmP rfl rfl) (cellB hS.ok 0 rfl rfl)) ?_
   | refine wl_v (x_load Try.underlying3 rfl (tmP rfl rfl) (cellB hS.ok 0 rfl (getm (by omega)))) ?_
  first
   | refine wl_v (x_addN (tmI rfl rfl) (tmI rfl rfl) (fit_i64 (by omega))) ?_
   | refine wl_v (x_addI (tmI rfl rfl) (tmI rfl rfl) (IntWalk.i64_in _ (by omega))) ?_
   | refine wl_v (x_add (tmI rfl rfl) (tmI rfl rfl)) ?_
  first
   | refine wl_v (x_convN Try.underlying3 Try.underlying40 (tmI rfl rfl) (fit_u16 (by omega))) ?_
   | refine wl_v (x_convU Try.underlying3 Try.underlying40 (tmI rfl rfl) rfl) ?_
   | refine wl_v (x_conv Try.underlying3 Try.underlying40 (tmI rfl rfl)) ?_
  refine wl_v (x_assign (tmI rfl rfl)) ?_
  refine wl_nil ?_
  refine then_n (hK2 _ _ ?_); clear hK2 K2
  refine wp_ret ?_
  refine ret1 rfl (.tmp rfl (show _ = Value.int _ _ from rfl)) ?_
  exact ⟨rfl, hS.kp⟩
set_option maxRecDepth 100000 in
set_option maxHeartbeats 4000000 in
theorem place_of_c (x : Nat) (w0 : World) (hx : x ≤ 65535) :
    Calls Try.prog 59 #[.int .u16 (x : Int)] w0 fun e w' => e = .returned (.agg (plV ((x / 4096 % 8 : Nat) : Int) ((x % 4096 : Nat) : Int)).toArray) ∧ Kp [] w0 w' := by
  have hS := St.sv w0
  refine ent (n := 12) Try.func59 rfl rfl ?_
  refine wp_seq_k ?_; intro K1 hK1
  refine wlit ?_
  refine wl_e rfl ?_; intro K hK
  refine ow_alloc hS tz_88 rfl ?_
  clear hS; intro g0_0 w hg0_0 hS
  refine hK _ _ ?_; clear hK K
  refine wl_nil ?_
  refine then_n (hK1 _ _ ?_); clear hK1 K1
  refine wp_seq_k ?_; intro K2 hK2
  refine wlit ?_
  refine wl_v (x_move (tmI rfl rfl)) ?_
  first
   | refine wl_v (x_convN Try.underlying40 Try.underlying3 (tmI rfl rfl) (fit_i64 (by omega))) ?_
   | refine wl_v (x_conv Try.underlying40 Try.underlying3 (tmI rfl rfl)) ?_
  refine wl_v (x_assign (tmI rfl rfl)) ?_
  refine wl_nil ?_
  refine then_n (hK2 _ _ ?_); clear hK2 K2
  refine wp_seq_k ?_; intro K3 hK3
  refine wlit ?_
  refine wl_v (x_move (tmI rfl rfl)) ?_
  first
   | refine wl_v (x_quoN (tmI rfl rfl) (ev_cN 4096) (by omega) (fit_i64 (by omega))) ?_
   | refine wl_v (x_quo (tmI rfl rfl) (ev_cN 4096) (by omega)) ?_
  first
   | refine wl_v (x_remN (tmI rfl rfl) (ev_cN 8) (by omega)) ?_
   | refine wl_v (x_rem (tmI rfl rfl) (ev_cN 8) (by omega)) ?_
  refine wl_v (x_move (tmI rfl rfl)) ?_
  first
   | refine wl_v (x_remN (tmI rfl rfl) (ev_cN 4096) (by omega)) ?_
   | refine wl_v (x_rem (tmI rfl rfl) (ev_cN 4096) (by omega)) ?_
  refine wl_v (x_build (bc_take (tmI rfl rfl) <| bc_take (tmI rfl rfl) <| bc_nil) (by kernel_rfl)) ?_
  refine wl_e rfl ?_; intro K hK
  refine ow_storeA hS 0 rfl ts_88 (tmP rfl rfl) (tmA rfl rfl) rfl rfl rfl ?_
  clear hS; intro w hS
  refine hK _ _ ?_; clear hK K
  refine wl_nil ?_
  refine then_n (hK3 _ _ ?_); clear hK3 K3
  refine wp_ret ?_
  refine ret1 rfl (.cell rfl rfl (load_rowB (cs := [_, _]) hS.ok 0 rfl Try.underlying88 rfl ts_88 rfl)) ?_
  exact ⟨rfl, hS.kp⟩
def maskN (k : Nat → Nat) (s d : Ad) (sp dp pr : Nat) : Nat := sipF k (flB s d sp dp pr ++ be 1 1) % 32768
set_option maxRecDepth 100000 in
set_option maxHeartbeats 4000000 in
theorem mask_c (k : Nat → Nat) (s d : Ad) (sp dp pr : Nat) (w0 : World) (hkb : Bytes (kL k)) (h1 : adLim s) (h2 : adLim d) (q1 : sp < 65536) (q2 : dp < 65536) (q3 : pr < 256) :
    Calls Try.prog 116 #[.agg (kC k).toArray, .agg (flV s d sp dp pr).toArray] w0 fun e w' => e = .returned (.int .u16 (maskN k s d sp dp pr : Int)) ∧ Kp [] w0 w' := by
  have hS := St.sv w0
  have l1 := adN_le s
  have l2 := adN_le d
  have hlt := sipF_lt k (flB s d sp dp pr ++ be 1 1)
  have hfo := fun w => fold15_c (sipF k (flB s d sp dp pr ++ be 1 1)) w (by omega)
  refine ent (n := 12) Try.func116 rfl rfl ?_
  refine wp_seq_k ?_; intro K1 hK1
  refine wlit ?_
  refine wl_e rfl ?_; intro K hK
  refine ow_box hS (tmA rfl rfl) rfl ?_
  clear hS; intro g0_0 w hg0_0 hS
  refine hK _ _ ?_; clear hK K
  refine wl_e rfl ?_; intro K hK
  refine ow_box hS (tmA rfl rfl) rfl ?_
  clear hS; intro g0_1 w hg0_1 hS
  refine hK _ _ ?_; clear hK K
  refine wl_v (x_assign (ev_cN 0)) ?_
  refine wl_nil ?_
  refine then_n (hK1 _ _ ?_); clear hK1 K1
  refine wp_seq_k ?_; intro K2 hK2
  refine rg_startk 0 hS mixed_ ?_
  clear hS; intro w hS
  refine rg_take 0 rfl rfl (by kernel_rfl) (by kernel_rfl) (by kernel_rfl) (want_0) (fun w hok => x_loadA (cs := [_, _, _, _, _, _, _, _, _, _, _, _, _, _, _, _]) Try.underlying67 rfl ts_67 (tmP rfl rfl) (rangeB hok 1 rfl rfl)) ?_
  refine rg_take 1 rfl rfl (by kernel_rfl) (by kernel_rfl) (by kernel_rfl) (want_0) (fun w hok => x_loadA (cs := [_, _, _, _, _, _, _, _, _]) Try.underlying107 rfl ts_107 (tmP rfl rfl) (rangeB hok 0 rfl rfl)) ?_
  refine rg_step 2 rfl (by kernel_rfl) (want_0) (oks_drop hS 0 rfl) ?_; intro K hK
  refine ow_call Try.func122 rfl rfl (evs_cons (tmA rfl rfl) <| evs_nil) (key_c s d sp dp pr _ h1 h2 q1 q2 q3) ?_
  rintro e w ⟨g, n, hn', rfl, hn, hk⟩
  refine ⟨_, rfl, ?_⟩
  replace hS := hS.add hk hn -- +rowa
  have hn5 : n ≤ 40 := by rw [hn', flN]; omega
  clear hn hk
  refine hK _ _ ?_; clear hK K
  refine rg_step 3 rfl (by kernel_rfl) (want_0) (oks_drop hS 1 rfl) ?_; intro K hK
  refine ow_call Try.func105 rfl rfl (evs_cons (tmS rfl rfl) <| evs_cons (ev_cN 1) <| evs_cons (ev_cN 1) <| evs_nil) (put_c n _ n (flB s d sp dp pr) 1 1 _ (viewR hS.ok 0 rfl) (by rw [flB_len, hn']) (by omega) (by omega) (by omega)) ?_
  rintro e w ⟨g2, rfl, hn, hk⟩
  refine ⟨_, rfl, ?_⟩
  replace hS := hS.add hk hn -- +rowb
  clear hn hk
  refine hK _ _ ?_; clear hK K
  refine rg_step 4 rfl (by kernel_rfl) (want_0) (oks_drop hS 2 rfl) ?_; intro K hK
  refine ow_call Try.func129 rfl rfl (evs_cons (tmA rfl rfl) <| evs_cons (tmS rfl rfl) <| evs_nil) (sum_c k _ (n + 1) _ (flB s d sp dp pr ++ be 1 1) _ hkb (viewR hS.ok 0 rfl) (by simp [flB_len, be_length, hn']) ((flB_bytes _ _ _ _ _).append (be_bytes _ _)) (by omega) (by omega)) ?_
  rintro e w ⟨rfl, hk⟩
  refine ⟨_, rfl, ?_⟩
  replace hS := hS.kept hk
  clear hk
  refine hK _ _ ?_; clear hK K
  refine rg_step 5 rfl (by kernel_rfl) (want_0) (oks_drop hS 2 rfl) ?_; intro K hK
  refine ow_call Try.func149 rfl rfl (evs_cons (tmI rfl rfl) <| evs_cons (ev_cN 15) <| evs_nil) (hfo _) ?_
  rintro e w ⟨rfl, hk⟩
  refine ⟨_, rfl, ?_⟩
  replace hS := hS.kept hk
  clear hk
  refine hK _ _ ?_; clear hK K
  first
   | refine rg_take 6 rfl rfl (by kernel_rfl) (by kernel_rfl) (by kernel_rfl) (want_0) (fun w hok => x_convN Try.underlying24 Try.underlying40 (tmI rfl rfl) (fit_u16 (by omega))) ?_
   | refine rg_take 6 rfl rfl (by kernel_rfl) (by kernel_rfl) (by kernel_rfl) (want_0) (fun w hok => x_convU Try.underlying24 Try.underlying40 (tmI rfl rfl) rfl) ?_
   | refine rg_take 6 rfl rfl (by kernel_rfl) (by kernel_rfl) (by kernel_rfl) (want_0) (fun w hok => x_conv Try.underlying24 Try.underlying40 (tmI rfl rfl)) ?_
  refine rg_take 7 rfl rfl (by kernel_rfl) (by kernel_rfl) (by kernel_rfl) (want_0) (fun w hok => x_assign (tmI rfl rfl)) ?_
  refine rg_done (oks_drop hS 2 rfl) (by kernel_rfl) ?_
  refine then_n (hK2 _ _ ?_); clear hK2 K2
  refine wp_ret ?_
  refine ret1 rfl (.tmp rfl (show _ = Value.int _ _ from rfl)) ?_
  exact ⟨rfl, hS.kp⟩
theorem maskN_lt (k : Nat → Nat) (s d : Ad) (sp dp pr : Nat) : maskN k s d sp dp pr < 32768 := Nat.mod_lt _ (by omega)
theorem xor15 {a b : Nat} (ha : a < 32768) (hb : b < 32768) : a ^^^ b < 32768 := Nat.xor_lt_two_pow (n := 15) ha hb
theorem or15 (b : Nat) {x : Nat} (h : x < 32768) : b * 2 ^ 15 ||| x = b * 32768 + x := by
  have := Nat.two_pow_add_eq_or_of_lt (i := 15) (b := x) (by omega) b
  rw [Nat.mul_comm b]
  omega
def hideN (k : Nat → Nat) (u : Nat) (s d : Ad) (sp dp pr v t : Nat) : Nat := u % 2 * 32768 + ((v * 4096 + t) ^^^ maskN (derF k u) s d sp dp pr)
set_option maxRecDepth 100000 in
set_option maxHeartbeats 4000000 in
theorem hide_c (k : Nat → Nat) (u : Nat) (s d : Ad) (sp dp pr v t : Nat) (w0 : World) (hkb : Bytes (kL k)) (hu : u ≤ 18446744073709551615) (h1 : adLim s) (h2 : adLim d) (q1 : sp < 65536) (q2 : dp < 65536) (q3 : pr < 256) (hv : v < 8) (ht : t < 4096) :
    Calls Try.prog 60 #[.agg (rgC k u).toArray, .agg (flV s d sp dp pr).toArray, .agg (plV v t).toArray] w0 fun e w' => e = .returned (.tuple #[.int .u16 (hideN k u s d sp dp pr v t : Int), .int .i64 0]) ∧ Kp [] w0 w' := by
  have hS := St.sv w0
  have hA := fun w => ring_at_c k u ((u % 2 : Nat) : Int) w hkb hu
  obtain ⟨e1, e2⟩ := at1 (k := k) (u := u) (bit := ((u % 2 : Nat) : Int)) rfl
  rw [e1, e2] at hA
  have hM := fun w => mask_c (derF k u) s d sp dp pr w (derF_bytes k u) h1 h2 q1 q2 q3
  have hm := maskN_lt (derF k u) s d sp dp pr
  have hx := xor15 (a := v * 4096 + t) (by omega) hm
  unfold hideN
  generalize maskN (derF k u) s d sp dp pr = m at *
  have ho := or15 (u % 2) hx
  refine ent (n := 31) Try.func60 rfl rfl ?_
  refine wp_seq_k ?_; intro K1 hK1
  refine wlit ?_
  refine wl_e rfl ?_; intro K hK
  refine ow_box hS (tmA rfl rfl) rfl ?_
  clear hS; intro g0_0 w hg0_0 hS
  refine hK _ _ ?_; clear hK K
  refine wl_e rfl ?_; intro K hK
  refine ow_box hS (tmA rfl rfl) rfl ?_
  clear hS; intro g0_1 w hg0_1 hS
  refine hK _ _ ?_; clear hK K
  refine wl_e rfl ?_; intro K hK
  refine ow_box hS (tmA rfl rfl) rfl ?_
  clear hS; intro g0_2 w hg0_2 hS
  refine hK _ _ ?_; clear hK K
  refine wl_v (x_assign (ev_cN 0)) ?_
  refine wl_v (x_assign (ev_cN 0)) ?_
  refine wl_nil ?_
  refine then_n (hK1 _ _ ?_); clear hK1 K1
  refine wp_seq_k ?_; intro K2 hK2
  refine wp_seq_k ?_; intro K3 hK3
  refine wlit ?_
  refine wl_v (x_loadA (cs := [_, _]) Try.underlying88 rfl ts_88 (tmP rfl rfl) (rangeB hS.ok 0 rfl rfl)) ?_
  refine wl_e rfl ?_; intro K hK
  refine ow_call Try.func62 rfl rfl (evs_cons (tmA rfl rfl) <| evs_nil) (place_right_c v t _ hv ht) ?_
  rintro e w ⟨rfl, hk⟩
  refine ⟨_, rfl, ?_⟩
  replace hS := hS.kept hk
  clear hk
  refine hK _ _ ?_; clear hK K
  refine wl_v (x_not (tmB rfl rfl)) ?_
  refine wl_nil ?_
  refine then_n (hK3 _ _ ?_); clear hK3 K3
  refine cnd (tm rfl) (fun hc0 => ?_) (fun hc0 => ?_)
  · exfalso
    simp at hc0
  try (exfalso; first | with_reducible exact absurd hc0 Bool.false_ne_true | with_reducible exact absurd hc0.symm Bool.false_ne_true | (simp only [nrm] at hc0; omega) | (simp at hc0; done))
  all_goals
   try simp only [nrm] at hc0
   refine wp_skip ?_
   refine then_n (hK2 _ _ ?_); clear hK2 K2
   refine wp_seq_k ?_; intro K4 hK4
   refine rg_startk 0 hS mixed_ ?_
   clear hS; intro w hS
   refine rg_take 0 rfl rfl (by kernel_rfl) (by kernel_rfl) (by kernel_rfl) (want_0) (fun w hok => x_loadA (cs := [_, _, _, _, _, _, _, _, _, _, _, _, _, _, _, _, _]) Try.underlying69 rfl ts_69 (tmP rfl rfl) (rangeB hok 2 rfl rfl)) ?_
   refine rg_take 1 rfl rfl (by kernel_rfl) (by kernel_rfl) (by kernel_rfl) (want_0) (fun w hok => x_loadA (cs := [_, _, _, _, _, _, _, _, _, _, _, _, _, _, _, _, _]) Try.underlying69 rfl ts_69 (tmP rfl rfl) (rangeB hok 2 rfl rfl)) ?_
   refine rg_step2 2 7 rfl rfl (by kernel_rfl) (want_0) (want_0) (oks_drop hS 0 rfl) ?_ ?_
   · intro K hK
     refine ow_call Try.func40 rfl rfl (evs_cons (tmA rfl rfl) <| evs_nil) (ring_bit_c k u _) ?_
     rintro e w ⟨rfl, hk⟩
     refine ⟨_, rfl, ?_⟩
     replace hS := hS.kept hk
     clear hk
     refine hK _ _ ?_; clear hK K
     refine rg_step2 3 7 rfl rfl (by kernel_rfl) (want_0) (want_0) (oks_drop hS 0 rfl) ?_ ?_
     · intro K hK
       refine ow_call Try.func37 rfl rfl (evs_cons (tmA rfl rfl) <| evs_cons (tmI rfl rfl) <| evs_nil) (hA _) ?_
       rintro e w ⟨rfl, hk⟩
       refine ⟨_, rfl, ?_⟩
       replace hS := hS.kept hk
       clear hk
       refine hK _ _ ?_; clear hK K
       refine rg_take 4 rfl rfl (by kernel_rfl) (by kernel_rfl) (by kernel_rfl) (want_0) (fun w hok => x_move (tmT rfl rfl)) ?_
       refine rg_take 5 rfl rfl (by kernel_rfl) (by kernel_rfl) (by kernel_rfl) (want_0) (fun w hok => x_ext (tmT rfl rfl) rfl) ?_
       refine rg_take 6 rfl rfl (by kernel_rfl) (by kernel_rfl) (by kernel_rfl) (want_0) (fun w hok => x_ext (tmT rfl rfl) rfl) ?_
       refine rg_step 7 rfl (by kernel_rfl) (want_0) (oks_drop hS 0 rfl) ?_; intro K hK
       refine ow_alloc hS tz_67 rfl ?_
       clear hS; intro g3_7 w hg3_7 hS
       refine hK _ _ ?_; clear hK K
       refine rg_step 8 rfl (by kernel_rfl) (want_0) (oks_drop hS 1 rfl) ?_; intro K hK
       refine ow_storeA hS 0 rfl ts_67 (tmP rfl rfl) (tmA rfl rfl) rfl rfl rfl ?_
       clear hS; intro w hS
       try replace hS := St.nm (M' := [.blk _ _ [_, _, _, _, _, _, _, _, _, _, _, _, _, _, _, _], .blk _ _ [_, _], .blk _ _ [_, _, _, _, _, _, _, _, _], .blk _ _ [_, _, _, _, _, _, _, _, _, _, _, _, _, _, _, _, _], _]) hS rfl
       refine hK _ _ ?_; clear hK K
       refine rg_take 9 rfl rfl (by kernel_rfl) (by kernel_rfl) (by kernel_rfl) (want_0) (fun w hok => x_assign (tmB rfl rfl)) ?_
       refine rg_done (oks_drop hS 1 rfl) (by kernel_rfl) ?_
       refine then_n (hK4 _ _ ?_); clear hK4 K4
       refine wp_seq_k ?_; intro K5 hK5
       refine rg_startk 0 hS mixed_ ?_
       clear hS; intro w hS
       refine rg_take 0 rfl rfl (by kernel_rfl) (by kernel_rfl) (by kernel_rfl) (want_0) (fun w hok => x_loadA (cs := [_, _, _, _, _, _, _, _, _, _, _, _, _, _, _, _, _]) Try.underlying69 rfl ts_69 (tmP rfl rfl) (rangeB hok 3 rfl rfl)) ?_
       refine rg_take 4 rfl rfl (by kernel_rfl) (by kernel_rfl) (by kernel_rfl) (want_0) (fun w hok => x_loadA (cs := [_, _]) Try.underlying88 rfl ts_88 (tmP rfl rfl) (rangeB hok 1 rfl rfl)) ?_
       refine rg_take 6 rfl rfl (by kernel_rfl) (by kernel_rfl) (by kernel_rfl) (want_0) (fun w hok => x_loadA (cs := [_, _, _, _, _, _, _, _, _, _, _, _, _, _, _, _]) Try.underlying67 rfl ts_67 (tmP rfl rfl) (rangeB hok 0 rfl rfl)) ?_
       refine rg_take 7 rfl rfl (by kernel_rfl) (by kernel_rfl) (by kernel_rfl) (want_0) (fun w hok => x_loadA (cs := [_, _, _, _, _, _, _, _, _]) Try.underlying107 rfl ts_107 (tmP rfl rfl) (rangeB hok 2 rfl rfl)) ?_
       refine rg_step 1 rfl (by kernel_rfl) (want_0) (oks_drop hS 0 rfl) ?_; intro K hK
       refine ow_call Try.func40 rfl rfl (evs_cons (tmA rfl rfl) <| evs_nil) (ring_bit_c k u _) ?_
       rintro e w ⟨rfl, hk⟩
       refine ⟨_, rfl, ?_⟩
       replace hS := hS.kept hk
       clear hk
       refine hK _ _ ?_; clear hK K
       first
        | refine rg_take 2 rfl rfl (by kernel_rfl) (by kernel_rfl) (by kernel_rfl) (want_0) (fun w hok => x_convN Try.underlying3 Try.underlying40 (tmI rfl rfl) (fit_u16 (by omega))) ?_
        | refine rg_take 2 rfl rfl (by kernel_rfl) (by kernel_rfl) (by kernel_rfl) (want_0) (fun w hok => x_convU Try.underlying3 Try.underlying40 (tmI rfl rfl) rfl) ?_
        | refine rg_take 2 rfl rfl (by kernel_rfl) (by kernel_rfl) (by kernel_rfl) (want_0) (fun w hok => x_conv Try.underlying3 Try.underlying40 (tmI rfl rfl)) ?_
       first
        | refine rg_take 3 rfl rfl (by kernel_rfl) (by kernel_rfl) (by kernel_rfl) (want_0) (fun w hok => x_shlN (tmI rfl rfl) (ev_cN 15) (by decide) (fit_u16 (by omega))) ?_
        | refine rg_take 3 rfl rfl (by kernel_rfl) (by kernel_rfl) (by kernel_rfl) (want_0) (fun w hok => x_shlN (tmI rfl rfl) (ev_cN 15) (by have : IntKind.bits .u16 = 16 := rfl; omega) (fit_u16 (by omega))) ?_
        | refine rg_take 3 rfl rfl (by kernel_rfl) (by kernel_rfl) (by kernel_rfl) (want_0) (fun w hok => x_shlU (tmI rfl rfl) (ev_cN 15) rfl) ?_
       refine rg_step 5 rfl (by kernel_rfl) (want_0) (oks_drop hS 0 rfl) ?_; intro K hK
       refine ow_call Try.func63 rfl rfl (evs_cons (tmA rfl rfl) <| evs_nil) (place_word_c v t _ hv ht) ?_
       rintro e w ⟨rfl, hk⟩
       refine ⟨_, rfl, ?_⟩
       replace hS := hS.kept hk
       clear hk
       refine hK _ _ ?_; clear hK K
       refine rg_step 8 rfl (by kernel_rfl) (want_0) (oks_drop hS 0 rfl) ?_; intro K hK
       refine ow_call Try.func116 rfl rfl (evs_cons (tmA rfl rfl) <| evs_cons (tmA rfl rfl) <| evs_nil) (hM _) ?_
       rintro e w ⟨rfl, hk⟩
       refine ⟨_, rfl, ?_⟩
       replace hS := hS.kept hk
       clear hk
       refine hK _ _ ?_; clear hK K
       refine rg_take 9 rfl rfl (by kernel_rfl) (by kernel_rfl) (by kernel_rfl) (want_0) (fun w hok => x_xorN (tmI rfl rfl) (tmI rfl rfl) (fit_u16 (by omega)) (fit_u16 (by omega))) ?_
       refine rg_take 10 rfl rfl (by kernel_rfl) (by kernel_rfl) (by kernel_rfl) (want_0) (fun w hok => x_orN (tmI rfl rfl) (tmI rfl rfl) (fit_u16 (by omega)) (fit_u16 (by omega))) ?_
       refine rg_take 11 rfl rfl (by kernel_rfl) (by kernel_rfl) (by kernel_rfl) (want_0) (fun w hok => x_assign (tmI rfl rfl)) ?_
       refine rg_take 12 rfl rfl (by kernel_rfl) (by kernel_rfl) (by kernel_rfl) (want_0) (fun w hok => x_assign (ev_cN 0)) ?_
       refine rg_done (oks_drop hS 0 rfl) (by kernel_rfl) ?_
       refine then_n (hK5 _ _ ?_); clear hK5 K5
       refine wp_ret ?_
       refine ret2 rfl (.tmp rfl (show _ = Value.int _ _ from rfl)) (.tmp rfl (show _ = Value.int _ _ from rfl)) ?_
       refine ⟨?_, hS.kp⟩
       rw [← ho]
       first | done | rfl
     · intro K hK
       refine ow_alloc hS tz_67 rfl ?_
       clear hS; intro g3_7 w hg3_7 hS
       refine hK _ _ ?_; clear hK K
       refine rg_step 3 rfl (by kernel_rfl) (want_0) (oks_drop hS 1 rfl) ?_; intro K hK
       refine ow_call Try.func37 rfl rfl (evs_cons (tmA rfl rfl) <| evs_cons (tmI rfl rfl) <| evs_nil) (hA _) ?_
       rintro e w ⟨rfl, hk⟩
       refine ⟨_, rfl, ?_⟩
       replace hS := hS.kept hk
       clear hk
       refine hK _ _ ?_; clear hK K
       refine rg_take 4 rfl rfl (by kernel_rfl) (by kernel_rfl) (by kernel_rfl) (want_0) (fun w hok => x_move (tmT rfl rfl)) ?_
       refine rg_take 5 rfl rfl (by kernel_rfl) (by kernel_rfl) (by kernel_rfl) (want_0) (fun w hok => x_ext (tmT rfl rfl) rfl) ?_
       refine rg_take 6 rfl rfl (by kernel_rfl) (by kernel_rfl) (by kernel_rfl) (want_0) (fun w hok => x_ext (tmT rfl rfl) rfl) ?_
       refine rg_step 8 rfl (by kernel_rfl) (want_0) (oks_drop hS 1 rfl) ?_; intro K hK
       refine ow_storeA hS 0 rfl ts_67 (tmP rfl rfl) (tmA rfl rfl) rfl rfl rfl ?_
       clear hS; intro w hS
       try replace hS := St.nm (M' := [.blk _ _ [_, _, _, _, _, _, _, _, _, _, _, _, _, _, _, _], .blk _ _ [_, _], .blk _ _ [_, _, _, _, _, _, _, _, _], .blk _ _ [_, _, _, _, _, _, _, _, _, _, _, _, _, _, _, _, _], _]) hS rfl
       refine hK _ _ ?_; clear hK K
       refine rg_take 9 rfl rfl (by kernel_rfl) (by kernel_rfl) (by kernel_rfl) (want_0) (fun w hok => x_assign (tmB rfl rfl)) ?_
       refine rg_done (oks_drop hS 1 rfl) (by kernel_rfl) ?_
       refine then_n (hK4 _ _ ?_); clear hK4 K4
       refine wp_seq_k ?_; intro K6 hK6
       refine rg_startk 0 hS mixed_ ?_
       clear hS; intro w hS
       refine rg_take 0 rfl rfl (by kernel_rfl) (by kernel_rfl) (by kernel_rfl) (want_0) (fun w hok => x_loadA (cs := [_, _, _, _, _, _, _, _, _, _, _, _, _, _, _, _, _]) Try.underlying69 rfl ts_69 (tmP rfl rfl) (rangeB hok 3 rfl rfl)) ?_
       refine rg_take 4 rfl rfl (by kernel_rfl) (by kernel_rfl) (by kernel_rfl) (want_0) (fun w hok => x_loadA (cs := [_, _]) Try.underlying88 rfl ts_88 (tmP rfl rfl) (rangeB hok 1 rfl rfl)) ?_
       refine rg_take 6 rfl rfl (by kernel_rfl) (by kernel_rfl) (by kernel_rfl) (want_0) (fun w hok => x_loadA (cs := [_, _, _, _, _, _, _, _, _, _, _, _, _, _, _, _]) Try.underlying67 rfl ts_67 (tmP rfl rfl) (rangeB hok 0 rfl rfl)) ?_
       refine rg_take 7 rfl rfl (by kernel_rfl) (by kernel_rfl) (by kernel_rfl) (want_0) (fun w hok => x_loadA (cs := [_, _, _, _, _, _, _, _, _]) Try.underlying107 rfl ts_107 (tmP rfl rfl) (rangeB hok 2 rfl rfl)) ?_
       refine rg_step 1 rfl (by kernel_rfl) (want_0) (oks_drop hS 0 rfl) ?_; intro K hK
       refine ow_call Try.func40 rfl rfl (evs_cons (tmA rfl rfl) <| evs_nil) (ring_bit_c k u _) ?_
       rintro e w ⟨rfl, hk⟩
       refine ⟨_, rfl, ?_⟩
       replace hS := hS.kept hk
       clear hk
       refine hK _ _ ?_; clear hK K
       first
        | refine rg_take 2 rfl rfl (by kernel_rfl) (by kernel_rfl) (by kernel_rfl) (want_0) (fun w hok => x_convN Try.underlying3 Try.underlying40 (tmI rfl rfl) (fit_u16 (by omega))) ?_
        | refine rg_take 2 rfl rfl (by kernel_rfl) (by kernel_rfl) (by kernel_rfl) (want_0) (fun w hok => x_convU Try.underlying3 Try.underlying40 (tmI rfl rfl) rfl) ?_
        | refine rg_take 2 rfl rfl (by kernel_rfl) (by kernel_rfl) (by kernel_rfl) (want_0) (fun w hok => x_conv Try.underlying3 Try.underlying40 (tmI rfl rfl)) ?_
       first
        | refine rg_take 3 rfl rfl (by kernel_rfl) (by kernel_rfl) (by kernel_rfl) (want_0) (fun w hok => x_shlN (tmI rfl rfl) (ev_cN 15) (by decide) (fit_u16 (by omega))) ?_
        | refine rg_take 3 rfl rfl (by kernel_rfl) (by kernel_rfl) (by kernel_rfl) (want_0) (fun w hok => x_shlN (tmI rfl rfl) (ev_cN 15) (by have : IntKind.bits .u16 = 16 := rfl; omega) (fit_u16 (by omega))) ?_
        | refine rg_take 3 rfl rfl (by kernel_rfl) (by kernel_rfl) (by kernel_rfl) (want_0) (fun w hok => x_shlU (tmI rfl rfl) (ev_cN 15) rfl) ?_
       refine rg_step 5 rfl (by kernel_rfl) (want_0) (oks_drop hS 0 rfl) ?_; intro K hK
       refine ow_call Try.func63 rfl rfl (evs_cons (tmA rfl rfl) <| evs_nil) (place_word_c v t _ hv ht) ?_
       rintro e w ⟨rfl, hk⟩
       refine ⟨_, rfl, ?_⟩
       replace hS := hS.kept hk
       clear hk
       refine hK _ _ ?_; clear hK K
       refine rg_step 8 rfl (by kernel_rfl) (want_0) (oks_drop hS 0 rfl) ?_; intro K hK
       refine ow_call Try.func116 rfl rfl (evs_cons (tmA rfl rfl) <| evs_cons (tmA rfl rfl) <| evs_nil) (hM _) ?_
       rintro e w ⟨rfl, hk⟩
       refine ⟨_, rfl, ?_⟩
       replace hS := hS.kept hk
       clear hk
       refine hK _ _ ?_; clear hK K
       refine rg_take 9 rfl rfl (by kernel_rfl) (by kernel_rfl) (by kernel_rfl) (want_0) (fun w hok => x_xorN (tmI rfl rfl) (tmI rfl rfl) (fit_u16 (by omega)) (fit_u16 (by omega))) ?_
       refine rg_take 10 rfl rfl (by kernel_rfl) (by kernel_rfl) (by kernel_rfl) (want_0) (fun w hok => x_orN (tmI rfl rfl) (tmI rfl rfl) (fit_u16 (by omega)) (fit_u16 (by omega))) ?_
       refine rg_take 11 rfl rfl (by kernel_rfl) (by kernel_rfl) (by kernel_rfl) (want_0) (fun w hok => x_assign (tmI rfl rfl)) ?_
       refine rg_take 12 rfl rfl (by kernel_rfl) (by kernel_rfl) (by kernel_rfl) (want_0) (fun w hok => x_assign (ev_cN 0)) ?_
       refine rg_done (oks_drop hS 0 rfl) (by kernel_rfl) ?_
       refine then_n (hK6 _ _ ?_); clear hK6 K6
       refine wp_ret ?_
       refine ret2 rfl (.tmp rfl (show _ = Value.int _ _ from rfl)) (.tmp rfl (show _ = Value.int _ _ from rfl)) ?_
       refine ⟨?_, hS.kp⟩
       rw [← ho]
       first | done | rfl
   · intro K hK
     refine ow_alloc hS tz_67 rfl ?_
     clear hS; intro g3_7 w hg3_7 hS
     refine hK _ _ ?_; clear hK K
     refine rg_step 2 rfl (by kernel_rfl) (want_0) (oks_drop hS 1 rfl) ?_; intro K hK
     refine ow_call Try.func40 rfl rfl (evs_cons (tmA rfl rfl) <| evs_nil) (ring_bit_c k u _) ?_
     rintro e w ⟨rfl, hk⟩
     refine ⟨_, rfl, ?_⟩
     replace hS := hS.kept hk
     clear hk
     refine hK _ _ ?_; clear hK K
     refine rg_step 3 rfl (by kernel_rfl) (want_0) (oks_drop hS 1 rfl) ?_; intro K hK
     refine ow_call Try.func37 rfl rfl (evs_cons (tmA rfl rfl) <| evs_cons (tmI rfl rfl) <| evs_nil) (hA _) ?_
     rintro e w ⟨rfl, hk⟩
     refine ⟨_, rfl, ?_⟩
     replace hS := hS.kept hk
     clear hk
     refine hK _ _ ?_; clear hK K
     refine rg_take 4 rfl rfl (by kernel_rfl) (by kernel_rfl) (by kernel_rfl) (want_0) (fun w hok => x_move (tmT rfl rfl)) ?_
     refine rg_take 5 rfl rfl (by kernel_rfl) (by kernel_rfl) (by kernel_rfl) (want_0) (fun w hok => x_ext (tmT rfl rfl) rfl) ?_
     refine rg_take 6 rfl rfl (by kernel_rfl) (by kernel_rfl) (by kernel_rfl) (want_0) (fun w hok => x_ext (tmT rfl rfl) rfl) ?_
     refine rg_step 8 rfl (by kernel_rfl) (want_0) (oks_drop hS 1 rfl) ?_; intro K hK
     refine ow_storeA hS 0 rfl ts_67 (tmP rfl rfl) (tmA rfl rfl) rfl rfl rfl ?_
     clear hS; intro w hS
     try replace hS := St.nm (M' := [.blk _ _ [_, _, _, _, _, _, _, _, _, _, _, _, _, _, _, _], .blk _ _ [_, _], .blk _ _ [_, _, _, _, _, _, _, _, _], .blk _ _ [_, _, _, _, _, _, _, _, _, _, _, _, _, _, _, _, _], _]) hS rfl
     refine hK _ _ ?_; clear hK K
     refine rg_take 9 rfl rfl (by kernel_rfl) (by kernel_rfl) (by kernel_rfl) (want_0) (fun w hok => x_assign (tmB rfl rfl)) ?_
     refine rg_done (oks_drop hS 1 rfl) (by kernel_rfl) ?_
     refine then_n (hK4 _ _ ?_); clear hK4 K4
     refine wp_seq_k ?_; intro K7 hK7
     refine rg_startk 0 hS mixed_ ?_
     clear hS; intro w hS
     refine rg_take 0 rfl rfl (by kernel_rfl) (by kernel_rfl) (by kernel_rfl) (want_0) (fun w hok => x_loadA (cs := [_, _, _, _, _, _, _, _, _, _, _, _, _, _, _, _, _]) Try.underlying69 rfl ts_69 (tmP rfl rfl) (rangeB hok 3 rfl rfl)) ?_
     refine rg_take 4 rfl rfl (by kernel_rfl) (by kernel_rfl) (by kernel_rfl) (want_0) (fun w hok => x_loadA (cs := [_, _]) Try.underlying88 rfl ts_88 (tmP rfl rfl) (rangeB hok 1 rfl rfl)) ?_
     refine rg_take 6 rfl rfl (by kernel_rfl) (by kernel_rfl) (by kernel_rfl) (want_0) (fun w hok => x_loadA (cs := [_, _, _, _, _, _, _, _, _, _, _, _, _, _, _, _]) Try.underlying67 rfl ts_67 (tmP rfl rfl) (rangeB hok 0 rfl rfl)) ?_
     refine rg_take 7 rfl rfl (by kernel_rfl) (by kernel_rfl) (by kernel_rfl) (want_0) (fun w hok => x_loadA (cs := [_, _, _, _, _, _, _, _, _]) Try.underlying107 rfl ts_107 (tmP rfl rfl) (rangeB hok 2 rfl rfl)) ?_
     refine rg_step 1 rfl (by kernel_rfl) (want_0) (oks_drop hS 0 rfl) ?_; intro K hK
     refine ow_call Try.func40 rfl rfl (evs_cons (tmA rfl rfl) <| evs_nil) (ring_bit_c k u _) ?_
     rintro e w ⟨rfl, hk⟩
     refine ⟨_, rfl, ?_⟩
     replace hS := hS.kept hk
     clear hk
     refine hK _ _ ?_; clear hK K
     first
      | refine rg_take 2 rfl rfl (by kernel_rfl) (by kernel_rfl) (by kernel_rfl) (want_0) (fun w hok => x_convN Try.underlying3 Try.underlying40 (tmI rfl rfl) (fit_u16 (by omega))) ?_
      | refine rg_take 2 rfl rfl (by kernel_rfl) (by kernel_rfl) (by kernel_rfl) (want_0) (fun w hok => x_convU Try.underlying3 Try.underlying40 (tmI rfl rfl) rfl) ?_
      | refine rg_take 2 rfl rfl (by kernel_rfl) (by kernel_rfl) (by kernel_rfl) (want_0) (fun w hok => x_conv Try.underlying3 Try.underlying40 (tmI rfl rfl)) ?_
     first
      | refine rg_take 3 rfl rfl (by kernel_rfl) (by kernel_rfl) (by kernel_rfl) (want_0) (fun w hok => x_shlN (tmI rfl rfl) (ev_cN 15) (by decide) (fit_u16 (by omega))) ?_
      | refine rg_take 3 rfl rfl (by kernel_rfl) (by kernel_rfl) (by kernel_rfl) (want_0) (fun w hok => x_shlN (tmI rfl rfl) (ev_cN 15) (by have : IntKind.bits .u16 = 16 := rfl; omega) (fit_u16 (by omega))) ?_
      | refine rg_take 3 rfl rfl (by kernel_rfl) (by kernel_rfl) (by kernel_rfl) (want_0) (fun w hok => x_shlU (tmI rfl rfl) (ev_cN 15) rfl) ?_
     refine rg_step 5 rfl (by kernel_rfl) (want_0) (oks_drop hS 0 rfl) ?_; intro K hK
     refine ow_call Try.func63 rfl rfl (evs_cons (tmA rfl rfl) <| evs_nil) (place_word_c v t _ hv ht) ?_
     rintro e w ⟨rfl, hk⟩
     refine ⟨_, rfl, ?_⟩
     replace hS := hS.kept hk
     clear hk
     refine hK _ _ ?_; clear hK K
     refine rg_step 8 rfl (by kernel_rfl) (want_0) (oks_drop hS 0 rfl) ?_; intro K hK
     refine ow_call Try.func116 rfl rfl (evs_cons (tmA rfl rfl) <| evs_cons (tmA rfl rfl) <| evs_nil) (hM _) ?_
     rintro e w ⟨rfl, hk⟩
     refine ⟨_, rfl, ?_⟩
     replace hS := hS.kept hk
     clear hk
     refine hK _ _ ?_; clear hK K
     refine rg_take 9 rfl rfl (by kernel_rfl) (by kernel_rfl) (by kernel_rfl) (want_0) (fun w hok => x_xorN (tmI rfl rfl) (tmI rfl rfl) (fit_u16 (by omega)) (fit_u16 (by omega))) ?_
     refine rg_take 10 rfl rfl (by kernel_rfl) (by kernel_rfl) (by kernel_rfl) (want_0) (fun w hok => x_orN (tmI rfl rfl) (tmI rfl rfl) (fit_u16 (by omega)) (fit_u16 (by omega))) ?_
     refine rg_take 11 rfl rfl (by kernel_rfl) (by kernel_rfl) (by kernel_rfl) (want_0) (fun w hok => x_assign (tmI rfl rfl)) ?_
     refine rg_take 12 rfl rfl (by kernel_rfl) (by kernel_rfl) (by kernel_rfl) (want_0) (fun w hok => x_assign (ev_cN 0)) ?_
     refine rg_done (oks_drop hS 0 rfl) (by kernel_rfl) ?_
     refine then_n (hK7 _ _ ?_); clear hK7 K7
     refine wp_ret ?_
     refine ret2 rfl (.tmp rfl (show _ = Value.int _ _ from rfl)) (.tmp rfl (show _ = Value.int _ _ from rfl)) ?_
     refine ⟨?_, hS.kp⟩
     rw [← ho]
     first | done | rfl
set_option maxRecDepth 100000 in
set_option maxHeartbeats 4000000 in
theorem seek_c (k : Nat → Nat) (u : Nat) (s d : Ad) (sp dp pr c : Nat) (w0 : World) (hkb : Bytes (kL k)) (hu : u ≤ 18446744073709551615) (h1 : adLim s) (h2 : adLim d) (q1 : sp < 65536) (q2 : dp < 65536) (q3 : pr < 256) (hc : c ≤ 65535) (hB : atB u ((c / 2 ^ 15 : Nat) : Int) = true) (x : Nat) (hx : x = c ^^^ maskN (atK k u ((c / 2 ^ 15 : Nat) : Int)) s d sp dp pr) :
    Calls Try.prog 61 #[.agg (rgC k u).toArray, .agg (flV s d sp dp pr).toArray, .int .u16 (c : Int)] w0 fun e w' => e = .returned (.tuple #[.agg (plV ((x / 4096 % 8 : Nat) : Int) ((x % 4096 : Nat) : Int)).toArray, .int .i64 0]) ∧ Kp [] w0 w' := by
  have hS := St.sv w0
  have hA := fun w => ring_at_c k u ((c / 2 ^ 15 : Nat) : Int) w hkb hu
  rw [hB] at hA
  have hM := fun w => mask_c (atK k u ((c / 2 ^ 15 : Nat) : Int)) s d sp dp pr w atK_bytes h1 h2 q1 q2 q3
  have hm := maskN_lt (atK k u ((c / 2 ^ 15 : Nat) : Int)) s d sp dp pr
  generalize maskN (atK k u ((c / 2 ^ 15 : Nat) : Int)) s d sp dp pr = m at *
  have hxb : x ≤ 65535 := by
    have := Nat.xor_lt_two_pow (n := 16) (x := c) (y := m) (by omega) (by omega)
    omega
  have hof := fun w => place_of_c x w hxb
  rw [hx] at hof ⊢
  generalize hK : atK k u ((c / 2 ^ 15 : Nat) : Int) = K9 at *
  refine ent (n := 27) Try.func61 rfl rfl ?_
  refine wp_seq_k ?_; intro K1 hK1
  refine wlit ?_
  refine wl_e rfl ?_; intro K hK
  refine ow_box hS (tmA rfl rfl) rfl ?_
  clear hS; intro g0_0 w hg0_0 hS
  refine hK _ _ ?_; clear hK K
  refine wl_e rfl ?_; intro K hK
  refine ow_box hS (tmA rfl rfl) rfl ?_
  clear hS; intro g0_1 w hg0_1 hS
  refine hK _ _ ?_; clear hK K
  refine wl_e rfl ?_; intro K hK
  refine ow_alloc hS tz_88 rfl ?_
  clear hS; intro g0_2 w hg0_2 hS
  refine hK _ _ ?_; clear hK K
  refine wl_v (x_assign (ev_cN 0)) ?_
  refine wl_nil ?_
  refine then_n (hK1 _ _ ?_); clear hK1 K1
  refine wp_seq_k ?_; intro K2 hK2
  refine wlit ?_
  refine wl_v (x_loadA (cs := [_, _, _, _, _, _, _, _, _, _, _, _, _, _, _, _, _]) Try.underlying69 rfl ts_69 (tmP rfl rfl) (rangeB hS.ok 2 rfl rfl)) ?_
  refine wl_v (x_move (tmI rfl rfl)) ?_
  refine wl_v (x_shrN (tmI rfl rfl) (ev_cN 15) (fit_u16 (by omega))) ?_
  first
   | refine wl_v (x_convN Try.underlying40 Try.underlying3 (tmI rfl rfl) (fit_i64 (by omega))) ?_
   | refine wl_v (x_conv Try.underlying40 Try.underlying3 (tmI rfl rfl)) ?_
  refine wl_e rfl ?_; intro K hK
  refine ow_call Try.func37 rfl rfl (evs_cons (tmA rfl rfl) <| evs_cons (tmI rfl rfl) <| evs_nil) (hA _) ?_
  rintro e w ⟨rfl, hk⟩
  refine ⟨_, rfl, ?_⟩
  replace hS := hS.kept hk
  clear hk
  refine hK _ _ ?_; clear hK K
  refine wl_v (x_move (tmT rfl rfl)) ?_
  refine wl_v (x_ext (tmT rfl rfl) rfl) ?_
  refine wl_v (x_ext (tmT rfl rfl) rfl) ?_
  refine wl_e rfl ?_; intro K hK
  refine ow_alloc hS tz_67 rfl ?_
  clear hS; intro g1_8 w hg1_8 hS
  refine hK _ _ ?_; clear hK K
  refine wl_e rfl ?_; intro K hK
  refine ow_storeA hS 0 rfl ts_67 (tmP rfl rfl) (tmA rfl rfl) rfl rfl rfl ?_
  clear hS; intro w hS
  try replace hS := St.nm (M' := [.blk _ _ [_, _, _, _, _, _, _, _, _, _, _, _, _, _, _, _], .blk _ _ [_, _], .blk _ _ [_, _, _, _, _, _, _, _, _], .blk _ _ [_, _, _, _, _, _, _, _, _, _, _, _, _, _, _, _, _], _]) hS rfl
  refine hK _ _ ?_; clear hK K
  refine wl_v (x_assign (tmB rfl rfl)) ?_
  refine wl_nil ?_
  refine then_n (hK2 _ _ ?_); clear hK2 K2
  refine wp_seq_k ?_; intro K3 hK3
  refine wp_seq_k ?_; intro K4 hK4
  refine wlit ?_
  refine wl_v (x_move (tmB rfl rfl)) ?_
  refine wl_v (x_not (tmB rfl rfl)) ?_
  refine wl_nil ?_
  refine then_n (hK4 _ _ ?_); clear hK4 K4
  refine cnd (tm rfl) (fun hc0 => ?_) (fun hc0 => ?_)
  · exfalso
    simp at hc0
  try (exfalso; first | with_reducible exact absurd hc0 Bool.false_ne_true | with_reducible exact absurd hc0.symm Bool.false_ne_true | (simp only [nrm] at hc0; omega) | (simp at hc0; done))
  all_goals
   try simp only [nrm] at hc0
   refine wp_skip ?_
   refine then_n (hK3 _ _ ?_); clear hK3 K3
   refine wp_seq_k ?_; intro K5 hK5
   refine wlit ?_
   refine wl_v (x_move (tmI rfl rfl)) ?_
   refine wl_v (x_loadA (cs := [_, _, _, _, _, _, _, _, _, _, _, _, _, _, _, _]) Try.underlying67 rfl ts_67 (tmP rfl rfl) (rangeB hS.ok 0 rfl rfl)) ?_
   refine wl_v (x_loadA (cs := [_, _, _, _, _, _, _, _, _]) Try.underlying107 rfl ts_107 (tmP rfl rfl) (rangeB hS.ok 2 rfl rfl)) ?_
   refine wl_e rfl ?_; intro K hK
   refine ow_call Try.func116 rfl rfl (evs_cons (tmA rfl rfl) <| evs_cons (tmA rfl rfl) <| evs_nil) (hM _) ?_
   rintro e w ⟨rfl, hk⟩
   refine ⟨_, rfl, ?_⟩
   replace hS := hS.kept hk
   clear hk
   refine hK _ _ ?_; clear hK K
   refine wl_v (x_xorN (tmI rfl rfl) (tmI rfl rfl) (fit_u16 (by omega)) (fit_u16 (by omega))) ?_
   refine wl_e rfl ?_; intro K hK
   refine ow_call Try.func59 rfl rfl (evs_cons (tmI rfl rfl) <| evs_nil) (hof _) ?_
   rintro e w ⟨rfl, hk⟩
   refine ⟨_, rfl, ?_⟩
   replace hS := hS.kept hk
   clear hk
   refine hK _ _ ?_; clear hK K
   refine wl_e rfl ?_; intro K hK
   refine ow_storeA hS 1 rfl ts_88 (tmP rfl rfl) (tmA rfl rfl) rfl rfl rfl ?_
   clear hS; intro w hS
   refine hK _ _ ?_; clear hK K
   refine wl_v (x_assign (ev_cN 0)) ?_
   refine wl_nil ?_
   refine then_n (hK5 _ _ ?_); clear hK5 K5
   refine wp_ret ?_
   refine ret2 rfl (.cell rfl rfl (load_rowB (cs := [_, _]) hS.ok 1 rfl Try.underlying88 rfl ts_88 rfl)) (.tmp rfl (show _ = Value.int _ _ from rfl)) ?_
   exact ⟨rfl, hS.kp⟩
theorem unhide {b w m : Nat} (hb : b < 2) (hw : w < 32768) (hm : m < 32768) : (b * 32768 + (w ^^^ m)) / 2 ^ 15 = b ∧ ((b * 32768 + (w ^^^ m)) ^^^ m) % 32768 = w := by
  have hx := xor15 hw hm
  refine ⟨by omega, ?_⟩
  have h := Nat.xor_mod_two_pow (a := b * 32768 + (w ^^^ m)) (b := m) (n := 15)
  have h1 : (b * 32768 + (w ^^^ m)) % 2 ^ 15 = w ^^^ m := by omega
  have h2 : m % 2 ^ 15 = m := by omega
  rw [h1, h2, Nat.xor_assoc, Nat.xor_self, Nat.xor_zero] at h
  exact h
end Go.Proofs.Ytilgolflpdpfnaa
