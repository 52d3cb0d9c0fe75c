
/- ring's Bytes and Parse and the reference's, the law's awake, by contract. Conditions: none but bounds. -/
import Derived.Test.YtilgolflpdpfnaaRingN
import Derived.Test.YtilgolflpdpfnaaRd
import Derived.Test.YtilgolflpdpfnaaJoin
namespace Go.Proofs.Ytilgolflpdpfnaa
open Go.RowKit
def rgB (k : Nat → Nat) (u : Nat) : List Nat := kL k ++ be u 8
theorem rgB_len (k : Nat → Nat) (u : Nat) : (rgB k u).length = 24 := by simp [rgB, kL_len, be_length]
theorem rgC_take (k : Nat → Nat) (u : Nat) : (rgC k u).take 16 = kC k := rfl
set_option maxRecDepth 100000 in
set_option maxHeartbeats 4000000 in
theorem ring_bytes_c (k : Nat → Nat) (u : Nat) (w0 : World) (hu : u ≤ 18446744073709551615) :
    Calls Try.prog 45 #[.agg (rgC k u).toArray] w0 fun e w' => ∃ g, e = .returned (.slice (some ⟨g, 0, none⟩) 24 24) ∧ New w0 w' (.row (.slice (some ⟨g, 0, none⟩) 24 24) 5 1 24 ((rgB k u).map u8v)) ∧ Kp [] w0 w' := by
  have hS := St.sv w0
  refine ent (n := 13) Try.func45 rfl rfl ?_
  refine wp_seq_k ?_; intro K1 hK1
  refine wlit ?_
  refine wl_e rfl ?_; intro K hK
  refine ow_box hS (tmA rfl rfl) rfl ?_
  clear hS; intro g0_0 w hg0_0 hS
  refine hK _ _ ?_; clear hK K
  refine wl_v (x_assign ev_c) ?_
  refine wl_nil ?_
  refine then_n (hK1 _ _ ?_); clear hK1 K1
  refine wp_seq_k ?_; intro K2 hK2
  refine wlit ?_
  refine wl_e rfl ?_; intro K hK
  refine ow_make hS Try.underlying22 tz_5 rfl (ev_cN 16) (ev_cN 16) rfl (by omega) (by simp only [maxLen]; omega) ?_
  clear hS; intro g1_0 w hg1_0 hS
  refine hK _ _ ?_; clear hK K
  refine wl_v (x_assign (tmS rfl rfl)) ?_
  refine wl_nil ?_
  refine then_n (hK2 _ _ ?_); clear hK2 K2
  refine wp_seq_k ?_; intro K3 hK3
  replace hS := hS.freeze 1 rfl
  have hvk : View w w.heap.size (some ⟨g0_0, 0, none⟩) ((kL k).map u8v) := by
    have h := (viewV hS.ok 1 rfl).take 16
    exact h
  replace hS := hS.subv 1 rfl hvk (fun g hg => hg)
  replace hS := hS.pick [1, 0, 2] rfl rfl
  try replace hS := St.nm (M' := [.row _ _ _ _ _, .vw _ _, .vw _ _]) hS rfl
  refine wlit ?_
  refine wl_v (x_move (tmS rfl rfl)) ?_
  refine wl_v (x_fa 0 Try.underlying69 rfl rfl ts_67 (tmP rfl rfl)) ?_
  refine wl_v (x_sliceA Try.underlying67 ts_5 rfl (tmP rfl rfl)) ?_
  refine wl_e rfl ?_; intro K hK
  refine ow_copyR (o := 0) hS 0 rfl Try.underlying22 ts_5 (tmS rfl rfl) (tmS rfl rfl) (viewV hS.ok 1 rfl) rfl (fun _ => rfl) (by simp [kL]) (u8v_one _) ?_
  clear hS; intro w hS
  refine hK _ _ ?_; clear hK K
  refine wl_nil ?_
  refine then_n (hK3 _ _ ?_); clear hK3 K3
  refine wp_seq_k ?_; intro K4 hK4
  have hrow : splice (List.replicate 16 (Value.int .u8 0)) 0 ((kL k).map u8v) = (kL k).map u8v := rfl
  replace hS : St [] w0 [.row (.slice (some ⟨g1_0, 0, none⟩) 16 16) 5 1 16 ((kL k).map u8v), .vw (some ⟨g0_0, 0, none⟩) ((kL k).map u8v), .vw (some ⟨g0_0, 0, none⟩) (rgC k u)] w := hS
  refine wlit ?_
  refine wl_v (x_move (tmS rfl rfl)) ?_
  refine wl_v (x_fa 16 Try.underlying69 rfl rfl ts_24 (tmP rfl rfl)) ?_
  first
   | refine wl_v (x_load Try.underlying24 rfl (tmP rfl rfl) (cellR hS.ok 0 rfl rfl)) ?_
   | refine wl_v (x_load Try.underlying24 rfl (tmP rfl rfl) (cellR hS.ok 0 rfl (getm (by omega)))) ?_
   | refine wl_v (x_load Try.underlying24 rfl (tmP rfl rfl) (cellRs hS.ok 0 rfl (fun _ => rfl) rfl (by omega) rfl)) ?_
   | refine wl_v (x_load Try.underlying24 rfl (tmP rfl rfl) (cellV hS.ok 1 rfl rfl)) ?_
   | refine wl_v (x_load Try.underlying24 rfl (tmP rfl rfl) (cellV hS.ok 1 rfl (getm (by omega)))) ?_
   | refine wl_v (x_load Try.underlying24 rfl (tmP rfl rfl) (cellVs hS.ok 1 rfl (fun _ => rfl) rfl (by omega) rfl)) ?_
   | refine wl_v (x_load Try.underlying24 rfl (tmP rfl rfl) (cellV hS.ok 2 rfl rfl)) ?_
   | refine wl_v (x_load Try.underlying24 rfl (tmP rfl rfl) (cellV hS.ok 2 rfl (getm (by omega)))) ?_
   | refine wl_v (x_load Try.underlying24 rfl (tmP rfl rfl) (cellVs hS.ok 2 rfl (fun _ => rfl) rfl (by omega) rfl)) ?_
  refine wl_e rfl ?_; intro K hK
  refine ow_call Try.func105 rfl rfl (evs_cons (tmS rfl rfl) <| evs_cons (tmI rfl rfl) <| evs_cons (ev_cN 8) <| evs_nil) (put_c 16 _ 16 (kL k) u 8 _ (viewR hS.ok 0 rfl) rfl (by omega) (by omega) (by omega)) ?_
  rintro e w ⟨g, rfl, hn, hk⟩
  refine ⟨_, rfl, ?_⟩
  replace hS := hS.add hk hn -- +rowz
  clear hn hk
  refine hK _ _ ?_; clear hK K
  refine wl_v (x_assign (tmS rfl rfl)) ?_
  refine wl_nil ?_
  refine then_n (hK4 _ _ ?_); clear hK4 K4
  refine wp_ret ?_
  refine ret1 rfl (.tmp rfl (show _ = Value.slice _ _ _ from rfl)) ?_
  exact ⟨_, rfl, hS.new 0 rfl rfl, hS.kp⟩
set_option maxRecDepth 100000 in
set_option maxHeartbeats 4000000 in
theorem rring_bytes_c (k : Nat → Nat) (u : Nat) (w0 : World) (hu : u ≤ 18446744073709551615) :
    Calls Try.prog 46 #[.agg (rgC k u).toArray] w0 fun e w' => ∃ A c, e = .returned (.slice A 24 c) ∧ New w0 w' (.row (.slice A 24 c) 5 1 24 ((rgB k u).map u8v)) ∧ Kp [] w0 w' := by
  have hS := St.sv w0
  refine ent (n := 11) Try.func46 rfl rfl ?_
  refine wp_seq_k ?_; intro K1 hK1
  refine wlit ?_
  refine wl_e rfl ?_; intro K hK
  refine ow_box hS (tmA rfl rfl) rfl ?_
  clear hS; intro g0_0 w hg0_0 hS
  refine hK _ _ ?_; clear hK K
  refine wl_v (x_assign ev_c) ?_
  refine wl_nil ?_
  refine then_n (hK1 _ _ ?_); clear hK1 K1
  refine wp_seq_k ?_; intro K2 hK2
  replace hS := hS.freeze 0 rfl
  have hvk : View w w.heap.size (some ⟨g0_0, 0, none⟩) ((kL k).map u8v) := by
    have h := (viewV hS.ok 0 rfl).take 16
    exact h
  replace hS := hS.subv 0 rfl hvk (fun g hg => hg)
  refine rg_startk 0 hS mixed_ ?_
  clear hS; intro w hS
  refine rg_take 1 rfl rfl (by kernel_rfl) (by kernel_rfl) (by kernel_rfl) (want_0) (fun w hok => x_fa 0 Try.underlying66 rfl rfl ts_64 (tmP rfl rfl)) ?_
  refine rg_take 2 rfl rfl (by kernel_rfl) (by kernel_rfl) (by kernel_rfl) (want_0) (fun w hok => x_sliceA Try.underlying64 ts_5 rfl (tmP rfl rfl)) ?_
  refine rg_take 4 rfl rfl (by kernel_rfl) (by kernel_rfl) (by kernel_rfl) (want_0) (fun w hok => x_fa 16 Try.underlying66 rfl rfl ts_24 (tmP rfl rfl)) ?_
  first
   | refine rg_take 5 rfl rfl (by kernel_rfl) (by kernel_rfl) (by kernel_rfl) (want_0) (fun w hok => x_load Try.underlying24 rfl (tmP rfl rfl) (cellV hok 0 rfl rfl)) ?_
   | refine rg_take 5 rfl rfl (by kernel_rfl) (by kernel_rfl) (by kernel_rfl) (want_0) (fun w hok => x_load Try.underlying24 rfl (tmP rfl rfl) (cellV hok 0 rfl (getm (by omega)))) ?_
   | refine rg_take 5 rfl rfl (by kernel_rfl) (by kernel_rfl) (by kernel_rfl) (want_0) (fun w hok => x_load Try.underlying24 rfl (tmP rfl rfl) (cellVs hok 0 rfl (fun _ => rfl) rfl (by omega) rfl)) ?_
   | refine rg_take 5 rfl rfl (by kernel_rfl) (by kernel_rfl) (by kernel_rfl) (want_0) (fun w hok => x_load Try.underlying24 rfl (tmP rfl rfl) (cellV hok 1 rfl rfl)) ?_
   | refine rg_take 5 rfl rfl (by kernel_rfl) (by kernel_rfl) (by kernel_rfl) (want_0) (fun w hok => x_load Try.underlying24 rfl (tmP rfl rfl) (cellV hok 1 rfl (getm (by omega)))) ?_
   | refine rg_take 5 rfl rfl (by kernel_rfl) (by kernel_rfl) (by kernel_rfl) (want_0) (fun w hok => x_load Try.underlying24 rfl (tmP rfl rfl) (cellVs hok 1 rfl (fun _ => rfl) rfl (by omega) rfl)) ?_
  refine rg_step 0 rfl (by kernel_rfl) (want_0) (oks_drop hS 0 rfl) ?_; intro K hK
  refine ow_build0 hS Try.underlying22 tz_5 rfl rfl ?_
  clear hS; intro g1_0 w hg1_0 hS
  refine hK _ _ ?_; clear hK K
  refine rg_step 3 rfl (by kernel_rfl) (want_0) (oks_drop hS 1 rfl) ?_; intro K hK
  first
   | (refine ow_append hS 0 1 rfl rfl Try.underlying22 tz_5 rfl (tmS rfl rfl) (tmS rfl rfl) rfl ⟨by decide, by decide, rfl⟩ (by simp only [maxLen]; omega) (by omega) ?_; clear hS; intro g1_3 cg1_3 w hS)
   | (refine ow_append hS 0 2 rfl rfl Try.underlying22 tz_5 rfl (tmS rfl rfl) (tmS rfl rfl) rfl ⟨by decide, by decide, rfl⟩ (by simp only [maxLen]; omega) (by omega) ?_; clear hS; intro g1_3 cg1_3 w hS)
   | (refine ow_appendV hS 0 rfl (viewR hS.ok 0 rfl) Try.underlying22 tz_5 rfl (tmS rfl rfl) (tmS rfl rfl) (by first | exact u8v_one _ | (intro u hu; simp at hu; first | (rcases hu with rfl | rfl <;> rfl) | (obtain ⟨_, _, rfl⟩ := hu; rfl))) ⟨by decide, by first | rfl | (simp; done) | (simp; omega)⟩ (by simp only [maxLen]; omega) (by omega) ?_; clear hS; intro g1_3 cg1_3 w hAg1_3 hCg1_3 hS)
   | (refine ow_appendV hS 0 rfl (viewV hS.ok 1 rfl) Try.underlying22 tz_5 rfl (tmS rfl rfl) (tmS rfl rfl) (by first | exact u8v_one _ | (intro u hu; simp at hu; first | (rcases hu with rfl | rfl <;> rfl) | (obtain ⟨_, _, rfl⟩ := hu; rfl))) ⟨by decide, by first | rfl | (simp; done) | (simp; omega)⟩ (by simp only [maxLen]; omega) (by omega) ?_; clear hS; intro g1_3 cg1_3 w hAg1_3 hCg1_3 hS)
   | (refine ow_appendV hS 0 rfl (viewV hS.ok 2 rfl) Try.underlying22 tz_5 rfl (tmS rfl rfl) (tmS rfl rfl) (by first | exact u8v_one _ | (intro u hu; simp at hu; first | (rcases hu with rfl | rfl <;> rfl) | (obtain ⟨_, _, rfl⟩ := hu; rfl))) ⟨by decide, by first | rfl | (simp; done) | (simp; omega)⟩ (by simp only [maxLen]; omega) (by omega) ?_; clear hS; intro g1_3 cg1_3 w hAg1_3 hCg1_3 hS)
   | (refine ow_appendV hS 0 rfl View.nil_ Try.underlying22 tz_5 rfl (tmS rfl rfl) (tmS rfl rfl) (by first | exact u8v_one _ | (intro u hu; simp at hu; first | (rcases hu with rfl | rfl <;> rfl) | (obtain ⟨_, _, rfl⟩ := hu; rfl))) ⟨by decide, by first | rfl | (simp; done) | (simp; omega)⟩ (by simp only [maxLen]; omega) (by omega) ?_; clear hS; intro g1_3 cg1_3 w hAg1_3 hCg1_3 hS)
  refine hK _ _ ?_; clear hK K
  refine rg_step 6 rfl (by kernel_rfl) (want_0) (oks_drop hS 1 rfl) ?_; intro K hK
  refine ow_call Try.func106 rfl rfl (evs_cons (tmI rfl rfl) <| evs_cons (ev_cN 8) <| evs_nil) (rbytes_c u 8 _ (by omega) (by omega)) ?_
  rintro e w ⟨g, rfl, hn, hk⟩
  refine ⟨_, rfl, ?_⟩
  replace hS := (hS.add hk hn).freeze 0 rfl -- +vz
  clear hn hk
  refine hK _ _ ?_; clear hK K
  refine rg_step 7 rfl (by kernel_rfl) (want_0) (oks_drop hS 2 rfl) ?_; intro K hK
  first
   | (refine ow_append hS 1 0 rfl rfl Try.underlying22 tz_5 rfl (tmS rfl rfl) (tmS rfl rfl) rfl ⟨by decide, by decide, rfl⟩ (by simp only [maxLen]; omega) (by omega) ?_; clear hS; intro g1_7 cg1_7 w hS)
   | (refine ow_append hS 1 2 rfl rfl Try.underlying22 tz_5 rfl (tmS rfl rfl) (tmS rfl rfl) rfl ⟨by decide, by decide, rfl⟩ (by simp only [maxLen]; omega) (by omega) ?_; clear hS; intro g1_7 cg1_7 w hS)
   | (refine ow_append hS 1 3 rfl rfl Try.underlying22 tz_5 rfl (tmS rfl rfl) (tmS rfl rfl) rfl ⟨by decide, by decide, rfl⟩ (by simp only [maxLen]; omega) (by omega) ?_; clear hS; intro g1_7 cg1_7 w hS)
   | (refine ow_appendV hS 1 rfl (viewV hS.ok 0 rfl) Try.underlying22 tz_5 rfl (tmS rfl rfl) (tmS rfl rfl) (by first | exact u8v_one _ | (intro u hu; simp at hu; first | (rcases hu with rfl | rfl <;> rfl) | (obtain ⟨_, _, rfl⟩ := hu; rfl))) ⟨by decide, by first | rfl | (simp; done) | (simp; omega)⟩ (by simp only [maxLen]; omega) (by omega) ?_; clear hS; intro g1_7 cg1_7 w hAg1_7 hCg1_7 hS)
   | (refine ow_appendV hS 1 rfl (viewR hS.ok 1 rfl) Try.underlying22 tz_5 rfl (tmS rfl rfl) (tmS rfl rfl) (by first | exact u8v_one _ | (intro u hu; simp at hu; first | (rcases hu with rfl | rfl <;> rfl) | (obtain ⟨_, _, rfl⟩ := hu; rfl))) ⟨by decide, by first | rfl | (simp; done) | (simp; omega)⟩ (by simp only [maxLen]; omega) (by omega) ?_; clear hS; intro g1_7 cg1_7 w hAg1_7 hCg1_7 hS)
   | (refine ow_appendV hS 1 rfl (viewV hS.ok 2 rfl) Try.underlying22 tz_5 rfl (tmS rfl rfl) (tmS rfl rfl) (by first | exact u8v_one _ | (intro u hu; simp at hu; first | (rcases hu with rfl | rfl <;> rfl) | (obtain ⟨_, _, rfl⟩ := hu; rfl))) ⟨by decide, by first | rfl | (simp; done) | (simp; omega)⟩ (by simp only [maxLen]; omega) (by omega) ?_; clear hS; intro g1_7 cg1_7 w hAg1_7 hCg1_7 hS)
   | (refine ow_appendV hS 1 rfl (viewV hS.ok 3 rfl) Try.underlying22 tz_5 rfl (tmS rfl rfl) (tmS rfl rfl) (by first | exact u8v_one _ | (intro u hu; simp at hu; first | (rcases hu with rfl | rfl <;> rfl) | (obtain ⟨_, _, rfl⟩ := hu; rfl))) ⟨by decide, by first | rfl | (simp; done) | (simp; omega)⟩ (by simp only [maxLen]; omega) (by omega) ?_; clear hS; intro g1_7 cg1_7 w hAg1_7 hCg1_7 hS)
   | (refine ow_appendV hS 1 rfl View.nil_ Try.underlying22 tz_5 rfl (tmS rfl rfl) (tmS rfl rfl) (by first | exact u8v_one _ | (intro u hu; simp at hu; first | (rcases hu with rfl | rfl <;> rfl) | (obtain ⟨_, _, rfl⟩ := hu; rfl))) ⟨by decide, by first | rfl | (simp; done) | (simp; omega)⟩ (by simp only [maxLen]; omega) (by omega) ?_; clear hS; intro g1_7 cg1_7 w hAg1_7 hCg1_7 hS)
  refine hK _ _ ?_; clear hK K
  refine rg_take 8 rfl rfl (by kernel_rfl) (by kernel_rfl) (by kernel_rfl) (want_0) (fun w hok => x_assign (tmS rfl rfl)) ?_
  refine rg_done (oks_drop hS 2 rfl) (by kernel_rfl) ?_
  refine then_n (hK2 _ _ ?_); clear hK2 K2
  refine wp_ret ?_
  refine ret1 rfl (.tmp rfl (show _ = Value.slice _ _ _ from rfl)) ?_
  have e : [] ++ List.map u8v (kL k) ++ List.map u8v (be u 8) = (rgB k u).map u8v := by simp [rgB]
  have hn := hS.new 1 rfl rfl
  rw [e] at hn
  exact ⟨_, _, rfl, hn, hS.kp⟩
def ofB (b : List Nat) : Nat → Nat := ofF (numBE (b.take 8)) (numBE ((b.drop 8).take 8))
set_option maxRecDepth 100000 in
set_option maxHeartbeats 4000000 in
theorem ring_parse_bad (n : Nat) (A : Option Addr) (c : Nat) (w0 : World) (h : n ≠ 24) :
    Calls Try.prog 43 #[.slice A n c] w0 fun e w' => e = .returned (.tuple #[.agg (rgC (fun _ => 0) 0).toArray, .int .i64 20]) ∧ Kp [] w0 w' := by
  have hS := St.sv w0
  refine ent (n := 19) Try.func43 rfl rfl ?_
  refine wp_seq_k ?_; intro K1 hK1
  refine wlit ?_
  refine wl_e rfl ?_; intro K hK
  refine ow_alloc hS tz_69 rfl ?_
  clear hS; intro g0_0 w hg0_0 hS
  refine hK _ _ ?_; clear hK K
  refine wl_v (x_assign (ev_cN 0)) ?_
  refine wl_nil ?_
  refine then_n (hK1 _ _ ?_); clear hK1 K1
  refine wp_seq_k ?_; intro K2 hK2
  refine wp_seq_k ?_; intro K3 hK3
  refine wlit ?_
  refine wl_v (x_move (tmS rfl rfl)) ?_
  refine wl_v (x_len Try.underlying22 (tmS rfl rfl)) ?_
  refine wl_v (x_neq (tmI rfl rfl) (ev_cN 24)) ?_
  refine wl_nil ?_
  refine then_n (hK3 _ _ ?_); clear hK3 K3
  refine cnds (tm rfl) (fun hc0 => ?_) (fun hc0 => ?_)
  · exfalso
    simp only [nrm] at hc0
    omega
  try (exfalso; first | with_reducible exact absurd hc0 Bool.false_ne_true | with_reducible exact absurd hc0.symm Bool.false_ne_true | (simp only [nrm] at hc0; omega) | (simp at hc0; done))
  all_goals
   try simp only [nrm] at hc0
   refine wp_seq_k ?_; intro K4 hK4
   refine wlit ?_
   refine wl_v (x_build (bc_skipL [.int .u8 0, .int .u8 0, .int .u8 0, .int .u8 0, .int .u8 0, .int .u8 0, .int .u8 0, .int .u8 0, .int .u8 0, .int .u8 0, .int .u8 0, .int .u8 0, .int .u8 0, .int .u8 0, .int .u8 0, .int .u8 0] <| bc_skip (.int .u64 0) <| bc_nil) (by kernel_rfl)) ?_
   refine wl_e rfl ?_; intro K hK
   refine ow_storeA hS 0 rfl ts_69 (tmP rfl rfl) (tmA rfl rfl) rfl rfl rfl ?_
   clear hS; intro w hS
   try replace hS := St.nm (M' := [.blk _ _ [_, _, _, _, _, _, _, _, _, _, _, _, _, _, _, _, _], _]) hS rfl
   refine hK _ _ ?_; clear hK K
   refine wl_v (x_assign (ev_cN 20)) ?_
   refine wl_nil ?_
   refine then_n (hK4 _ _ ?_); clear hK4 K4
   refine wp_ret ?_
   refine then_r ?_
   refine ret2 rfl (.cell rfl rfl (load_rowB (cs := [_, _, _, _, _, _, _, _, _, _, _, _, _, _, _, _, _]) hS.ok 0 rfl Try.underlying69 rfl ts_69 rfl)) (.tmp rfl (show _ = Value.int _ _ from rfl)) ?_
   exact ⟨rfl, hS.kp⟩
set_option maxRecDepth 100000 in
set_option maxHeartbeats 4000000 in
theorem rring_parse_bad (n : Nat) (A : Option Addr) (c : Nat) (w0 : World) (h : n ≠ 24) :
    Calls Try.prog 44 #[.slice A n c] w0 fun e w' => e = .returned (.tuple #[.agg (rgC (fun _ => 0) 0).toArray, .bool false]) ∧ Kp [] w0 w' := by
  have hS := St.sv w0
  refine ent (n := 19) Try.func44 rfl rfl ?_
  refine wp_seq_k ?_; intro K1 hK1
  refine wlit ?_
  refine wl_e rfl ?_; intro K hK
  refine ow_alloc hS tz_66 rfl ?_
  clear hS; intro g0_0 w hg0_0 hS
  refine hK _ _ ?_; clear hK K
  refine wl_v (x_assign ev_c) ?_
  refine wl_nil ?_
  refine then_n (hK1 _ _ ?_); clear hK1 K1
  refine wp_seq_k ?_; intro K2 hK2
  refine wp_seq_k ?_; intro K3 hK3
  refine wlit ?_
  refine wl_v (x_move (tmS rfl rfl)) ?_
  refine wl_v (x_len Try.underlying22 (tmS rfl rfl)) ?_
  refine wl_v (x_neq (tmI rfl rfl) (ev_cN 24)) ?_
  refine wl_nil ?_
  refine then_n (hK3 _ _ ?_); clear hK3 K3
  refine cnds (tm rfl) (fun hc0 => ?_) (fun hc0 => ?_)
  · exfalso
    simp only [nrm] at hc0
    omega
  try (exfalso; first | with_reducible exact absurd hc0 Bool.false_ne_true | with_reducible exact absurd hc0.symm Bool.false_ne_true | (simp only [nrm] at hc0; omega) | (simp at hc0; done))
  all_goals
   try simp only [nrm] at hc0
   refine wp_seq_k ?_; intro K4 hK4
   refine wlit ?_
   refine wl_v (x_build (bc_skipL [.int .u8 0, .int .u8 0, .int .u8 0, .int .u8 0, .int .u8 0, .int .u8 0, .int .u8 0, .int .u8 0, .int .u8 0, .int .u8 0, .int .u8 0, .int .u8 0, .int .u8 0, .int .u8 0, .int .u8 0, .int .u8 0] <| bc_skip (.int .u64 0) <| bc_nil) (by kernel_rfl)) ?_
   refine wl_e rfl ?_; intro K hK
   refine ow_storeA hS 0 rfl ts_66 (tmP rfl rfl) (tmA rfl rfl) rfl rfl rfl ?_
   clear hS; intro w hS
   try replace hS := St.nm (M' := [.blk _ _ [_, _, _, _, _, _, _, _, _, _, _, _, _, _, _, _, _], _]) hS rfl
   refine hK _ _ ?_; clear hK K
   refine wl_v (x_assign ev_c) ?_
   refine wl_nil ?_
   refine then_n (hK4 _ _ ?_); clear hK4 K4
   refine wp_ret ?_
   refine then_r ?_
   refine ret2 rfl (.cell rfl rfl (load_rowB (cs := [_, _, _, _, _, _, _, _, _, _, _, _, _, _, _, _, _]) hS.ok 0 rfl Try.underlying66 rfl ts_66 rfl)) (.tmp rfl (show _ = Value.bool _ from rfl)) ?_
   exact ⟨rfl, hS.kp⟩
theorem num8_lt {l : List Nat} (hb : Bytes l) (p : Nat) : numBE ((l.drop p).take 8) ≤ 18446744073709551615 := by
  have h := numBE_lt' ((hb.drop p).take 8)
  have h2 : (256 : Nat) ^ ((l.drop p).take 8).length ≤ 256 ^ 8 := Nat.pow_le_pow_right (by omega) (by rw [List.length_take]; omega)
  omega
set_option maxRecDepth 100000 in
set_option maxHeartbeats 4000000 in
theorem ring_parse_c (A : Option Addr) (c : Nat) (l : List Nat) (w0 : World) (hv : View w0 w0.heap.size A (l.map u8v)) (hl : l.length = 24) (hb : Bytes l) :
    Calls Try.prog 43 #[.slice A 24 c] w0 fun e w' => e = .returned (.tuple #[.agg (rgC (ofB l) (numBE ((l.drop 16).take 8))).toArray, .int .i64 0]) ∧ Kp [] w0 w' := by
  have hS := (St.sv w0).vcons rfl hv
  have b0 := num8_lt hb 0
  have b1 := num8_lt hb 8
  have b2 := num8_lt hb 16
  have hof := fun w => of_c (numBE ((l.drop 0).take 8)) (numBE ((l.drop 8).take 8)) w b0 b1
  have hoe : ofF (numBE ((l.drop 0).take 8)) (numBE ((l.drop 8).take 8)) = ofB l := rfl
  rw [hoe] at hof
  refine ent (n := 19) Try.func43 rfl rfl ?_
  refine wp_seq_k ?_; intro K1 hK1
  refine wlit ?_
  refine wl_e rfl ?_; intro K hK
  refine ow_alloc hS tz_69 rfl ?_
  clear hS; intro g0_0 w hg0_0 hS
  refine hK _ _ ?_; clear hK K
  refine wl_v (x_assign (ev_cN 0)) ?_
  refine wl_nil ?_
  refine then_n (hK1 _ _ ?_); clear hK1 K1
  refine wp_seq_k ?_; intro K2 hK2
  refine wp_seq_k ?_; intro K3 hK3
  refine wlit ?_
  refine wl_v (x_move (tmS rfl rfl)) ?_
  refine wl_v (x_len Try.underlying22 (tmS rfl rfl)) ?_
  refine wl_v (x_neq (tmI rfl rfl) (ev_cN 24)) ?_
  refine wl_nil ?_
  refine then_n (hK3 _ _ ?_); clear hK3 K3
  refine cnd (tm rfl) (fun hc0 => ?_) (fun hc0 => ?_)
  · exfalso
    simp at hc0
  try (exfalso; first | with_reducible exact absurd hc0 Bool.false_ne_true | with_reducible exact absurd hc0.symm Bool.false_ne_true | (simp only [nrm] at hc0; omega) | (simp at hc0; done))
  all_goals
   try simp only [nrm] at hc0
   refine wp_skip ?_
   refine then_n (hK2 _ _ ?_); clear hK2 K2
   refine wp_seq_k ?_; intro K4 hK4
   refine wlit ?_
   refine wl_v (x_move (tmS rfl rfl)) ?_
   refine wl_e rfl ?_; intro K hK
   refine ow_call Try.func100 rfl rfl (evs_cons (tmS rfl rfl) <| evs_nil) (read_c 24 A c l _ (viewV hS.ok 1 rfl) hl (by omega)) ?_
   rintro e w ⟨gr, A0, rfl, hS2⟩
   refine ⟨_, rfl, ?_⟩
   replace hS := hS.adds hS2 rfl -- +gr,rowb
   clear hS2
   refine hK _ _ ?_; clear hK K
   refine wl_v (x_assign (tmP rfl rfl)) ?_
   refine wl_nil ?_
   refine then_n (hK4 _ _ ?_); clear hK4 K4
   refine wp_seq_k ?_; intro K5 hK5
   refine wlit ?_
   refine wl_v (x_move (tmP rfl rfl)) ?_
   refine wl_e rfl ?_; intro K hK
   refine ow_call Try.func102 rfl rfl (evs_cons (tmP rfl rfl) <| evs_cons (ev_cN 8) <| evs_nil) (num_c gr A0 A0 0 8 24 24 l false _ _ (hS.enter [0] [1] rfl rfl) off_zero (by omega) (by omega) hl hb (by omega)) ?_
   rintro e w ⟨A1, c1, rfl, hS2, hA, hcp⟩
   refine ⟨_, rfl, ?_⟩
   replace hS := hS.turn 0 rfl rfl hS2 rfl
   clear hS2
   try replace hS := St.nm (M' := [_, .row _ _ _ _ _, .blk _ _ [_, _, _, _, _, _, _, _, _, _, _, _, _, _, _, _, _], .vw _ _]) hS rfl
   refine hK _ _ ?_; clear hK K
   refine wl_v (x_move (tmP rfl rfl)) ?_
   refine wl_e rfl ?_; intro K hK
   refine ow_call Try.func102 rfl rfl (evs_cons (tmP rfl rfl) <| evs_cons (ev_cN 8) <| evs_nil) (num_c gr A0 A1 (0 + 8) 8 24 c1 l false _ _ (hS.enter [0] [1] rfl rfl) hA (by omega) hcp hl hb (by omega)) ?_
   rintro e w ⟨A2, c2, rfl, hS2, hA, hcp⟩
   refine ⟨_, rfl, ?_⟩
   replace hS := hS.turn 0 rfl rfl hS2 rfl
   clear hS2
   try replace hS := St.nm (M' := [_, .row _ _ _ _ _, .blk _ _ [_, _, _, _, _, _, _, _, _, _, _, _, _, _, _, _, _], .vw _ _]) hS rfl
   refine hK _ _ ?_; clear hK K
   refine wl_e rfl ?_; intro K hK
   refine ow_call Try.func101 rfl rfl (evs_cons (tmI rfl rfl) <| evs_cons (tmI rfl rfl) <| evs_nil) (hof _) ?_
   rintro e w ⟨rfl, hk⟩
   refine ⟨_, rfl, ?_⟩
   replace hS := hS.kept hk
   clear hk
   refine hK _ _ ?_; clear hK K
   refine wl_v (x_move (tmP rfl rfl)) ?_
   refine wl_e rfl ?_; intro K hK
   refine ow_call Try.func102 rfl rfl (evs_cons (tmP rfl rfl) <| evs_cons (ev_cN 8) <| evs_nil) (num_c gr A0 A2 (0 + 8 + 8) 8 24 c2 l false _ _ (hS.enter [0] [1] rfl rfl) hA (by omega) hcp hl hb (by omega)) ?_
   rintro e w ⟨A3, c3, rfl, hS2, hA, hcp⟩
   refine ⟨_, rfl, ?_⟩
   replace hS := hS.turn 0 rfl rfl hS2 rfl
   clear hS2
   try replace hS := St.nm (M' := [_, .row _ _ _ _ _, .blk _ _ [_, _, _, _, _, _, _, _, _, _, _, _, _, _, _, _, _], .vw _ _]) hS rfl
   refine hK _ _ ?_; clear hK K
   refine wl_v (x_build (bc_takeL (tmA rfl rfl) <| bc_take (tmI rfl rfl) <| bc_nil) (by kernel_rfl)) ?_
   refine wl_e rfl ?_; intro K hK
   refine ow_storeA hS 2 rfl ts_69 (tmP rfl rfl) (tmA rfl rfl) rfl rfl rfl ?_
   clear hS; intro w hS
   try replace hS := St.nm (M' := [_, .row _ _ _ _ _, .blk _ _ [_, _, _, _, _, _, _, _, _, _, _, _, _, _, _, _, _], .vw _ _]) hS rfl
   refine hK _ _ ?_; clear hK K
   refine wl_v (x_assign (ev_cN 0)) ?_
   refine wl_nil ?_
   refine then_n (hK5 _ _ ?_); clear hK5 K5
   refine wp_ret ?_
   refine ret2 rfl (.cell rfl rfl (load_rowB (cs := [_, _, _, _, _, _, _, _, _, _, _, _, _, _, _, _, _]) hS.ok 2 rfl Try.underlying69 rfl ts_69 rfl)) (.tmp rfl (show _ = Value.int _ _ from rfl)) ?_
   exact ⟨rfl, hS.kp⟩
set_option maxRecDepth 100000 in
set_option maxHeartbeats 4000000 in
theorem rring_parse_c (A : Option Addr) (c : Nat) (l : List Nat) (w0 : World) (hv : View w0 w0.heap.size A (l.map u8v)) (hl : l.length = 24) (hc : 24 ≤ c) (hb : Bytes l) :
    Calls Try.prog 44 #[.slice A 24 c] w0 fun e w' => e = .returned (.tuple #[.agg (rgC (ofB l) (numBE ((l.drop 16).take 8))).toArray, .bool true]) ∧ Kp [] w0 w' := by
  have hS := (St.sv w0).vcons rfl hv
  have b0 := num8_lt hb 0
  have b1 := num8_lt hb 8
  have b2 := num8_lt hb 16
  have hof := fun w => rof_c (numBE ((l.drop 0).take 8)) (numBE ((l.drop 8).take 8)) w b0 b1
  have hoe : ofF (numBE ((l.drop 0).take 8)) (numBE ((l.drop 8).take 8)) = ofB l := rfl
  rw [hoe] at hof
  obtain ⟨bl, ol, rfl⟩ := view_some hv (by rw [List.length_map]; omega)
  have e16 : (l.drop 16).take 8 = l.drop 16 := List.take_of_length_le (by rw [List.length_drop]; omega)
  refine ent (n := 19) Try.func44 rfl rfl ?_
  refine wp_seq_k ?_; intro K1 hK1
  refine wlit ?_
  refine wl_e rfl ?_; intro K hK
  refine ow_alloc hS tz_66 rfl ?_
  clear hS; intro g0_0 w hg0_0 hS
  refine hK _ _ ?_; clear hK K
  refine wl_v (x_assign ev_c) ?_
  refine wl_nil ?_
  refine then_n (hK1 _ _ ?_); clear hK1 K1
  refine wp_seq_k ?_; intro K2 hK2
  refine wp_seq_k ?_; intro K3 hK3
  refine wlit ?_
  refine wl_v (x_move (tmS rfl rfl)) ?_
  refine wl_v (x_len Try.underlying22 (tmS rfl rfl)) ?_
  refine wl_v (x_neq (tmI rfl rfl) (ev_cN 24)) ?_
  refine wl_nil ?_
  refine then_n (hK3 _ _ ?_); clear hK3 K3
  refine cnd (tm rfl) (fun hc0 => ?_) (fun hc0 => ?_)
  · exfalso
    simp at hc0
  try (exfalso; first | with_reducible exact absurd hc0 Bool.false_ne_true | with_reducible exact absurd hc0.symm Bool.false_ne_true | (simp only [nrm] at hc0; omega) | (simp at hc0; done))
  all_goals
   try simp only [nrm] at hc0
   refine wp_skip ?_
   refine then_n (hK2 _ _ ?_); clear hK2 K2
   refine wp_seq_k ?_; intro K4 hK4
   replace hS := hS.cutb 1 0 8 rfl (by omega : l.length ≤ c)
   replace hS := hS.cutb 2 8 8 rfl (by omega : l.length ≤ c)
   replace hS := hS.cutb 3 16 8 rfl (by omega : l.length ≤ c)
   replace hS := hS.pick [3, 2, 1, 0, 4] rfl rfl
   try replace hS := St.nm (M' := [.blk _ _ [_, _, _, _, _, _, _, _, _, _, _, _, _, _, _, _, _], .vw _ _, .vw _ _, .vw _ _, .vw _ _]) hS rfl
   refine rg_startk 1 hS mixed_ ?_
   clear hS; intro w hS
   refine rg_take 0 rfl rfl (by kernel_rfl) (by kernel_rfl) (by kernel_rfl) (want_0) (fun w hok => x_move (tmS rfl rfl)) ?_
   refine rg_take 1 rfl rfl (by kernel_rfl) (by kernel_rfl) (by kernel_rfl) (want_0) (fun w hok => x_sliceH Try.underlying22 ts_5 (tmS rfl rfl) (ev_cN 8) (by omega)) ?_
   refine rg_take 3 rfl rfl (by kernel_rfl) (by kernel_rfl) (by kernel_rfl) (want_0) (fun w hok => x_move (tmS rfl rfl)) ?_
   refine rg_take 4 rfl rfl (by kernel_rfl) (by kernel_rfl) (by kernel_rfl) (want_0) (fun w hok => x_sliceLH Try.underlying22 ts_5 (tmS rfl rfl) (ev_cN 8) (ev_cN 16) (by omega)) ?_
   refine rg_take 7 rfl rfl (by kernel_rfl) (by kernel_rfl) (by kernel_rfl) (want_0) (fun w hok => x_move (tmS rfl rfl)) ?_
   refine rg_take 8 rfl rfl (by kernel_rfl) (by kernel_rfl) (by kernel_rfl) (want_0) (fun w hok => x_sliceL Try.underlying22 ts_5 (tmS rfl rfl) (ev_cN 16) (by omega)) ?_
   refine rg_step 2 rfl (by kernel_rfl) (want_0) (oks_drop hS 1 rfl) ?_; intro K hK
   refine ow_call Try.func104 rfl rfl (evs_cons (tmS rfl rfl) <| evs_nil) (rnum_c 8 _ _ _ _ (viewV hS.ok 1 rfl) (by rw [List.length_take, List.length_drop]; omega) ((hb.drop 0).take 8) (by omega)) ?_
   rintro e w ⟨rfl, hk⟩
   refine ⟨_, rfl, ?_⟩
   replace hS := hS.kept hk
   clear hk
   refine hK _ _ ?_; clear hK K
   refine rg_step 5 rfl (by kernel_rfl) (want_0) (oks_drop hS 1 rfl) ?_; intro K hK
   refine ow_call Try.func104 rfl rfl (evs_cons (tmS rfl rfl) <| evs_nil) (rnum_c 8 _ _ _ _ (viewV hS.ok 2 rfl) (by rw [List.length_take, List.length_drop]; omega) ((hb.drop 8).take 8) (by omega)) ?_
   rintro e w ⟨rfl, hk⟩
   refine ⟨_, rfl, ?_⟩
   replace hS := hS.kept hk
   clear hk
   refine hK _ _ ?_; clear hK K
   refine rg_step 6 rfl (by kernel_rfl) (want_0) (oks_drop hS 1 rfl) ?_; intro K hK
   refine ow_call Try.func103 rfl rfl (evs_cons (tmI rfl rfl) <| evs_cons (tmI rfl rfl) <| evs_nil) (hof _) ?_
   rintro e w ⟨rfl, hk⟩
   refine ⟨_, rfl, ?_⟩
   replace hS := hS.kept hk
   clear hk
   refine hK _ _ ?_; clear hK K
   refine rg_step 9 rfl (by kernel_rfl) (want_0) (oks_drop hS 1 rfl) ?_; intro K hK
   refine ow_call Try.func104 rfl rfl (evs_cons (tmS rfl rfl) <| evs_nil) (rnum_c 8 _ _ _ _ (viewV hS.ok 3 rfl) (by rw [List.length_take, List.length_drop]; omega) ((hb.drop 16).take 8) (by omega)) ?_
   rintro e w ⟨rfl, hk⟩
   refine ⟨_, rfl, ?_⟩
   replace hS := hS.kept hk
   clear hk
   refine hK _ _ ?_; clear hK K
   refine rg_take 10 rfl rfl (by kernel_rfl) (by kernel_rfl) (by kernel_rfl) (want_0) (fun w hok => x_build (bc_takeL (tmA rfl rfl) <| bc_take (tmI rfl rfl) <| bc_nil) (by kernel_rfl)) ?_
   refine rg_step 11 rfl (by kernel_rfl) (want_0) (oks_drop hS 1 rfl) ?_; intro K hK
   refine ow_storeA hS 0 rfl ts_66 (tmP rfl rfl) (tmA rfl rfl) rfl rfl rfl ?_
   clear hS; intro w hS
   try replace hS := St.nm (M' := [.blk _ _ [_, _, _, _, _, _, _, _, _, _, _, _, _, _, _, _, _], .vw _ _, .vw _ _, .vw _ _, .vw _ _]) hS rfl
   refine hK _ _ ?_; clear hK K
   refine rg_take 12 rfl rfl (by kernel_rfl) (by kernel_rfl) (by kernel_rfl) (want_0) (fun w hok => x_assign ev_c) ?_
   refine rg_done (oks_drop hS 1 rfl) (by kernel_rfl) ?_
   refine then_n (hK4 _ _ ?_); clear hK4 K4
   refine wp_ret ?_
   refine ret2 rfl (.cell rfl rfl (load_rowB (cs := [_, _, _, _, _, _, _, _, _, _, _, _, _, _, _, _, _]) hS.ok 0 rfl Try.underlying66 rfl ts_66 rfl)) (.tmp rfl (show _ = Value.bool _ from rfl)) ?_
   exact ⟨rfl, hS.kp⟩
theorem rgC_kL {k k' : Nat → Nat} (h : kL k = kL k') (u : Nat) : rgC k u = rgC k' u := by
  have e : ∀ k : Nat → Nat, rgC k u = (kL k).map u8v ++ [.int .u64 (u : Int)] := fun _ => rfl
  rw [e, e, h]
theorem rgB_bytes {k : Nat → Nat} (hkb : Bytes (kL k)) (u : Nat) : Bytes (rgB k u) := hkb.append (be_bytes _ _)
theorem rgB_parse {k : Nat → Nat} {u : Nat} (hkb : Bytes (kL k)) (hu : u < 18446744073709551616) : rgC (ofB (rgB k u)) (numBE (((rgB k u).drop 16).take 8)) = rgC k u := by
  have hd : ((rgB k u).drop 16).take 8 = be u 8 := part_at (P := kL k) (Q := []) (by rw [List.append_nil]; rfl) rfl (be_length _ _)
  have hn : numBE (((rgB k u).drop 16).take 8) = u := by rw [hd, numBE_be]; omega
  rw [hn]
  refine rgC_kL ?_ u
  unfold ofB
  rw [kL_ofF]
  have h1 : (rgB k u).take 8 = (kL k).take 8 := rfl
  have h2 : ((rgB k u).drop 8).take 8 = (kL k).drop 8 := rfl
  rw [h1, h2]
  have b1 := be_numBE (hkb.take 8)
  have b2 := be_numBE (hkb.drop 8)
  have l1 : ((kL k).take 8).length = 8 := rfl
  have l2 : ((kL k).drop 8).length = 8 := rfl
  rw [l1] at b1
  rw [l2] at b2
  rw [b1, b2, List.take_append_drop]
end Go.Proofs.Ytilgolflpdpfnaa
