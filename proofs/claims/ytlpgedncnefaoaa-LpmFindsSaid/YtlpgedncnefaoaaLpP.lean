
/- lpm: Drop by contract; to. Conditions: none but bounds. -/
import Derived.Test.YtlpgedncnefaoaaLpO
namespace Go.Proofs.Ytlpgedncnefaoaa
open Go.RowKit
theorem get_at (f : Nat → Nat) (n : Nat) (t : Sh) {v : Int} (h : getS f n 0 t = some v) : atS f n 0 t ≠ .nil := by
  intro h0
  unfold getS at h
  rw [h0] at h
  cases h
set_option maxRecDepth 100000 in
set_option maxHeartbeats 8000000 in
theorem ldrop_no_c (tb : Nat) (x o : TT) (c : Int) (a : Ad) (z : Int) (m : Nat) (Z : List Ent) (F : List Nat) (w1 w0 : World) (hS : St F w1 (ftab tb a.six x o c Z) w0) (hl : adLim a) (hz : min (max z 0) (adBits a : Int) = (m : Int)) (hno : lookS a z m x.sh = none) :
    Calls Try.prog 10 #[.pointer (some ⟨tb, 0, none⟩), .agg (pxV a z)] w0 fun e w' => e = .returned (.int .i64 6) ∧ St F w1 (ftab tb a.six x o c Z) w' := by
  refine ent (n := 30) Try.func10 rfl rfl ?_
  refine wp_seq_k ?_; intro K1 hK1
  refine wlit ?_
  refine wl_e rfl ?_; intro K hK
  refine ow_box hS (tmA rfl rfl) rfl ?_
  clear hS; intro g0_0 w hg0_0 hS
  refine hK _ _ ?_; clear hK K
  refine wl_v (x_assign (ev_cN 0)) ?_
  refine wl_nil ?_
  refine then_n (hK1 _ _ ?_); clear hK1 K1
  refine wp_seq_k ?_; intro K2 hK2
  refine wp_seq_k ?_; intro K3 hK3
  refine wlit ?_
  refine wl_v (x_move (tmP rfl rfl)) ?_
  first
   | refine wl_v (x_peql Try.underlying27 (tmP rfl rfl) ev_c) ?_
   | refine wl_v (x_peqln Try.underlying27 (tmP rfl rfl) ev_c) ?_
  refine wl_nil ?_
  refine then_n (hK3 _ _ ?_); clear hK3 K3
  refine cnd (tm rfl) (fun hc0 => ?_) (fun hc0 => ?_)
  · exfalso
    simp at hc0
  try (exfalso; first | with_reducible exact absurd hc0 Bool.false_ne_true | with_reducible exact absurd hc0.symm Bool.false_ne_true | (simp only [nrm] at hc0; omega) | (simp at hc0; done))
  all_goals
   try simp only [nrm] at hc0
   refine wp_skip ?_
   refine then_n (hK2 _ _ ?_); clear hK2 K2
   refine wp_seq_k ?_; intro K4 hK4
   refine wp_seq_k ?_; intro K5 hK5
   refine wlit ?_
   refine wl_v (x_move (tmP rfl rfl)) ?_
   refine wl_v (x_loadA (cs := [_, _, _, _]) Try.underlying32 rfl ts_32 (tmP rfl rfl) (rangeB hS.ok 0 rfl rfl)) ?_
   refine wl_e rfl ?_; intro K hK
   refine ow_call Try.func24 rfl rfl (evs_cons (tmP rfl rfl) <| evs_cons (tmA rfl rfl) <| evs_nil) (lfindp_c tb x o c a z m (.blk g0_0 32 [.bool a.six, .int .u64 (a.high : Int), .int .u64 (a.low : Int), .int .i64 z] :: Z) F w1 _ (hS.perm ftab_in) hl hz) ?_
   rintro e w ⟨q, rfl, hq, hS⟩
   refine ⟨_, rfl, ?_⟩
   skip
   refine hK _ _ ?_; clear hK K
   refine wl_v (x_peqo Try.underlying45 (tmP rfl rfl) ev_c) ?_
   refine wl_nil ?_
   refine then_n (hK5 _ _ ?_); clear hK5 K5
   refine cnds (tm rfl) (fun hc1 => ?_) (fun hc1 => ?_)
   · exfalso
     obtain ⟨g', l', r', v', h1, h3, i', hi'⟩ := hq.some_of hc1
     rw [hno] at h3
     cases h3
   try (exfalso; first | with_reducible exact absurd hc1 Bool.false_ne_true | with_reducible exact absurd hc1.symm Bool.false_ne_true | (simp only [nrm] at hc1; omega) | (simp at hc1; done))
   all_goals
    try simp only [nrm] at hc1
    refine wp_seq_k ?_; intro K6 hK6
    refine wlit ?_
    refine wl_v (x_assign (ev_cN 6)) ?_
    refine wl_nil ?_
    refine then_n (hK6 _ _ ?_); clear hK6 K6
    refine wp_ret ?_
    refine then_r ?_
    refine ret1 rfl (.tmp rfl (show _ = Value.int _ _ from rfl)) ?_
    exact ⟨rfl, (hS.perm ftab_in.symm).tail⟩
set_option maxRecDepth 100000 in
set_option maxHeartbeats 8000000 in
theorem ldrop_yes_c (tb : Nat) (x o : TT) (c : Int) (a : Ad) (n : Nat) (Z : List Ent) (F : List Nat) (w1 w0 : World) (hS : St F w1 (ftab tb a.six x o c Z) w0) (hl : adLim a) (hr : rgtB a (n : Int) n = true) (v : Int) (hv : getS (pbit a) n 0 x.sh = some v) (hc : 0 ≤ c ∧ c ≤ 1000) :
    Calls Try.prog 10 #[.pointer (some ⟨tb, 0, none⟩), .agg (pxV a (n : Int))] w0 fun e w' => e = .returned (.int .i64 0) ∧ ∃ x', St F w1 (ftab tb a.six x' o (c - 1) Z) w' ∧ x'.sh = dropS (pbit a) n 0 x.sh := by
  have hp := ((rgtB_iff a (n : Int) n hl (by have := hr; simp [rgtB] at this; omega)).1 hr).1
  have hn : n ≤ adBits a := hp.2.2.1
  refine ent (n := 30) Try.func10 rfl rfl ?_
  refine wp_seq_k ?_; intro K1 hK1
  refine wlit ?_
  refine wl_e rfl ?_; intro K hK
  refine ow_box hS (tmA rfl rfl) rfl ?_
  clear hS; intro g0_0 w hg0_0 hS
  refine hK _ _ ?_; clear hK K
  refine wl_v (x_assign (ev_cN 0)) ?_
  refine wl_nil ?_
  refine then_n (hK1 _ _ ?_); clear hK1 K1
  refine wp_seq_k ?_; intro K2 hK2
  refine wp_seq_k ?_; intro K3 hK3
  refine wlit ?_
  refine wl_v (x_move (tmP rfl rfl)) ?_
  first
   | refine wl_v (x_peql Try.underlying27 (tmP rfl rfl) ev_c) ?_
   | refine wl_v (x_peqln Try.underlying27 (tmP rfl rfl) ev_c) ?_
  refine wl_nil ?_
  refine then_n (hK3 _ _ ?_); clear hK3 K3
  refine cnd (tm rfl) (fun hc0 => ?_) (fun hc0 => ?_)
  · exfalso
    simp at hc0
  try (exfalso; first | with_reducible exact absurd hc0 Bool.false_ne_true | with_reducible exact absurd hc0.symm Bool.false_ne_true | (simp only [nrm] at hc0; omega) | (simp at hc0; done))
  all_goals
   try simp only [nrm] at hc0
   refine wp_skip ?_
   refine then_n (hK2 _ _ ?_); clear hK2 K2
   refine wp_seq_k ?_; intro K4 hK4
   refine wp_seq_k ?_; intro K5 hK5
   refine wlit ?_
   refine wl_v (x_move (tmP rfl rfl)) ?_
   refine wl_v (x_loadA (cs := [_, _, _, _]) Try.underlying32 rfl ts_32 (tmP rfl rfl) (rangeB hS.ok 0 rfl rfl)) ?_
   refine wl_e rfl ?_; intro K hK
   refine ow_call Try.func24 rfl rfl (evs_cons (tmP rfl rfl) <| evs_cons (tmA rfl rfl) <| evs_nil) (lfindp_c tb x o c a (n : Int) n (.blk g0_0 32 [.bool a.six, .int .u64 (a.high : Int), .int .u64 (a.low : Int), .int .i64 (n : Int)] :: Z) F w1 _ (hS.perm ftab_in) hl (by omega)) ?_
   rintro e w ⟨q, rfl, hq, hS⟩
   refine ⟨_, rfl, ?_⟩
   replace hS := hS.perm ftab_in.symm
   refine hK _ _ ?_; clear hK K
   refine wl_v (x_peqo Try.underlying45 (tmP rfl rfl) ev_c) ?_
   refine wl_nil ?_
   refine then_n (hK5 _ _ ?_); clear hK5 K5
   refine cnd (tm rfl) (fun hc1 => ?_) (fun hc1 => ?_)
   · exfalso
     have := hq.none_of hc1
     rw [lookS, if_pos hr, hv] at this
     cases this
   try (exfalso; first | with_reducible exact absurd hc1 Bool.false_ne_true | with_reducible exact absurd hc1.symm Bool.false_ne_true | (simp only [nrm] at hc1; omega) | (simp at hc1; done))
   all_goals
    try simp only [nrm] at hc1
    refine wp_skip ?_
    refine then_n (hK4 _ _ ?_); clear hK4 K4
    refine wp_seq_k ?_; intro K6 hK6
    refine wlit ?_
    refine wl_v (x_move (tmP rfl rfl)) ?_
    refine wl_v (x_fa 0 Try.underlying32 rfl rfl ts_25 (tmP rfl rfl)) ?_
    refine wl_v (x_loadA (cs := [_, _, _]) Try.underlying25 rfl ts_25 (tmP rfl rfl) (rangeB hS.ok 0 rfl rfl)) ?_
    refine wl_e rfl ?_; intro K hK
    refine ow_call Try.func18 rfl rfl (evs_cons (tmP rfl rfl) <| evs_cons (tmA rfl rfl) <| evs_nil) (root_c tb a _) ?_
    rintro e w ⟨rfl, hk⟩
    refine ⟨_, rfl, ?_⟩
    replace hS := hS.kept hk
    clear hk
    refine hK _ _ ?_; clear hK K
    refine wl_v (x_assign (tmP rfl rfl)) ?_
    refine wl_nil ?_
    refine then_n (hK6 _ _ ?_); clear hK6 K6
    refine wp_seq_k ?_; intro K7 hK7
    replace hS := hS.perm (List.Perm.swap _ _ _)
    refine rg_start (M0 := [.blk g0_0 32 [.bool a.six, .int .u64 (a.high : Int), .int .u64 (a.low : Int), .int .i64 (n : Int)]]) hS mixed_ ?_
    clear hS; intro w hS
    refine rg_take 0 rfl rfl (by kernel_rfl) (by kernel_rfl) (by kernel_rfl) (want_0) (fun w hok => x_move (tmP rfl rfl)) ?_
    refine rg_take 1 rfl rfl (by kernel_rfl) (by kernel_rfl) (by kernel_rfl) (want_0) (fun w hok => x_move (tmP rfl rfl)) ?_
    refine rg_take 2 rfl rfl (by kernel_rfl) (by kernel_rfl) (by kernel_rfl) (want_0) (fun w hok => x_nil (A := none) (tmP rfl rfl)) ?_
    refine rg_take 4 rfl rfl (by kernel_rfl) (by kernel_rfl) (by kernel_rfl) (want_0) (fun w hok => x_loadA (cs := [.bool a.six, .int .u64 (a.high : Int), .int .u64 (a.low : Int), .int .i64 (n : Int)]) Try.underlying32 rfl rfl (tmP rfl rfl) (rangeB (l := [.bool a.six, .int .u64 (a.high : Int), .int .u64 (a.low : Int), .int .i64 (n : Int)]) hok 0 rfl rfl)) ?_
    refine rg_step 3 rfl (by kernel_rfl) (want_0) (fun e he => hS.ok e (List.mem_cons_of_mem _ (by rw [List.mem_singleton.1 he]; exact List.mem_cons_self ..))) ?_; intro K hK
    refine ow_v (x_load (v := .pointer x.p) Try.underlying45 rfl (tmP rfl rfl) (cellB (t := 47) (l := tabV a.six x o c) hS.ok 0 rfl (by cases a.six <;> rfl))) ?_
    refine hK _ _ ?_; clear hK K
    refine rg_step 5 rfl (by kernel_rfl) (want_0) (fun e he => hS.ok e (List.mem_cons_of_mem _ (by rw [List.mem_singleton.1 he]; exact List.mem_cons_self ..))) ?_; intro K hK
    refine ow_call Try.func25 rfl rfl (evs_cons (tmP rfl rfl) <| evs_cons (tmA rfl rfl) <| evs_cons (ev_cN 0) <| evs_nil) (lwithout_c a n hl hn n 0 x _ F w1 _ (hS.perm permIn) (by omega) (get_at _ _ _ hv)) ?_
    rintro e w ⟨y, rfl, hy, hS⟩
    refine ⟨_, rfl, ?_⟩
    replace hS := hS.perm permIn.symm
    refine hK _ _ ?_; clear hK K
    refine rg_take 6 rfl rfl (by kernel_rfl) (by kernel_rfl) (by kernel_rfl) (want_0) (fun w hok => x_nil (A := none) (tmP rfl rfl)) ?_
    refine rg_step 7 rfl (by kernel_rfl) (want_0) (fun e he => hS.ok e (List.mem_cons_of_mem _ (by rw [List.mem_singleton.1 he]; exact List.mem_cons_self ..))) ?_; intro K hK
    refine ow_storeX hS 0 rfl ts_55 (tmP rfl rfl) (tmP rfl rfl) rfl (by cases a.six <;> (show _ < 3; decide)) ?_
    clear hS; intro w hS
    refine hK _ _ ?_; clear hK K
    refine rg_done (fun e he => hS.ok e (List.mem_cons_of_mem _ (by rw [List.mem_singleton.1 he]; exact List.mem_cons_self ..))) (by kernel_rfl) ?_
    replace hS := hS.nm (M' := .blk tb 47 (tabV a.six y o c) :: .blk g0_0 32 [.bool a.six, .int .u64 (a.high : Int), .int .u64 (a.low : Int), .int .i64 (n : Int)] :: (y.es ++ (o.es ++ Z))) (by cases a.six <;> rfl)
    refine then_n (hK7 _ _ ?_); clear hK7 K7
    refine wp_seq_k ?_; intro K8 hK8
    refine wlit ?_
    refine wl_v (x_move (tmP rfl rfl)) ?_
    refine wl_v (x_nil (A := none) (tmP rfl rfl)) ?_
    refine wl_v (x_fa 2 Try.underlying47 rfl rfl ts_3 (tmP rfl rfl)) ?_
    refine wl_v (x_load Try.underlying3 rfl (tmP rfl rfl) (cellB hS.ok 0 rfl rfl)) ?_
    first
     | refine wl_v (x_subN (tmI rfl rfl) (ev_cN 1) (fit_i64 (by omega)) (by omega)) ?_
     | refine wl_v (x_subI (tmI rfl rfl) (ev_cN 1) (IntWalk.i64_in _ (by omega))) ?_
     | refine wl_v (x_sub (tmI rfl rfl) (ev_cN 1)) ?_
    refine wl_v (x_nil (A := none) (tmP rfl rfl)) ?_
    refine wl_v (x_fa 2 Try.underlying47 rfl rfl ts_3 (tmP rfl rfl)) ?_
    refine wl_e rfl ?_; intro K hK
    first
     | refine ow_store hS 0 rfl ts_3 (tmP rfl rfl) (tmI rfl rfl) rfl rfl ?_
     | refine ow_storeX hS 0 rfl ts_3 (tmP rfl rfl) (tmI rfl rfl) rfl (by simp; omega) ?_
     | refine ow_storeRs hS 0 rfl ts_3 (tmP rfl rfl) (tmI rfl rfl) rfl (by first | omega | (simp; omega)) ?_
     | refine ow_storeR hS 0 rfl ts_3 (tmP rfl rfl) (tmI rfl rfl) rfl (by first | omega | (simp; omega)) ?_
     | refine ow_store hS 1 rfl ts_3 (tmP rfl rfl) (tmI rfl rfl) rfl rfl ?_
     | refine ow_storeX hS 1 rfl ts_3 (tmP rfl rfl) (tmI rfl rfl) rfl (by simp; omega) ?_
     | refine ow_storeRs hS 1 rfl ts_3 (tmP rfl rfl) (tmI rfl rfl) rfl (by first | omega | (simp; omega)) ?_
     | refine ow_storeR hS 1 rfl ts_3 (tmP rfl rfl) (tmI rfl rfl) rfl (by first | omega | (simp; omega)) ?_
    clear hS; intro w hS
    refine hK _ _ ?_; clear hK K
    refine wl_nil ?_
    refine then_n (hK8 _ _ ?_); clear hK8 K8
    refine wp_seq_k ?_; intro K9 hK9
    refine wlit ?_
    refine wl_v (x_assign (ev_cN 0)) ?_
    refine wl_nil ?_
    refine then_n (hK9 _ _ ?_); clear hK9 K9
    refine wp_ret ?_
    refine ret1 rfl (.tmp rfl (show _ = Value.int _ _ from rfl)) ?_
    exact ⟨rfl, y, (hS.perm (List.Perm.swap _ _ _)).tail, hy⟩
/-- An entry of the reference. -/
structure En where
  a : Ad
  len : Int
  val : Int
def enV (x : En) : List Value := [.bool x.a.six, .int .u64 (x.a.high : Int), .int .u64 (x.a.low : Int), .int .i64 x.len, .int .i64 x.val]
theorem enV_len (x : En) : (enV x).length = 5 := rfl
instance : Inhabited En := ⟨⟨⟨false, 0, 0⟩, 0, 0⟩⟩
set_option maxRecDepth 100000 in
set_option maxHeartbeats 4000000 in
theorem lto_c (x : En) (w0 : World) : Calls Try.prog 9 #[.agg (enV x).toArray] w0 fun e w' => e = .returned (.agg (pxV x.a x.len)) ∧ Kp [] w0 w' := by
  obtain ⟨⟨six, high, low⟩, len, val⟩ := x
  have hS := St.sv w0
  refine ent (n := 8) Try.func9 rfl rfl ?_
  refine wp_seq_k ?_; intro K1 hK1
  refine wlit ?_
  refine wl_e rfl ?_; intro K hK
  refine ow_box hS (tmA rfl rfl) rfl ?_
  clear hS; intro g0_0 w hg0_0 hS
  refine hK _ _ ?_; clear hK K
  refine wl_e rfl ?_; intro K hK
  refine ow_alloc hS tz_32 rfl ?_
  clear hS; intro g0_1 w hg0_1 hS
  refine hK _ _ ?_; clear hK K
  refine wl_nil ?_
  refine then_n (hK1 _ _ ?_); clear hK1 K1
  refine wp_seq_k ?_; intro K2 hK2
  refine wlit ?_
  refine wl_v (x_fa 0 Try.underlying37 rfl rfl ts_25 (tmP rfl rfl)) ?_
  refine wl_v (x_loadA (cs := [_, _, _]) Try.underlying25 rfl ts_25 (tmP rfl rfl) (rangeB hS.ok 1 rfl rfl)) ?_
  refine wl_v (x_fa 3 Try.underlying37 rfl rfl ts_3 (tmP rfl rfl)) ?_
  first
   | refine wl_v (x_load Try.underlying3 rfl (tmP rfl rfl) (cellB hS.ok 1 rfl rfl)) ?_
   | refine wl_v (x_load Try.underlying3 rfl (tmP rfl rfl) (cellB hS.ok 1 rfl (getm (by omega)))) ?_
  refine wl_v (x_build (bc_takeL (tmA rfl rfl) <| bc_take (tmI rfl rfl) <| bc_nil) (by kernel_rfl)) ?_
  refine wl_e rfl ?_; intro K hK
  refine ow_storeA hS 0 rfl ts_32 (tmP rfl rfl) (tmA rfl rfl) rfl rfl rfl ?_
  clear hS; intro w hS
  try replace hS := St.nm (M' := [.blk _ _ [_, _, _, _], .blk _ _ [_, _, _, _, _], _]) hS rfl
  refine hK _ _ ?_; clear hK K
  refine wl_nil ?_
  refine then_n (hK2 _ _ ?_); clear hK2 K2
  refine wp_ret ?_
  refine ret1 rfl (.cell rfl rfl (load_rowB (cs := [_, _, _, _]) hS.ok 0 rfl Try.underlying32 rfl ts_32 rfl)) ?_
  exact ⟨rfl, hS.kp⟩
end Go.Proofs.Ytlpgedncnefaoaa
