
/- How members take slots, by contract, both sides. Conditions: none but bounds. -/
import Derived.Test.YtofkhhklkcdggaaMagP
import Derived.Test.YtofkhhklkcdggaaSipN
import Derived.Test.YtofkhhklkcdggaaJoin
namespace Go.Proofs.Ytofkhhklkcdggaa
open Go.RowKit
def fstN (k : Nat → Nat) (m n : Nat) : Nat := sipF k ([6] ++ be m 4) % n
def stpN (k : Nat → Nat) (m n : Nat) : Nat := sipF k ([7] ++ be m 4) % (n - 1) + 1
theorem stp_bd {k : Nat → Nat} {m n : Nat} (h : 2 ≤ n) : 1 ≤ stpN k m n ∧ stpN k m n < n := by
  have := Nat.mod_lt (sipF k ([7] ++ be m 4)) (show n - 1 > 0 by omega)
  unfold stpN
  omega
theorem fst_bd {k : Nat → Nat} {m n : Nat} (h : 2 ≤ n) : fstN k m n < n := Nat.mod_lt _ (by omega)
theorem use_bytes {u : Nat} (h : u < 256) (m : Nat) : Bytes ([u] ++ be m 4) := Bytes.append (fun x hx => by rw [List.mem_singleton.1 hx]; exact h) (be_bytes _ _)
set_option maxRecDepth 100000 in
set_option maxHeartbeats 4000000 in
theorem draw_c (k : Nat → Nat) (u m n x : Nat) (w0 : World) (hkb : Bytes (kL k)) (hu : u < 256) (hm : m ≤ 64) (hn : 1 ≤ n) (hn4 : n ≤ 1000000) (hx : sipF k ([u] ++ be m 4) = x) :
    Calls Try.prog 23 #[.agg (kC k).toArray, .int .u8 (u : Int), .int .i64 (m : Int), .int .i64 (n : Int)] w0 fun e w' => e = .returned (.int .i64 ((x % n : Nat) : Int)) ∧ Kp [] w0 w' := by
  have hS := St.sv w0
  have hsl := sipF_lt k ([u] ++ be m 4)
  have hsum := fun w A hv => sum_c k A (1 + 4) (1 + 4) ([u] ++ be m 4) w hkb hv (by simp [be_length]) (use_bytes hu m) (by omega) (by omega)
  rw [hx] at hsl hsum
  clear hx
  have hml := Nat.mod_lt x (show n > 0 by omega)
  refine ent (n := 20) Try.func23 rfl rfl ?_
  refine wp_seq_k ?_; intro K1 hK1
  refine wlit ?_
  refine wl_e rfl ?_; intro K hK
  refine ow_box hS (tmA rfl rfl) rfl ?_
  clear hS; intro g0_0 w hg0_0 hS
  refine hK _ _ ?_; clear hK K
  refine wl_v (x_assign (ev_cN 0)) ?_
  refine wl_nil ?_
  refine then_n (hK1 _ _ ?_); clear hK1 K1
  refine wp_seq_k ?_; intro K2 hK2
  refine rg_startk 0 hS mixed_ ?_
  clear hS; intro w hS
  refine rg_take 0 rfl rfl (by kernel_rfl) (by kernel_rfl) (by kernel_rfl) (want_0) (fun w hok => x_loadA (cs := [_, _, _, _, _, _, _, _, _, _, _, _, _, _, _, _]) Try.underlying41 rfl ts_41 (tmP rfl rfl) (rangeB hok 0 rfl rfl)) ?_
  refine rg_take 1 rfl rfl (by kernel_rfl) (by kernel_rfl) (by kernel_rfl) (want_0) (fun w hok => x_move (tmI rfl rfl)) ?_
  refine rg_take 3 rfl rfl (by kernel_rfl) (by kernel_rfl) (by kernel_rfl) (want_0) (fun w hok => x_move (tmI rfl rfl)) ?_
  first
   | refine rg_take 4 rfl rfl (by kernel_rfl) (by kernel_rfl) (by kernel_rfl) (want_0) (fun w hok => x_convN Try.underlying3 Try.underlying36 (tmI rfl rfl) (fit_u64 (by omega))) ?_
   | refine rg_take 4 rfl rfl (by kernel_rfl) (by kernel_rfl) (by kernel_rfl) (want_0) (fun w hok => x_convU Try.underlying3 Try.underlying36 (tmI rfl rfl) rfl) ?_
   | refine rg_take 4 rfl rfl (by kernel_rfl) (by kernel_rfl) (by kernel_rfl) (want_0) (fun w hok => x_conv Try.underlying3 Try.underlying36 (tmI rfl rfl)) ?_
  refine rg_take 7 rfl rfl (by kernel_rfl) (by kernel_rfl) (by kernel_rfl) (want_0) (fun w hok => x_move (tmI rfl rfl)) ?_
  first
   | refine rg_take 8 rfl rfl (by kernel_rfl) (by kernel_rfl) (by kernel_rfl) (want_0) (fun w hok => x_convN Try.underlying3 Try.underlying36 (tmI rfl rfl) (fit_u64 (by omega))) ?_
   | refine rg_take 8 rfl rfl (by kernel_rfl) (by kernel_rfl) (by kernel_rfl) (want_0) (fun w hok => x_convU Try.underlying3 Try.underlying36 (tmI rfl rfl) rfl) ?_
   | refine rg_take 8 rfl rfl (by kernel_rfl) (by kernel_rfl) (by kernel_rfl) (want_0) (fun w hok => x_conv Try.underlying3 Try.underlying36 (tmI rfl rfl)) ?_
  refine rg_step 2 rfl (by kernel_rfl) (want_0) (oks_drop hS 0 rfl) ?_; intro K hK
  refine ow_build hS Try.underlying24 tz_5 (bc_take (tmI rfl rfl) <| bc_nil) rfl rfl (by kernel_rfl) ?_
  clear hS; intro g1_2 w hg1_2 hS
  refine hK _ _ ?_; clear hK K
  refine rg_step 5 rfl (by kernel_rfl) (want_0) (oks_drop hS 1 rfl) ?_; intro K hK
  refine ow_call Try.func30 rfl rfl (evs_cons (tmS rfl rfl) <| evs_cons (tmI rfl rfl) <| evs_cons (ev_cN 4) <| evs_nil) (put_c 1 (some ⟨g1_2, 0, none⟩) 1 [u] m 4 _ (viewB hS.ok 0 rfl) rfl (by omega) (by omega) (by omega)) ?_
  rintro e w ⟨gp, rfl, hn1, hk⟩
  refine ⟨_, rfl, ?_⟩
  replace hS := hS.add hk hn1 -- +rowp
  clear hn1 hk
  refine hK _ _ ?_; clear hK K
  refine rg_step 6 rfl (by kernel_rfl) (want_0) (oks_drop hS 2 rfl) ?_; intro K hK
  refine ow_call Try.func19 rfl rfl (evs_cons (tmA rfl rfl) <| evs_cons (tmS rfl rfl) <| evs_nil) (hsum _ (some ⟨gp, 0, none⟩) (viewR hS.ok 0 rfl)) ?_
  rintro e w ⟨rfl, hk⟩
  refine ⟨_, rfl, ?_⟩
  replace hS := hS.kept hk
  clear hk
  refine hK _ _ ?_; clear hK K
  first
   | refine rg_take 9 rfl rfl (by kernel_rfl) (by kernel_rfl) (by kernel_rfl) (want_0) (fun w hok => x_remN (tmI rfl rfl) (tmI rfl rfl) (by omega)) ?_
   | refine rg_take 9 rfl rfl (by kernel_rfl) (by kernel_rfl) (by kernel_rfl) (want_0) (fun w hok => x_rem (tmI rfl rfl) (tmI rfl rfl) (by omega)) ?_
  first
   | refine rg_take 10 rfl rfl (by kernel_rfl) (by kernel_rfl) (by kernel_rfl) (want_0) (fun w hok => x_convN Try.underlying36 Try.underlying3 (tmI rfl rfl) (fit_i64 (by omega))) ?_
   | refine rg_take 10 rfl rfl (by kernel_rfl) (by kernel_rfl) (by kernel_rfl) (want_0) (fun w hok => x_conv Try.underlying36 Try.underlying3 (tmI rfl rfl)) ?_
  refine rg_take 11 rfl rfl (by kernel_rfl) (by kernel_rfl) (by kernel_rfl) (want_0) (fun w hok => x_assign (tmI rfl rfl)) ?_
  refine rg_done (oks_drop hS 2 rfl) (by kernel_rfl) ?_
  refine then_n (hK2 _ _ ?_); clear hK2 K2
  refine wp_ret ?_
  refine ret1 rfl (.tmp rfl (show _ = Value.int _ _ from rfl)) ?_
  exact ⟨rfl, hS.kp⟩
set_option maxRecDepth 100000 in
set_option maxHeartbeats 4000000 in
theorem mof_x (k : Nat → Nat) (m n x y : Nat) (w0 : World) (hkb : Bytes (kL k)) (hm : m ≤ 64) (hn : 2 ≤ n) (hn4 : n ≤ 1000000) (hx : sipF k ([6] ++ be m 4) = x) (hy : sipF k ([7] ++ be m 4) = y) :
    Calls Try.prog 16 #[.agg (kC k).toArray, .int .i64 (m : Int), .int .i64 (n : Int)] w0 fun e w' => e = .returned (.agg #[.int .i64 ((x % n : Nat) : Int), .int .i64 ((y % (n - 1) + 1 : Nat) : Int)]) ∧ Kp [] w0 w' := by
  have hS := St.sv w0
  have hm2 := Nat.mod_lt y (show n - 1 > 0 by omega)
  have hd6 := fun w => draw_c k 6 m n x w hkb (by omega) hm (by omega) (by omega) hx
  have hd7 := fun w => draw_c k 7 m (n - 1) y w hkb (by omega) hm (by omega) (by omega) hy
  clear hx hy
  refine ent (n := 21) Try.func16 rfl rfl ?_
  refine wp_seq_k ?_; intro K1 hK1
  refine wlit ?_
  refine wl_e rfl ?_; intro K hK
  refine ow_box hS (tmA rfl rfl) rfl ?_
  clear hS; intro g0_0 w hg0_0 hS
  refine hK _ _ ?_; clear hK K
  refine wl_e rfl ?_; intro K hK
  refine ow_alloc hS tz_45 rfl ?_
  clear hS; intro g0_1 w hg0_1 hS
  refine hK _ _ ?_; clear hK K
  refine wl_nil ?_
  refine then_n (hK1 _ _ ?_); clear hK1 K1
  refine wp_seq_k ?_; intro K2 hK2
  refine wp_seq_k ?_; intro K3 hK3
  refine wlit ?_
  refine wl_v (x_move (tmI rfl rfl)) ?_
  refine wl_v (x_lss (tmI rfl rfl) (ev_cN 2)) ?_
  refine wl_nil ?_
  refine then_n (hK3 _ _ ?_); clear hK3 K3
  refine cnd (tm rfl) (fun hc0 => ?_) (fun hc0 => ?_)
  · exfalso
    simp at hc0
    omega
  try (exfalso; first | with_reducible exact absurd hc0 Bool.false_ne_true | with_reducible exact absurd hc0.symm Bool.false_ne_true | (simp only [nrm] at hc0; omega) | (simp at hc0; done))
  all_goals
   try simp only [nrm] at hc0
   refine wp_skip ?_
   refine then_n (hK2 _ _ ?_); clear hK2 K2
   refine wp_seq_k ?_; intro K4 hK4
   refine rg_startk 1 hS mixed_ ?_
   clear hS; intro w hS
   refine rg_take 0 rfl rfl (by kernel_rfl) (by kernel_rfl) (by kernel_rfl) (want_0) (fun w hok => x_loadA (cs := [_, _, _, _, _, _, _, _, _, _, _, _, _, _, _, _]) Try.underlying41 rfl ts_41 (tmP rfl rfl) (rangeB hok 0 rfl rfl)) ?_
   refine rg_take 1 rfl rfl (by kernel_rfl) (by kernel_rfl) (by kernel_rfl) (want_0) (fun w hok => x_move (tmI rfl rfl)) ?_
   refine rg_take 2 rfl rfl (by kernel_rfl) (by kernel_rfl) (by kernel_rfl) (want_0) (fun w hok => x_move (tmI rfl rfl)) ?_
   refine rg_take 4 rfl rfl (by kernel_rfl) (by kernel_rfl) (by kernel_rfl) (want_0) (fun w hok => x_loadA (cs := [_, _, _, _, _, _, _, _, _, _, _, _, _, _, _, _]) Try.underlying41 rfl ts_41 (tmP rfl rfl) (rangeB hok 0 rfl rfl)) ?_
   refine rg_take 5 rfl rfl (by kernel_rfl) (by kernel_rfl) (by kernel_rfl) (want_0) (fun w hok => x_move (tmI rfl rfl)) ?_
   refine rg_take 6 rfl rfl (by kernel_rfl) (by kernel_rfl) (by kernel_rfl) (want_0) (fun w hok => x_move (tmI rfl rfl)) ?_
   first
    | refine rg_take 7 rfl rfl (by kernel_rfl) (by kernel_rfl) (by kernel_rfl) (want_0) (fun w hok => x_subN (tmI rfl rfl) (ev_cN 1) (fit_i64 (by omega)) (by omega)) ?_
    | refine rg_take 7 rfl rfl (by kernel_rfl) (by kernel_rfl) (by kernel_rfl) (want_0) (fun w hok => x_subI (tmI rfl rfl) (ev_cN 1) (IntWalk.i64_in _ (by omega))) ?_
    | refine rg_take 7 rfl rfl (by kernel_rfl) (by kernel_rfl) (by kernel_rfl) (want_0) (fun w hok => x_sub (tmI rfl rfl) (ev_cN 1)) ?_
   refine rg_step 3 rfl (by kernel_rfl) (want_0) (oks_drop hS 1 rfl) ?_; intro K hK
   refine ow_call Try.func23 rfl rfl (evs_cons (tmA rfl rfl) <| evs_cons (ev_cN 6) <| evs_cons (tmI rfl rfl) <| evs_cons (tmI rfl rfl) <| evs_nil) (hd6 _) ?_
   rintro e w ⟨rfl, hk⟩
   refine ⟨_, rfl, ?_⟩
   replace hS := hS.kept hk
   clear hk
   refine hK _ _ ?_; clear hK K
   refine rg_step 8 rfl (by kernel_rfl) (want_0) (oks_drop hS 1 rfl) ?_; intro K hK
   refine ow_call Try.func23 rfl rfl (evs_cons (tmA rfl rfl) <| evs_cons (ev_cN 7) <| evs_cons (tmI rfl rfl) <| evs_cons (tmI rfl rfl) <| evs_nil) (hd7 _) ?_
   rintro e w ⟨rfl, hk⟩
   refine ⟨_, rfl, ?_⟩
   replace hS := hS.kept hk
   clear hk
   refine hK _ _ ?_; clear hK K
   first
    | refine rg_take 9 rfl rfl (by kernel_rfl) (by kernel_rfl) (by kernel_rfl) (want_0) (fun w hok => x_addN (tmI rfl rfl) (ev_cN 1) (fit_i64 (by omega))) ?_
    | refine rg_take 9 rfl rfl (by kernel_rfl) (by kernel_rfl) (by kernel_rfl) (want_0) (fun w hok => x_addI (tmI rfl rfl) (ev_cN 1) (IntWalk.i64_in _ (by omega))) ?_
    | refine rg_take 9 rfl rfl (by kernel_rfl) (by kernel_rfl) (by kernel_rfl) (want_0) (fun w hok => x_add (tmI rfl rfl) (ev_cN 1)) ?_
   refine rg_take 10 rfl rfl (by kernel_rfl) (by kernel_rfl) (by kernel_rfl) (want_0) (fun w hok => x_build (bc_take (tmI rfl rfl) <| bc_take (tmI rfl rfl) <| bc_nil) (by kernel_rfl)) ?_
   refine rg_step 11 rfl (by kernel_rfl) (want_0) (oks_drop hS 1 rfl) ?_; intro K hK
   refine ow_storeA hS 0 rfl ts_45 (tmP rfl rfl) (tmA rfl rfl) rfl rfl rfl ?_
   clear hS; intro w hS
   refine hK _ _ ?_; clear hK K
   refine rg_done (oks_drop hS 1 rfl) (by kernel_rfl) ?_
   refine then_n (hK4 _ _ ?_); clear hK4 K4
   refine wp_ret ?_
   refine ret1 rfl (.cell rfl rfl (load_rowB (cs := [_, _]) hS.ok 0 rfl Try.underlying45 rfl ts_45 rfl)) ?_
   exact ⟨rfl, hS.kp⟩
theorem mof_c (k : Nat → Nat) (m n f s : Nat) (w0 : World) (hkb : Bytes (kL k)) (hm : m ≤ 64) (hn : 2 ≤ n) (hn4 : n ≤ 1000000) (hf : fstN k m n = f) (hs : stpN k m n = s) :
    Calls Try.prog 16 #[.agg (kC k).toArray, .int .i64 (m : Int), .int .i64 (n : Int)] w0 fun e w' => e = .returned (.agg #[.int .i64 (f : Int), .int .i64 (s : Int)]) ∧ Kp [] w0 w' := by
  have h := mof_x k m n _ _ w0 hkb hm hn hn4 rfl rfl
  unfold fstN at hf
  unfold stpN at hs
  rw [hf, hs] at h
  exact h
set_option maxRecDepth 100000 in
set_option maxHeartbeats 4000000 in
theorem mat_c (f s n i : Nat) (w0 : World) (hn : 1 ≤ n) (hb : f + i * s ≤ 1000000000000) (hi : i ≤ 1000000) (hs : s ≤ 1000000) (hf : f ≤ 1000000) (hn4 : n ≤ 1000000) :
    Calls Try.prog 17 #[.agg #[.int .i64 (f : Int), .int .i64 (s : Int)], .int .i64 (i : Int), .int .i64 (n : Int)] w0 fun e w' => e = .returned (.int .i64 (atN f s n i : Int)) ∧ Kp [] w0 w' := by
  have hS := St.sv w0
  refine ent (n := 18) Try.func17 rfl rfl ?_
  refine wp_seq_k ?_; intro K1 hK1
  refine wlit ?_
  refine wl_e rfl ?_; intro K hK
  refine ow_box hS (tmA rfl rfl) rfl ?_
  clear hS; intro g0_0 w hg0_0 hS
  refine hK _ _ ?_; clear hK K
  refine wl_v (x_assign (ev_cN 0)) ?_
  refine wl_nil ?_
  refine then_n (hK1 _ _ ?_); clear hK1 K1
  refine wp_seq_k ?_; intro K2 hK2
  refine wp_seq_k ?_; intro K3 hK3
  refine wlit ?_
  refine wl_v (x_move (tmI rfl rfl)) ?_
  refine wl_v (x_lss (tmI rfl rfl) (ev_cN 1)) ?_
  refine wl_nil ?_
  refine then_n (hK3 _ _ ?_); clear hK3 K3
  refine cnd (tm rfl) (fun hc0 => ?_) (fun hc0 => ?_)
  · exfalso
    simp at hc0
    omega
  try (exfalso; first | with_reducible exact absurd hc0 Bool.false_ne_true | with_reducible exact absurd hc0.symm Bool.false_ne_true | (simp only [nrm] at hc0; omega) | (simp at hc0; done))
  all_goals
   try simp only [nrm] at hc0
   refine wp_skip ?_
   refine then_n (hK2 _ _ ?_); clear hK2 K2
   refine wp_seq_k ?_; intro K4 hK4
   refine wlit ?_
   refine wl_v (x_fa 0 Try.underlying45 rfl rfl ts_3 (tmP rfl rfl)) ?_
   first
    | refine wl_v (x_load Try.underlying3 rfl (tmP rfl rfl) (cellB hS.ok 0 rfl rfl)) ?_
    | refine wl_v (x_load Try.underlying3 rfl (tmP rfl rfl) (cellB hS.ok 0 rfl (getm (by omega)))) ?_
   refine wl_v (x_move (tmI rfl rfl)) ?_
   refine wl_v (x_fa 1 Try.underlying45 rfl rfl ts_3 (tmP rfl rfl)) ?_
   first
    | refine wl_v (x_load Try.underlying3 rfl (tmP rfl rfl) (cellB hS.ok 0 rfl rfl)) ?_
    | refine wl_v (x_load Try.underlying3 rfl (tmP rfl rfl) (cellB hS.ok 0 rfl (getm (by omega)))) ?_
   first
    | refine wl_v (x_mulN (tmI rfl rfl) (tmI rfl rfl) (fit_i64 (by omega))) ?_
    | refine wl_v (x_mulI (tmI rfl rfl) (tmI rfl rfl) (IntWalk.i64_in _ (by omega))) ?_
    | refine wl_v (x_mul (tmI rfl rfl) (tmI rfl rfl)) ?_
   first
    | refine wl_v (x_addN (tmI rfl rfl) (tmI rfl rfl) (fit_i64 (by omega))) ?_
    | refine wl_v (x_addI (tmI rfl rfl) (tmI rfl rfl) (IntWalk.i64_in _ (by omega))) ?_
    | refine wl_v (x_add (tmI rfl rfl) (tmI rfl rfl)) ?_
   refine wl_v (x_move (tmI rfl rfl)) ?_
   first
    | refine wl_v (x_remN (tmI rfl rfl) (tmI rfl rfl) (by omega)) ?_
    | refine wl_v (x_rem (tmI rfl rfl) (tmI rfl rfl) (by omega)) ?_
   refine wl_v (x_assign (tmI rfl rfl)) ?_
   refine wl_nil ?_
   refine then_n (hK4 _ _ ?_); clear hK4 K4
   refine wp_ret ?_
   refine ret1 rfl (.tmp rfl (show _ = Value.int _ _ from rfl)) ?_
   exact ⟨rfl, hS.kp⟩
set_option maxRecDepth 100000 in
set_option maxHeartbeats 4000000 in
theorem rmof_x (k : Nat → Nat) (m n x y : Nat) (w0 : World) (hkb : Bytes (kL k)) (hm : m ≤ 64) (hn : 2 ≤ n) (hn4 : n ≤ 1000000) (hx : sipF k ([6] ++ be m 4) = x) (hy : sipF k ([7] ++ be m 4) = y) :
    Calls Try.prog 20 #[.agg (kC k).toArray, .int .i64 (m : Int), .int .i64 (n : Int)] w0 fun e w' => e = .returned (.tuple #[.int .i64 ((x % n : Nat) : Int), .int .i64 ((y % (n - 1) + 1 : Nat) : Int)]) ∧ Kp [] w0 w' := by
  have hS := St.sv w0
  have hm2 := Nat.mod_lt y (show n - 1 > 0 by omega)
  have hm3 := Nat.mod_lt x (show n > 0 by omega)
  have hs6 := sipF_lt k ([6] ++ be m 4)
  have hs7 := sipF_lt k ([7] ++ be m 4)
  have hd6 := fun w A c (h : 5 ≤ c) (hA : A = none → c = 0) hv => rsum_c k A (1 + 4) c ([6] ++ be m 4) w hkb hv (by simp [be_length]) (use_bytes (by omega) m) (by omega) (by omega) hA
  have hd7 := fun w A c (h : 5 ≤ c) (hA : A = none → c = 0) hv => rsum_c k A (1 + 4) c ([7] ++ be m 4) w hkb hv (by simp [be_length]) (use_bytes (by omega) m) (by omega) (by omega) hA
  rw [hx] at hs6 hd6
  rw [hy] at hs7 hd7
  clear hx hy
  refine ent (n := 36) Try.func20 rfl rfl ?_
  refine wp_seq_k ?_; intro K1 hK1
  refine wlit ?_
  refine wl_e rfl ?_; intro K hK
  refine ow_box hS (tmA rfl rfl) rfl ?_
  clear hS; intro g0_0 w hg0_0 hS
  refine hK _ _ ?_; clear hK K
  refine wl_v (x_assign (ev_cN 0)) ?_
  refine wl_v (x_assign (ev_cN 0)) ?_
  refine wl_nil ?_
  refine then_n (hK1 _ _ ?_); clear hK1 K1
  refine wp_seq_k ?_; intro K2 hK2
  refine wlit ?_
  refine wl_v (x_move (tmI rfl rfl)) ?_
  first
   | refine wl_v (x_convN Try.underlying3 Try.underlying36 (tmI rfl rfl) (fit_u64 (by omega))) ?_
   | refine wl_v (x_convU Try.underlying3 Try.underlying36 (tmI rfl rfl) rfl) ?_
   | refine wl_v (x_conv Try.underlying3 Try.underlying36 (tmI rfl rfl)) ?_
  refine wl_e rfl ?_; intro K hK
  refine ow_call Try.func28 rfl rfl (evs_cons (tmI rfl rfl) <| evs_cons (ev_cN 4) <| evs_nil) (rbytes_c m 4 _ (by omega) (by omega)) ?_
  rintro e w ⟨gb, rfl, hn1, hk⟩
  refine ⟨_, rfl, ?_⟩
  replace hS := hS.add hk hn1 -- +rowb
  clear hn1 hk
  refine hK _ _ ?_; clear hK K
  refine wl_v (x_assign (tmS rfl rfl)) ?_
  refine wl_nil ?_
  refine then_n (hK2 _ _ ?_); clear hK2 K2
  refine wp_seq_k ?_; intro K3 hK3
  refine rg_startk 0 hS mixed_ ?_
  clear hS; intro w hS
  refine rg_take 0 rfl rfl (by kernel_rfl) (by kernel_rfl) (by kernel_rfl) (want_0) (fun w hok => x_loadA (cs := [_, _, _, _, _, _, _, _, _, _, _, _, _, _, _, _]) Try.underlying22 rfl ts_22 (tmP rfl rfl) (rangeB hok 1 rfl rfl)) ?_
  refine rg_take 2 rfl rfl (by kernel_rfl) (by kernel_rfl) (by kernel_rfl) (want_0) (fun w hok => x_move (tmS rfl rfl)) ?_
  refine rg_take 5 rfl rfl (by kernel_rfl) (by kernel_rfl) (by kernel_rfl) (want_0) (fun w hok => x_move (tmI rfl rfl)) ?_
  first
   | refine rg_take 6 rfl rfl (by kernel_rfl) (by kernel_rfl) (by kernel_rfl) (want_0) (fun w hok => x_convN Try.underlying3 Try.underlying36 (tmI rfl rfl) (fit_u64 (by omega))) ?_
   | refine rg_take 6 rfl rfl (by kernel_rfl) (by kernel_rfl) (by kernel_rfl) (want_0) (fun w hok => x_convU Try.underlying3 Try.underlying36 (tmI rfl rfl) rfl) ?_
   | refine rg_take 6 rfl rfl (by kernel_rfl) (by kernel_rfl) (by kernel_rfl) (want_0) (fun w hok => x_conv Try.underlying3 Try.underlying36 (tmI rfl rfl)) ?_
  refine rg_step 1 rfl (by kernel_rfl) (want_0) (oks_drop hS 0 rfl) ?_; intro K hK
  refine ow_build hS Try.underlying24 tz_5 (bc_take (ev_cN 6) <| bc_nil) rfl rfl (by kernel_rfl) ?_
  clear hS; intro g2_1 w hg2_1 hS
  refine hK _ _ ?_; clear hK K
  replace hS := hS.torow 0 1 1 rfl rfl (by decide)
  refine rg_step 3 rfl (by kernel_rfl) (want_0) (oks_drop hS 1 rfl) ?_; intro K hK
  refine ow_appendV hS 0 rfl (viewR hS.ok 1 rfl) Try.underlying24 tz_5 rfl (tmS rfl rfl) (tmS rfl rfl) (u8v_one _) ⟨by decide, by simp [be_length]⟩ (by simp only [maxLen]; omega) (by omega) ?_
  clear hS; intro A2 c2 w hA2 hC2 hS
  refine hK _ _ ?_; clear hK K
  refine rg_step 4 rfl (by kernel_rfl) (want_0) (oks_drop hS 1 rfl) ?_; intro K hK
  refine ow_call Try.func12 rfl rfl (evs_cons (tmA rfl rfl) <| evs_cons (tmS rfl rfl) <| evs_nil) (hd6 _ A2 c2 (row_cap (hS.rowOk 0 rfl) (by omega)) (hC2 (fun h => by cases h)) (viewR hS.ok 0 rfl)) ?_
  rintro e w ⟨rfl, hk⟩
  refine ⟨_, rfl, ?_⟩
  replace hS := hS.kept hk
  clear hk
  refine hK _ _ ?_; clear hK K
  first
   | refine rg_take 7 rfl rfl (by kernel_rfl) (by kernel_rfl) (by kernel_rfl) (want_0) (fun w hok => x_remN (tmI rfl rfl) (tmI rfl rfl) (by omega)) ?_
   | refine rg_take 7 rfl rfl (by kernel_rfl) (by kernel_rfl) (by kernel_rfl) (want_0) (fun w hok => x_rem (tmI rfl rfl) (tmI rfl rfl) (by omega)) ?_
  refine rg_take 8 rfl rfl (by kernel_rfl) (by kernel_rfl) (by kernel_rfl) (want_0) (fun w hok => x_assign (tmI rfl rfl)) ?_
  refine rg_done (oks_drop hS 1 rfl) (by kernel_rfl) ?_
  refine then_n (hK3 _ _ ?_); clear hK3 K3
  refine wp_seq_k ?_; intro K4 hK4
  refine rg_startk 0 hS mixed_ ?_
  clear hS; intro w hS
  refine rg_take 0 rfl rfl (by kernel_rfl) (by kernel_rfl) (by kernel_rfl) (want_0) (fun w hok => x_loadA (cs := [_, _, _, _, _, _, _, _, _, _, _, _, _, _, _, _]) Try.underlying22 rfl ts_22 (tmP rfl rfl) (rangeB hok 2 rfl rfl)) ?_
  refine rg_take 2 rfl rfl (by kernel_rfl) (by kernel_rfl) (by kernel_rfl) (want_0) (fun w hok => x_move (tmS rfl rfl)) ?_
  refine rg_take 5 rfl rfl (by kernel_rfl) (by kernel_rfl) (by kernel_rfl) (want_0) (fun w hok => x_move (tmI rfl rfl)) ?_
  first
   | refine rg_take 6 rfl rfl (by kernel_rfl) (by kernel_rfl) (by kernel_rfl) (want_0) (fun w hok => x_subN (tmI rfl rfl) (ev_cN 1) (fit_i64 (by omega)) (by omega)) ?_
   | refine rg_take 6 rfl rfl (by kernel_rfl) (by kernel_rfl) (by kernel_rfl) (want_0) (fun w hok => x_subI (tmI rfl rfl) (ev_cN 1) (IntWalk.i64_in _ (by omega))) ?_
   | refine rg_take 6 rfl rfl (by kernel_rfl) (by kernel_rfl) (by kernel_rfl) (want_0) (fun w hok => x_sub (tmI rfl rfl) (ev_cN 1)) ?_
  first
   | refine rg_take 7 rfl rfl (by kernel_rfl) (by kernel_rfl) (by kernel_rfl) (want_0) (fun w hok => x_convN Try.underlying3 Try.underlying36 (tmI rfl rfl) (fit_u64 (by omega))) ?_
   | refine rg_take 7 rfl rfl (by kernel_rfl) (by kernel_rfl) (by kernel_rfl) (want_0) (fun w hok => x_convU Try.underlying3 Try.underlying36 (tmI rfl rfl) rfl) ?_
   | refine rg_take 7 rfl rfl (by kernel_rfl) (by kernel_rfl) (by kernel_rfl) (want_0) (fun w hok => x_conv Try.underlying3 Try.underlying36 (tmI rfl rfl)) ?_
  refine rg_step 1 rfl (by kernel_rfl) (want_0) (oks_drop hS 0 rfl) ?_; intro K hK
  refine ow_build hS Try.underlying24 tz_5 (bc_take (ev_cN 7) <| bc_nil) rfl rfl (by kernel_rfl) ?_
  clear hS; intro g3_1 w hg3_1 hS
  refine hK _ _ ?_; clear hK K
  replace hS := hS.torow 0 1 1 rfl rfl (by decide)
  refine rg_step 3 rfl (by kernel_rfl) (want_0) (oks_drop hS 1 rfl) ?_; intro K hK
  refine ow_appendV hS 0 rfl (viewR hS.ok 2 rfl) Try.underlying24 tz_5 rfl (tmS rfl rfl) (tmS rfl rfl) (u8v_one _) ⟨by decide, by simp [be_length]⟩ (by simp only [maxLen]; omega) (by omega) ?_
  clear hS; intro A3 c3 w hA3 hC3 hS
  refine hK _ _ ?_; clear hK K
  refine rg_step 4 rfl (by kernel_rfl) (want_0) (oks_drop hS 1 rfl) ?_; intro K hK
  refine ow_call Try.func12 rfl rfl (evs_cons (tmA rfl rfl) <| evs_cons (tmS rfl rfl) <| evs_nil) (hd7 _ A3 c3 (row_cap (hS.rowOk 0 rfl) (by omega)) (hC3 (fun h => by cases h)) (viewR hS.ok 0 rfl)) ?_
  rintro e w ⟨rfl, hk⟩
  refine ⟨_, rfl, ?_⟩
  replace hS := hS.kept hk
  clear hk
  refine hK _ _ ?_; clear hK K
  first
   | refine rg_take 8 rfl rfl (by kernel_rfl) (by kernel_rfl) (by kernel_rfl) (want_0) (fun w hok => x_remN (tmI rfl rfl) (tmI rfl rfl) (by omega)) ?_
   | refine rg_take 8 rfl rfl (by kernel_rfl) (by kernel_rfl) (by kernel_rfl) (want_0) (fun w hok => x_rem (tmI rfl rfl) (tmI rfl rfl) (by omega)) ?_
  refine rg_take 9 rfl rfl (by kernel_rfl) (by kernel_rfl) (by kernel_rfl) (want_0) (fun w hok => x_assign (tmI rfl rfl)) ?_
  refine rg_done (oks_drop hS 1 rfl) (by kernel_rfl) ?_
  refine then_n (hK4 _ _ ?_); clear hK4 K4
  refine wp_seq_k ?_; intro K5 hK5
  refine wlit ?_
  refine wl_v (x_move (tmI rfl rfl)) ?_
  first
   | refine wl_v (x_convN Try.underlying36 Try.underlying3 (tmI rfl rfl) (fit_i64 (by omega))) ?_
   | refine wl_v (x_conv Try.underlying36 Try.underlying3 (tmI rfl rfl)) ?_
  refine wl_v (x_move (tmI rfl rfl)) ?_
  first
   | refine wl_v (x_convN Try.underlying36 Try.underlying3 (tmI rfl rfl) (fit_i64 (by omega))) ?_
   | refine wl_v (x_conv Try.underlying36 Try.underlying3 (tmI rfl rfl)) ?_
  first
   | refine wl_v (x_addN (tmI rfl rfl) (ev_cN 1) (fit_i64 (by omega))) ?_
   | refine wl_v (x_addI (tmI rfl rfl) (ev_cN 1) (IntWalk.i64_in _ (by omega))) ?_
   | refine wl_v (x_add (tmI rfl rfl) (ev_cN 1)) ?_
  refine wl_v (x_assign (tmI rfl rfl)) ?_
  refine wl_v (x_assign (tmI rfl rfl)) ?_
  refine wl_nil ?_
  refine then_n (hK5 _ _ ?_); clear hK5 K5
  refine wp_ret ?_
  refine ret2 rfl (.tmp rfl (show _ = Value.int _ _ from rfl)) (.tmp rfl (show _ = Value.int _ _ from rfl)) ?_
  exact ⟨rfl, hS.kp⟩
theorem rmof_c (k : Nat → Nat) (m n f s : Nat) (w0 : World) (hkb : Bytes (kL k)) (hm : m ≤ 64) (hn : 2 ≤ n) (hn4 : n ≤ 1000000) (hf : fstN k m n = f) (hs : stpN k m n = s) :
    Calls Try.prog 20 #[.agg (kC k).toArray, .int .i64 (m : Int), .int .i64 (n : Int)] w0 fun e w' => e = .returned (.tuple #[.int .i64 (f : Int), .int .i64 (s : Int)]) ∧ Kp [] w0 w' := by
  have h := rmof_x k m n _ _ w0 hkb hm hn hn4 rfl rfl
  unfold fstN at hf
  unfold stpN at hs
  rw [hf, hs] at h
  exact h
end Go.Proofs.Ytofkhhklkcdggaa
