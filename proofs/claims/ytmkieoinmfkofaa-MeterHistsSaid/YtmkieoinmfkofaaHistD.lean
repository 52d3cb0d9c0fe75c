
/- Histograms: Add, Join, Below by contract (under way). Conditions: none but bounds. -/
import Derived.Test.YtmkieoinmfkofaaHistC
namespace Go.Proofs.Ytmkieoinmfkofaa
open Go.RowKit
namespace HistC
set_option maxRecDepth 100000 in
set_option maxHeartbeats 4000000 in
theorem add_c (F : List Nat) (gh : Nat) (f : Nat → Nat) (x : Nat) (w0 : World) (hS : St F w0 [.blk gh 28 (hL f)] w0) (hx : x < 18446744073709551616) (hf : f (bl x) < 1000000) :
    Calls Try.prog 5 #[.pointer (some ⟨gh, 0, none⟩), .int .u64 (x : Int)] w0 fun e w' => e = .returned (.tuple #[]) ∧ St F w0 [.blk gh 28 (hL (fun i => if i = bl x then f (bl x) + 1 else f i))] w' := by
  have hb : bl x ≤ 64 := bl_lt (s := 64) hx
  have hlen := hL_len f
  generalize hbl : bl x = b at *
  refine ent (n := 17) Try.func5 rfl rfl ?_
  refine wp_seq_k ?_; intro K1 hK1
  refine wlit ?_
  refine wl_v (x_move (tmP rfl rfl)) ?_
  first
   | refine wl_v (x_pneq Try.underlying24 (tmP rfl rfl) ev_c) ?_
   | refine wl_v (x_pneqn Try.underlying24 (tmP rfl rfl) ev_c) ?_
  refine wl_nil ?_
  refine then_n (hK1 _ _ ?_); clear hK1 K1
  refine cnd (tm rfl) (fun hc0 => ?_) (fun hc0 => ?_)
  · try (exfalso; first | with_reducible exact absurd hc0 Bool.false_ne_true | with_reducible exact absurd hc0.symm Bool.false_ne_true | (simp only [nrm] at hc0; omega) | (simp at hc0; done))
    all_goals
     try simp only [nrm] at hc0
     refine rg_startk 1 hS mixed_ ?_
     clear hS; intro w hS
     refine rg_take 0 rfl rfl (by kernel_rfl) (by kernel_rfl) (by kernel_rfl) (want_0) (fun w hok => x_move (tmP rfl rfl)) ?_
     refine rg_take 1 rfl rfl (by kernel_rfl) (by kernel_rfl) (by kernel_rfl) (want_0) (fun w hok => x_move (tmI rfl rfl)) ?_
     refine rg_take 3 rfl rfl (by kernel_rfl) (by kernel_rfl) (by kernel_rfl) (want_0) (fun w hok => x_nil (A := none) (tmP rfl rfl)) ?_
     refine rg_take 4 rfl rfl (by kernel_rfl) (by kernel_rfl) (by kernel_rfl) (want_0) (fun w hok => x_fa 0 Try.underlying28 rfl rfl ts_26 (tmP rfl rfl)) ?_
     refine rg_take 8 rfl rfl (by kernel_rfl) (by kernel_rfl) (by kernel_rfl) (want_0) (fun w hok => x_nil (A := none) (tmP rfl rfl)) ?_
     refine rg_take 9 rfl rfl (by kernel_rfl) (by kernel_rfl) (by kernel_rfl) (want_0) (fun w hok => x_fa 0 Try.underlying28 rfl rfl ts_26 (tmP rfl rfl)) ?_
     refine rg_step 2 rfl (by kernel_rfl) (want_0) (oks_drop hS 1 rfl) ?_; intro K hK
     refine ow_call Try.func12 rfl rfl (evs_cons (tmI rfl rfl) <| evs_nil) (len64_c x _ hx) ?_
     rintro e w ⟨rfl, hk⟩
     refine ⟨_, rfl, ?_⟩
     replace hS := hS.kept hk
     clear hk
     rw [hbl]
     refine hK _ _ ?_; clear hK K
     refine rg_take 5 rfl rfl (by kernel_rfl) (by kernel_rfl) (by kernel_rfl) (want_0) (fun w hok => x_ixa1 Try.underlying26 ts_25 (tmP rfl rfl) (tmI rfl rfl) (by omega)) ?_
     refine rg_step 6 rfl (by kernel_rfl) (want_0) (oks_drop hS 1 rfl) ?_; intro K hK
     refine ow_v (x_load Try.underlying25 rfl (tmP rfl rfl) (v := u64v (f b)) (cellB hS.ok 0 rfl (by simp only [Nat.zero_add]; exact hL_get f (by omega)))) ?_
     refine hK _ _ ?_; clear hK K
     first
      | refine rg_take 7 rfl rfl (by kernel_rfl) (by kernel_rfl) (by kernel_rfl) (want_0) (fun w hok => x_addN (tmI rfl rfl) (ev_cN 1) (fit_u64 (by omega))) ?_
      | refine rg_take 7 rfl rfl (by kernel_rfl) (by kernel_rfl) (by kernel_rfl) (want_0) (fun w hok => x_addI (tmI rfl rfl) (ev_cN 1) (IntWalk.u64_in _ (by omega))) ?_
      | refine rg_take 7 rfl rfl (by kernel_rfl) (by kernel_rfl) (by kernel_rfl) (want_0) (fun w hok => x_addU (tmI rfl rfl) (ev_cN 1) rfl) ?_
      | refine rg_take 7 rfl rfl (by kernel_rfl) (by kernel_rfl) (by kernel_rfl) (want_0) (fun w hok => x_add (tmI rfl rfl) (ev_cN 1)) ?_
     refine rg_take 10 rfl rfl (by kernel_rfl) (by kernel_rfl) (by kernel_rfl) (want_0) (fun w hok => x_ixa1 Try.underlying26 ts_25 (tmP rfl rfl) (tmI rfl rfl) (by omega)) ?_
     refine rg_step 11 rfl (by kernel_rfl) (want_0) (oks_drop hS 1 rfl) ?_; intro K hK
     first
      | refine ow_store hS 0 rfl ts_25 (tmP rfl rfl) (tmI rfl rfl) rfl rfl ?_
      | refine ow_storeX hS 0 rfl ts_25 (tmP rfl rfl) (tmI rfl rfl) rfl (by simp; omega) ?_
      | refine ow_storeRs hS 0 rfl ts_25 (tmP rfl rfl) (tmI rfl rfl) rfl (by first | omega | (simp; omega)) ?_
      | refine ow_storeR hS 0 rfl ts_25 (tmP rfl rfl) (tmI rfl rfl) rfl (by first | omega | (simp; omega)) ?_
     clear hS; intro w hS
     refine hK _ _ ?_; clear hK K
     refine rg_done (oks_drop hS 1 rfl) (by kernel_rfl) ?_
     refine end_n ?_
     refine ret0 rfl ?_
     rw [show 0 + 0 + b = b by omega, show Value.int .u64 ((f b + 1 : Nat) : Int) = u64v (f b + 1) from rfl, hL_set] at hS
     exact ⟨rfl, hS⟩
  try (exfalso; first | with_reducible exact absurd hc0 Bool.false_ne_true | with_reducible exact absurd hc0.symm Bool.false_ne_true | (simp only [nrm] at hc0; omega) | (simp at hc0; done))
  all_goals
   try simp only [nrm] at hc0
   refine wp_skip ?_
   refine end_n ?_
   refine ret0 rfl ?_
   rw [show 0 + 0 + b = b by omega, show Value.int .u64 ((f b + 1 : Nat) : Int) = u64v (f b + 1) from rfl, hL_set] at hS
   exact ⟨rfl, hS⟩
set_option maxRecDepth 100000 in
set_option maxHeartbeats 4000000 in
theorem add_nil_c (v : Value) (w0 : World) :
    Calls Try.prog 5 #[.pointer none, v] w0 fun e w' => e = .returned (.tuple #[]) ∧ Kp [] w0 w' := by
  have hS := St.sv w0
  refine ent (n := 17) Try.func5 rfl rfl ?_
  refine wp_seq_k ?_; intro K1 hK1
  refine wlit ?_
  refine wl_v (x_move (tmP rfl rfl)) ?_
  first
   | refine wl_v (x_pneq Try.underlying24 (tmP rfl rfl) ev_c) ?_
   | refine wl_v (x_pneqn Try.underlying24 (tmP rfl rfl) ev_c) ?_
  refine wl_nil ?_
  refine then_n (hK1 _ _ ?_); clear hK1 K1
  refine cnd (tm rfl) (fun hc0 => ?_) (fun hc0 => ?_)
  · exfalso
    simp at hc0
  try (exfalso; first | with_reducible exact absurd hc0 Bool.false_ne_true | with_reducible exact absurd hc0.symm Bool.false_ne_true | (simp only [nrm] at hc0; omega) | (simp at hc0; done))
  all_goals
   try simp only [nrm] at hc0
   refine wp_skip ?_
   refine end_n ?_
   refine ret0 rfl ?_
   exact ⟨rfl, hS.kp⟩
set_option maxRecDepth 100000 in
set_option maxHeartbeats 4000000 in
theorem join_nil_c (v : Value) (w0 : World) :
    Calls Try.prog 8 #[.pointer none, v] w0 fun e w' => e = .returned (.tuple #[]) ∧ Kp [] w0 w' := by
  have hS := St.sv w0
  refine ent (n := 32) Try.func8 rfl rfl ?_
  refine wp_seq_k ?_; intro K1 hK1
  refine wp_seq_k ?_; intro K2 hK2
  refine wlit ?_
  refine wl_v (x_move (tmP rfl rfl)) ?_
  first
   | refine wl_v (x_peql Try.underlying24 (tmP rfl rfl) ev_c) ?_
   | refine wl_v (x_peqln Try.underlying24 (tmP rfl rfl) ev_c) ?_
  refine wl_v (x_move (tmB rfl rfl)) ?_
  refine gs_wl (tm (t := 8) rfl) (fun hg0_2 => ?_) (fun hg0_2 => ?_)
  · have hg0_2' := hg0_2; (try simp only [nrm] at hg0_2'); try (exfalso; first | with_reducible exact absurd hg0_2 Bool.false_ne_true | with_reducible exact absurd hg0_2.symm Bool.false_ne_true | omega | (simp at hg0_2; done))
    all_goals
     refine wl_s rfl (want_n rfl rfl rfl rfl (by rw [hg0_2]; rfl)) ?_
     refine wl_s rfl (want_n rfl rfl rfl rfl (by rw [hg0_2]; rfl)) ?_
     refine wl_v (x_pickT (tmB rfl rfl) hg0_2 ev_c) ?_
     refine wl_nil ?_
     refine then_n (hK2 _ _ ?_); clear hK2 K2
     refine cnd_t (tmB rfl rfl) rfl ?_
     refine wp_ret ?_
     refine then_r ?_
     refine ret0 rfl ?_
     exact ⟨rfl, hS.kp⟩
  have hg0_2' := hg0_2; (try simp only [nrm] at hg0_2'); try (exfalso; first | with_reducible exact absurd hg0_2 Bool.false_ne_true | with_reducible exact absurd hg0_2.symm Bool.false_ne_true | omega | (simp at hg0_2; done))
  all_goals
   refine wl_gv (want_y rfl rfl rfl rfl (by rw [hg0_2]; rfl)) (x_move (tmP rfl rfl)) ?_
   first
    | refine wl_gv (want_y rfl rfl rfl rfl (by rw [hg0_2]; rfl)) (x_peql Try.underlying24 (tmP rfl rfl) ev_c) ?_
    | refine wl_gv (want_y rfl rfl rfl rfl (by rw [hg0_2]; rfl)) (x_peqln Try.underlying24 (tmP rfl rfl) ev_c) ?_
   refine wl_v (x_pickF (tmB rfl rfl) hg0_2 (tmB rfl rfl)) ?_
   refine wl_nil ?_
   refine then_n (hK2 _ _ ?_); clear hK2 K2
   refine cnds (tm rfl) (fun hc0 => ?_) (fun hc0 => ?_)
   · exfalso
     simp at hc0
   try (exfalso; first | with_reducible exact absurd hc0 Bool.false_ne_true | with_reducible exact absurd hc0.symm Bool.false_ne_true | (simp only [nrm] at hc0; omega) | (simp at hc0; done))
   all_goals
    try simp only [nrm] at hc0
    refine wp_ret ?_
    refine then_r ?_
    refine ret0 rfl ?_
    exact ⟨rfl, hS.kp⟩
set_option maxRecDepth 100000 in
set_option maxHeartbeats 4000000 in
theorem total_nil_c (w0 : World) :
    Calls Try.prog 9 #[.pointer none] w0 fun e w' => e = .returned (.int .u64 0) ∧ Kp [] w0 w' := by
  have hS := St.sv w0
  refine ent (n := 20) Try.func9 rfl rfl ?_
  refine wp_seq_k ?_; intro K1 hK1
  refine wlit ?_
  refine wl_v (x_assign (ev_cN 0)) ?_
  refine wl_nil ?_
  refine then_n (hK1 _ _ ?_); clear hK1 K1
  refine wp_seq_k ?_; intro K2 hK2
  refine wp_seq_k ?_; intro K3 hK3
  refine wlit ?_
  refine wl_v (x_move (tmP rfl rfl)) ?_
  first
   | refine wl_v (x_peql Try.underlying24 (tmP rfl rfl) ev_c) ?_
   | refine wl_v (x_peqln Try.underlying24 (tmP rfl rfl) ev_c) ?_
  refine wl_nil ?_
  refine then_n (hK3 _ _ ?_); clear hK3 K3
  refine cnds (tm rfl) (fun hc0 => ?_) (fun hc0 => ?_)
  · exfalso
    simp at hc0
  try (exfalso; first | with_reducible exact absurd hc0 Bool.false_ne_true | with_reducible exact absurd hc0.symm Bool.false_ne_true | (simp only [nrm] at hc0; omega) | (simp at hc0; done))
  all_goals
   try simp only [nrm] at hc0
   refine wp_seq_k ?_; intro K4 hK4
   refine wlit ?_
   refine wl_v (x_assign (ev_cN 0)) ?_
   refine wl_nil ?_
   refine then_n (hK4 _ _ ?_); clear hK4 K4
   refine wp_ret ?_
   refine then_r ?_
   refine ret1 rfl (.tmp rfl (show _ = Value.int _ _ from rfl)) ?_
   exact ⟨rfl, hS.kp⟩
/-- The first k counts joined. -/
def joinF (f h : Nat → Nat) (k : Nat) : Nat → Nat := fun i => if i < k then f i + h i else f i
theorem joinF_step (f h : Nat → Nat) (k : Nat) : (fun i => if i = k then f k + h k else joinF f h k i) = joinF f h (k + 1) := by
  funext i
  unfold joinF
  by_cases h1 : i = k
  · subst h1; rw [if_pos rfl, if_pos (by omega)]
  · rw [if_neg h1]
    by_cases h2 : i < k
    · rw [if_pos h2, if_pos (by omega)]
    · rw [if_neg h2, if_neg (by omega)]
set_option maxRecDepth 100000 in
set_option maxHeartbeats 4000000 in
theorem join_c (F : List Nat) (gh : Nat) (f h : Nat → Nat) (gb : Nat) (w0 : World) (hS : St F w0 [.blk gh 28 (hL f), .vw (some ⟨gb, 0, none⟩) (hL h)] w0) (hf : ∀ i, f i < 1000000) (hh : ∀ i, h i < 1000000) :
    Calls Try.prog 8 #[.pointer (some ⟨gh, 0, none⟩), .pointer (some ⟨gb, 0, none⟩)] w0 fun e w' => e = .returned (.tuple #[]) ∧ St F w0 [.blk gh 28 (hL fun i => f i + h i), .vw (some ⟨gb, 0, none⟩) (hL h)] w' := by
  have hj0 : f = joinF f h 0 := by funext i; unfold joinF; rw [if_neg (by omega)]
  have hj65 : hL (joinF f h 65) = hL (fun i => f i + h i) := hL_congr fun j hj => by unfold joinF; rw [if_pos hj]
  rw [hj0] at hS
  refine ent (n := 32) Try.func8 rfl rfl ?_
  refine wp_seq_k ?_; intro K1 hK1
  refine wp_seq_k ?_; intro K2 hK2
  refine wlit ?_
  refine wl_v (x_move (tmP rfl rfl)) ?_
  first
   | refine wl_v (x_peql Try.underlying24 (tmP rfl rfl) ev_c) ?_
   | refine wl_v (x_peqln Try.underlying24 (tmP rfl rfl) ev_c) ?_
  refine wl_v (x_move (tmB rfl rfl)) ?_
  refine gs_wl (tm (t := 8) rfl) (fun hg0_2 => ?_) (fun hg0_2 => ?_)
  · have hg0_2' := hg0_2; (try simp only [nrm] at hg0_2'); try (exfalso; first | with_reducible exact absurd hg0_2 Bool.false_ne_true | with_reducible exact absurd hg0_2.symm Bool.false_ne_true | omega | (simp at hg0_2; done))
    all_goals
     refine wl_s rfl (want_n rfl rfl rfl rfl (by rw [hg0_2]; rfl)) ?_
     refine wl_s rfl (want_n rfl rfl rfl rfl (by rw [hg0_2]; rfl)) ?_
     refine wl_v (x_pickT (tmB rfl rfl) hg0_2 ev_c) ?_
     refine wl_nil ?_
     refine then_n (hK2 _ _ ?_); clear hK2 K2
     refine cnd_t (tmB rfl rfl) rfl ?_
     refine wp_ret ?_
     refine then_r ?_
     refine ret0 rfl ?_
     first
       | (obtain rfl : k = 65 := by omega
          rw [hj65] at hS
          exact ⟨rfl, hS⟩)
  have hg0_2' := hg0_2; (try simp only [nrm] at hg0_2'); try (exfalso; first | with_reducible exact absurd hg0_2 Bool.false_ne_true | with_reducible exact absurd hg0_2.symm Bool.false_ne_true | omega | (simp at hg0_2; done))
  all_goals
   refine wl_gv (want_y rfl rfl rfl rfl (by rw [hg0_2]; rfl)) (x_move (tmP rfl rfl)) ?_
   first
    | refine wl_gv (want_y rfl rfl rfl rfl (by rw [hg0_2]; rfl)) (x_peql Try.underlying24 (tmP rfl rfl) ev_c) ?_
    | refine wl_gv (want_y rfl rfl rfl rfl (by rw [hg0_2]; rfl)) (x_peqln Try.underlying24 (tmP rfl rfl) ev_c) ?_
   refine wl_v (x_pickF (tmB rfl rfl) hg0_2 (tmB rfl rfl)) ?_
   refine wl_nil ?_
   refine then_n (hK2 _ _ ?_); clear hK2 K2
   refine cnd (tm rfl) (fun hc0 => ?_) (fun hc0 => ?_)
   · exfalso
     simp at hc0
   try (exfalso; first | with_reducible exact absurd hc0 Bool.false_ne_true | with_reducible exact absurd hc0.symm Bool.false_ne_true | (simp only [nrm] at hc0; omega) | (simp at hc0; done))
   all_goals
    try simp only [nrm] at hc0
    refine wp_skip ?_
    refine then_n (hK1 _ _ ?_); clear hK1 K1
    refine wp_seq_k ?_; intro K3 hK3
    refine wlit ?_
    refine wl_v (x_move (tmP rfl rfl)) ?_
    refine wl_v (x_nil (A := none) (tmP rfl rfl)) ?_
    refine wl_v (x_fa 0 Try.underlying28 rfl rfl ts_26 (tmP rfl rfl)) ?_
    refine wl_v (x_loadA (cs := hL h) Try.underlying26 rfl (by rw [hL_len]; exact ts_26) (tmP rfl rfl) (fun i v hv => cellV hS.ok 1 rfl hv)) ?_
    refine wl_v (x_move (ev_cN 0)) ?_
    refine wl_nil ?_
    refine then_n (hK3 _ _ ?_); clear hK3 K3
    refine wp_block ?_
    refine lp [4, 5, 16, 17, 18, 19, 20, 21, 22, 23, 24, 25, 26, 27, 28, 29, 30, 31] (fun mz g w => ∃ (k : Nat), mz = 65 - k ∧ g 16 = .int .i64 (k : Int) ∧ St F w0 [.blk gh 28 (hL (joinF f h k)), .vw (some ⟨gb, 0, none⟩) (hL h)] w ∧ (k ≤ 65)) ?_ ?_
    · exact ⟨_, 0, rfl, (by first | rfl | go_num | exact congrArg (Value.int _) (by first | omega | (simp; done) | (simp; omega))), hS, (by omega)⟩
    · clear hS; intro mz g w hI
      obtain ⟨k, rfl, hs16, hS, hk⟩ := hI
      refine fr_know (d := 16) hs16 ?_; clear hs16
      refine wp_seq_k ?_; intro K4 hK4
      refine wlit ?_
      refine wl_v (x_lss (tmI rfl rfl) (ev_cN 65)) ?_
      refine wl_nil ?_
      refine then_n (hK4 _ _ ?_); clear hK4 K4
      refine wp_seq_k ?_; intro K5 hK5
      refine cnd (tm rfl) (fun hc1 => ?_) (fun hc1 => ?_)
      · try (exfalso; first | with_reducible exact absurd hc1 Bool.false_ne_true | with_reducible exact absurd hc1.symm Bool.false_ne_true | (simp only [nrm] at hc1; omega) | (simp at hc1; done))
        all_goals
         try simp only [nrm] at hc1
         have hlen := hL_len (joinF f h k)
         have hfk := hf k
         have hhk := hh k
         have hjk : joinF f h k k = f k := by unfold joinF; rw [if_neg (by omega)]
         have hgk := hL_get (joinF f h k) (j := k) (by omega)
         rw [hjk] at hgk
         refine wp_skip ?_
         refine then_n (hK5 _ _ ?_); clear hK5 K5
         refine wp_seq_k ?_; intro K6 hK6
         refine wp_block ?_
         refine wp_seq_k ?_; intro K7 hK7
         refine wlit ?_
         refine wl_v (x_move (tmI rfl rfl)) ?_
         refine wl_v (x_index (cs := (hL h).toArray) Try.underlying26 ts_25 Try.underlying25 rfl (tmA rfl rfl) (tmI rfl rfl) (by omega) (by simpa using hL_get h (by omega))) ?_
         refine wl_v (x_assign (tmI rfl rfl)) ?_
         refine wl_v (x_assign (tmI rfl rfl)) ?_
         refine wl_nil ?_
         refine then_n (hK7 _ _ ?_); clear hK7 K7
         refine rg_startk 1 hS mixed_ ?_
         clear hS; intro w hS
         refine rg_take 0 rfl rfl (by kernel_rfl) (by kernel_rfl) (by kernel_rfl) (want_0) (fun w hok => x_move (tmP rfl rfl)) ?_
         refine rg_take 1 rfl rfl (by kernel_rfl) (by kernel_rfl) (by kernel_rfl) (want_0) (fun w hok => x_move (tmI rfl rfl)) ?_
         refine rg_take 2 rfl rfl (by kernel_rfl) (by kernel_rfl) (by kernel_rfl) (want_0) (fun w hok => x_nil (A := none) (tmP rfl rfl)) ?_
         refine rg_take 3 rfl rfl (by kernel_rfl) (by kernel_rfl) (by kernel_rfl) (want_0) (fun w hok => x_fa 0 Try.underlying28 rfl rfl ts_26 (tmP rfl rfl)) ?_
         refine rg_take 4 rfl rfl (by kernel_rfl) (by kernel_rfl) (by kernel_rfl) (want_0) (fun w hok => x_ixa1 Try.underlying26 ts_25 (tmP rfl rfl) (tmI rfl rfl) (by omega)) ?_
         refine rg_take 6 rfl rfl (by kernel_rfl) (by kernel_rfl) (by kernel_rfl) (want_0) (fun w hok => x_move (tmI rfl rfl)) ?_
         refine rg_take 8 rfl rfl (by kernel_rfl) (by kernel_rfl) (by kernel_rfl) (want_0) (fun w hok => x_nil (A := none) (tmP rfl rfl)) ?_
         refine rg_take 9 rfl rfl (by kernel_rfl) (by kernel_rfl) (by kernel_rfl) (want_0) (fun w hok => x_fa 0 Try.underlying28 rfl rfl ts_26 (tmP rfl rfl)) ?_
         refine rg_step 5 rfl (by kernel_rfl) (want_0) (oks_drop hS 1 rfl) ?_; intro K hK
         refine ow_v (x_load Try.underlying25 rfl (tmP rfl rfl) (v := u64v (f k)) (cellB hS.ok 0 rfl (by simp only [Nat.zero_add]; exact hgk))) ?_
         refine hK _ _ ?_; clear hK K
         first
          | refine rg_take 7 rfl rfl (by kernel_rfl) (by kernel_rfl) (by kernel_rfl) (want_0) (fun w hok => x_addN (tmI rfl rfl) (tmI rfl rfl) (fit_u64 (by omega))) ?_
          | refine rg_take 7 rfl rfl (by kernel_rfl) (by kernel_rfl) (by kernel_rfl) (want_0) (fun w hok => x_addI (tmI rfl rfl) (tmI rfl rfl) (IntWalk.u64_in _ (by omega))) ?_
          | refine rg_take 7 rfl rfl (by kernel_rfl) (by kernel_rfl) (by kernel_rfl) (want_0) (fun w hok => x_addU (tmI rfl rfl) (tmI rfl rfl) rfl) ?_
          | refine rg_take 7 rfl rfl (by kernel_rfl) (by kernel_rfl) (by kernel_rfl) (want_0) (fun w hok => x_add (tmI rfl rfl) (tmI rfl rfl)) ?_
         refine rg_take 10 rfl rfl (by kernel_rfl) (by kernel_rfl) (by kernel_rfl) (want_0) (fun w hok => x_ixa1 Try.underlying26 ts_25 (tmP rfl rfl) (tmI rfl rfl) (by omega)) ?_
         refine rg_step 11 rfl (by kernel_rfl) (want_0) (oks_drop hS 1 rfl) ?_; intro K hK
         first
          | refine ow_store hS 0 rfl ts_25 (tmP rfl rfl) (tmI rfl rfl) rfl rfl ?_
          | refine ow_storeX hS 0 rfl ts_25 (tmP rfl rfl) (tmI rfl rfl) rfl (by simp; omega) ?_
          | refine ow_storeRs hS 0 rfl ts_25 (tmP rfl rfl) (tmI rfl rfl) rfl (by first | omega | (simp; omega)) ?_
          | refine ow_storeR hS 0 rfl ts_25 (tmP rfl rfl) (tmI rfl rfl) rfl (by first | omega | (simp; omega)) ?_
          | refine ow_store hS 1 rfl ts_25 (tmP rfl rfl) (tmI rfl rfl) rfl rfl ?_
          | refine ow_storeX hS 1 rfl ts_25 (tmP rfl rfl) (tmI rfl rfl) rfl (by simp; omega) ?_
          | refine ow_storeRs hS 1 rfl ts_25 (tmP rfl rfl) (tmI rfl rfl) rfl (by first | omega | (simp; omega)) ?_
          | refine ow_storeR hS 1 rfl ts_25 (tmP rfl rfl) (tmI rfl rfl) rfl (by first | omega | (simp; omega)) ?_
         clear hS; intro w hS
         refine hK _ _ ?_; clear hK K
         refine rg_done (oks_drop hS 1 rfl) (by kernel_rfl) ?_
         rw [show 0 + 0 + k = k by omega, show Value.int .u64 ((f k + h k : Nat) : Int) = u64v (f k + h k) from rfl, hL_set, joinF_step] at hS
         refine inb_n ?_
         refine then_n (hK6 _ _ ?_); clear hK6 K6
         refine wlit ?_
         first
          | refine wl_v (x_addN (tmI rfl rfl) (ev_cN 1) (fit_i64 (by omega))) ?_
          | refine wl_v (x_addI (tmI rfl rfl) (ev_cN 1) (IntWalk.i64_in _ (by omega))) ?_
          | refine wl_v (x_add (tmI rfl rfl) (ev_cN 1)) ?_
         refine wl_v (x_move (tmI rfl rfl)) ?_
         refine wl_nil ?_
         exact then_n ⟨_, _, rfl, (by show _ < _; omega), (by repeat (first | exact agree_self | exact agree_refl | refine agree_upd rfl ?_ | refine agree_mix rfl ?_)), k + 1, rfl, (by first | rfl | go_num | exact congrArg (Value.int _) (by first | omega | (simp; done) | (simp; omega))), hS, (by omega)⟩
      try (exfalso; first | with_reducible exact absurd hc1 Bool.false_ne_true | with_reducible exact absurd hc1.symm Bool.false_ne_true | (simp only [nrm] at hc1; omega) | (simp at hc1; done))
      all_goals
       try simp only [nrm] at hc1
       refine wp_exit ?_
       refine then_x ?_; clear hK5 K5
       refine then_x ?_
       refine inb_x ?_
       refine end_n ?_
       refine ret0 rfl ?_
       first
         | (obtain rfl : k = 65 := by omega
            rw [hj65] at hS
            exact ⟨rfl, hS⟩)
end HistC
end Go.Proofs.Ytmkieoinmfkofaa
