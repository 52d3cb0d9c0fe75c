
/- The law's own example of a bucket (awake) by contract (under way). Conditions: none. -/
import Derived.Test.YtmkieoinmfkofaaHistE
namespace Go.Proofs.Ytmkieoinmfkofaa
open Go.RowKit
namespace HistC
set_option maxRecDepth 100000 in
set_option maxHeartbeats 4000000 in
theorem refill_a (F : List Nat) (gb : Nat) (w0 : World) (hS : St F w0 [.blk gb 45 [u64v 1, u64v 2, u64v 2, u64v 0]] w0) :
    Calls Try.prog 15 #[.pointer (some ⟨gb, 0, none⟩), .int .u64 ((0 : Nat) : Int)] w0 fun e w' => e = .returned (.tuple #[]) ∧ St F w0 [.blk gb 45 [u64v 1, u64v 2, u64v 2, u64v 0]] w' := by
  refine ent (n := 41) Try.func15 rfl rfl ?_
  refine wp_seq_k ?_; intro K1 hK1
  refine wp_seq_k ?_; intro K2 hK2
  refine wlit ?_
  refine wl_v (x_move (tmI rfl rfl)) ?_
  refine wl_v (x_move (tmP rfl rfl)) ?_
  refine wl_v (x_nil (A := none) (tmP rfl rfl)) ?_
  refine wl_v (x_fa 3 Try.underlying45 rfl rfl ts_25 (tmP rfl rfl)) ?_
  refine wl_v (x_load Try.underlying25 rfl (tmP rfl rfl) (cellB hS.ok 0 rfl rfl)) ?_
  refine wl_v (x_leq (tmI rfl rfl) (tmI rfl rfl)) ?_
  refine wl_nil ?_
  refine then_n (hK2 _ _ ?_); clear hK2 K2
  refine cnds (tm rfl) (fun hc0 => ?_) (fun hc0 => ?_)
  · exfalso
    simp at hc0
  try (exfalso; first | with_reducible exact absurd hc0 Bool.false_ne_true | with_reducible exact absurd hc0.symm Bool.false_ne_true | (simp only [nrm] at hc0; omega) | (simp at hc0; done))
  all_goals
   try simp only [nrm] at hc0
   refine wp_ret ?_
   refine then_r ?_
   refine ret0 rfl ?_
   exact ⟨rfl, hS⟩
set_option maxRecDepth 100000 in
set_option maxHeartbeats 4000000 in
theorem refill_b (F : List Nat) (gb : Nat) (w0 : World) (hS : St F w0 [.blk gb 45 [u64v 1, u64v 2, u64v 0, u64v 0]] w0) :
    Calls Try.prog 15 #[.pointer (some ⟨gb, 0, none⟩), .int .u64 ((0 : Nat) : Int)] w0 fun e w' => e = .returned (.tuple #[]) ∧ St F w0 [.blk gb 45 [u64v 1, u64v 2, u64v 0, u64v 0]] w' := by
  refine ent (n := 41) Try.func15 rfl rfl ?_
  refine wp_seq_k ?_; intro K1 hK1
  refine wp_seq_k ?_; intro K2 hK2
  refine wlit ?_
  refine wl_v (x_move (tmI rfl rfl)) ?_
  refine wl_v (x_move (tmP rfl rfl)) ?_
  refine wl_v (x_nil (A := none) (tmP rfl rfl)) ?_
  refine wl_v (x_fa 3 Try.underlying45 rfl rfl ts_25 (tmP rfl rfl)) ?_
  refine wl_v (x_load Try.underlying25 rfl (tmP rfl rfl) (cellB hS.ok 0 rfl rfl)) ?_
  refine wl_v (x_leq (tmI rfl rfl) (tmI rfl rfl)) ?_
  refine wl_nil ?_
  refine then_n (hK2 _ _ ?_); clear hK2 K2
  refine cnds (tm rfl) (fun hc0 => ?_) (fun hc0 => ?_)
  · exfalso
    simp at hc0
  try (exfalso; first | with_reducible exact absurd hc0 Bool.false_ne_true | with_reducible exact absurd hc0.symm Bool.false_ne_true | (simp only [nrm] at hc0; omega) | (simp at hc0; done))
  all_goals
   try simp only [nrm] at hc0
   refine wp_ret ?_
   refine then_r ?_
   refine ret0 rfl ?_
   exact ⟨rfl, hS⟩
set_option maxRecDepth 100000 in
set_option maxHeartbeats 4000000 in
theorem refill_d (F : List Nat) (gb : Nat) (w0 : World) (hS : St F w0 [.blk gb 45 [u64v 1, u64v 2, u64v 0, u64v 0]] w0) :
    Calls Try.prog 15 #[.pointer (some ⟨gb, 0, none⟩), .int .u64 ((1 : Nat) : Int)] w0 fun e w' => e = .returned (.tuple #[]) ∧ St F w0 [.blk gb 45 [u64v 1, u64v 2, u64v 1, u64v 1]] w' := by
  refine ent (n := 41) Try.func15 rfl rfl ?_
  refine wp_seq_k ?_; intro K1 hK1
  refine wp_seq_k ?_; intro K2 hK2
  refine wlit ?_
  refine wl_v (x_move (tmI rfl rfl)) ?_
  refine wl_v (x_move (tmP rfl rfl)) ?_
  refine wl_v (x_nil (A := none) (tmP rfl rfl)) ?_
  refine wl_v (x_fa 3 Try.underlying45 rfl rfl ts_25 (tmP rfl rfl)) ?_
  refine wl_v (x_load Try.underlying25 rfl (tmP rfl rfl) (cellB hS.ok 0 rfl rfl)) ?_
  refine wl_v (x_leq (tmI rfl rfl) (tmI rfl rfl)) ?_
  refine wl_nil ?_
  refine then_n (hK2 _ _ ?_); clear hK2 K2
  refine cnd (tm rfl) (fun hc0 => ?_) (fun hc0 => ?_)
  · exfalso
    simp at hc0
  try (exfalso; first | with_reducible exact absurd hc0 Bool.false_ne_true | with_reducible exact absurd hc0.symm Bool.false_ne_true | (simp only [nrm] at hc0; omega) | (simp at hc0; done))
  all_goals
   try simp only [nrm] at hc0
   refine wp_skip ?_
   refine then_n (hK1 _ _ ?_); clear hK1 K1
   refine wp_seq_k ?_; intro K3 hK3
   refine wlit ?_
   refine wl_v (x_move (tmI rfl rfl)) ?_
   refine wl_v (x_move (tmP rfl rfl)) ?_
   refine wl_v (x_nil (A := none) (tmP rfl rfl)) ?_
   refine wl_v (x_fa 3 Try.underlying45 rfl rfl ts_25 (tmP rfl rfl)) ?_
   refine wl_v (x_load Try.underlying25 rfl (tmP rfl rfl) (cellB hS.ok 0 rfl rfl)) ?_
   first
    | refine wl_v (x_subN (tmI rfl rfl) (tmI rfl rfl) (fit_u64 (by omega)) (by omega)) ?_
    | refine wl_v (x_subI (tmI rfl rfl) (tmI rfl rfl) (IntWalk.u64_in _ (by omega))) ?_
    | refine wl_v (x_subU (tmI rfl rfl) (tmI rfl rfl) rfl (fit_u64 (by omega))) ?_
    | refine wl_v (x_sub (tmI rfl rfl) (tmI rfl rfl)) ?_
   first
    | refine wl_v (x_min (tmI rfl rfl) (ev_cN 2147483648)) ?_
    | refine wl_v (x_minI (tmI rfl rfl) (ev_cN 2147483648)) ?_
   refine wl_v (x_assign (tmI rfl rfl)) ?_
   refine wl_nil ?_
   refine then_n (hK3 _ _ ?_); clear hK3 K3
   refine wp_seq_k ?_; intro K4 hK4
   refine rg_startk 1 hS mixed_ ?_
   clear hS; intro w hS
   refine rg_take 0 rfl rfl (by kernel_rfl) (by kernel_rfl) (by kernel_rfl) (want_0) (fun w hok => x_move (tmP rfl rfl)) ?_
   refine rg_take 1 rfl rfl (by kernel_rfl) (by kernel_rfl) (by kernel_rfl) (want_0) (fun w hok => x_move (tmP rfl rfl)) ?_
   refine rg_take 2 rfl rfl (by kernel_rfl) (by kernel_rfl) (by kernel_rfl) (want_0) (fun w hok => x_nil (A := none) (tmP rfl rfl)) ?_
   refine rg_take 3 rfl rfl (by kernel_rfl) (by kernel_rfl) (by kernel_rfl) (want_0) (fun w hok => x_fa 2 Try.underlying45 rfl rfl ts_25 (tmP rfl rfl)) ?_
   refine rg_take 5 rfl rfl (by kernel_rfl) (by kernel_rfl) (by kernel_rfl) (want_0) (fun w hok => x_move (tmP rfl rfl)) ?_
   refine rg_take 6 rfl rfl (by kernel_rfl) (by kernel_rfl) (by kernel_rfl) (want_0) (fun w hok => x_nil (A := none) (tmP rfl rfl)) ?_
   refine rg_take 7 rfl rfl (by kernel_rfl) (by kernel_rfl) (by kernel_rfl) (want_0) (fun w hok => x_fa 0 Try.underlying45 rfl rfl ts_25 (tmP rfl rfl)) ?_
   refine rg_take 9 rfl rfl (by kernel_rfl) (by kernel_rfl) (by kernel_rfl) (want_0) (fun w hok => x_move (tmI rfl rfl)) ?_
   refine rg_take 12 rfl rfl (by kernel_rfl) (by kernel_rfl) (by kernel_rfl) (want_0) (fun w hok => x_move (tmP rfl rfl)) ?_
   refine rg_take 13 rfl rfl (by kernel_rfl) (by kernel_rfl) (by kernel_rfl) (want_0) (fun w hok => x_nil (A := none) (tmP rfl rfl)) ?_
   refine rg_take 14 rfl rfl (by kernel_rfl) (by kernel_rfl) (by kernel_rfl) (want_0) (fun w hok => x_fa 1 Try.underlying45 rfl rfl ts_25 (tmP rfl rfl)) ?_
   refine rg_step3 4 8 15 rfl rfl rfl (by kernel_rfl) (want_0) (want_0) (want_0) (oks_drop hS 1 rfl) ?_ ?_ ?_
   · intro K hK
     first
      | refine ow_v (x_load Try.underlying25 rfl (tmP rfl rfl) (cellB hS.ok 0 rfl rfl)) ?_
     refine hK _ _ ?_; clear hK K
     refine rg_step2 8 15 rfl rfl (by kernel_rfl) (want_0) (want_0) (oks_drop hS 1 rfl) ?_ ?_
     · intro K hK
       first
        | refine ow_v (x_load Try.underlying25 rfl (tmP rfl rfl) (cellB hS.ok 0 rfl rfl)) ?_
       refine hK _ _ ?_; clear hK K
       first
        | refine rg_take 10 rfl rfl (by kernel_rfl) (by kernel_rfl) (by kernel_rfl) (want_0) (fun w hok => x_mulN (tmI rfl rfl) (tmI rfl rfl) (fit_u64 (by omega))) ?_
        | refine rg_take 10 rfl rfl (by kernel_rfl) (by kernel_rfl) (by kernel_rfl) (want_0) (fun w hok => x_mulI (tmI rfl rfl) (tmI rfl rfl) (IntWalk.u64_in _ (by omega))) ?_
        | refine rg_take 10 rfl rfl (by kernel_rfl) (by kernel_rfl) (by kernel_rfl) (want_0) (fun w hok => x_mulU (tmI rfl rfl) (tmI rfl rfl) rfl) ?_
        | refine rg_take 10 rfl rfl (by kernel_rfl) (by kernel_rfl) (by kernel_rfl) (want_0) (fun w hok => x_mul (tmI rfl rfl) (tmI rfl rfl)) ?_
       first
        | refine rg_take 11 rfl rfl (by kernel_rfl) (by kernel_rfl) (by kernel_rfl) (want_0) (fun w hok => x_addN (tmI rfl rfl) (tmI rfl rfl) (fit_u64 (by omega))) ?_
        | refine rg_take 11 rfl rfl (by kernel_rfl) (by kernel_rfl) (by kernel_rfl) (want_0) (fun w hok => x_addI (tmI rfl rfl) (tmI rfl rfl) (IntWalk.u64_in _ (by omega))) ?_
        | refine rg_take 11 rfl rfl (by kernel_rfl) (by kernel_rfl) (by kernel_rfl) (want_0) (fun w hok => x_addU (tmI rfl rfl) (tmI rfl rfl) rfl) ?_
        | refine rg_take 11 rfl rfl (by kernel_rfl) (by kernel_rfl) (by kernel_rfl) (want_0) (fun w hok => x_add (tmI rfl rfl) (tmI rfl rfl)) ?_
       refine rg_step 15 rfl (by kernel_rfl) (want_0) (oks_drop hS 1 rfl) ?_; intro K hK
       refine ow_v (x_load Try.underlying25 rfl (tmP rfl rfl) (cellB hS.ok 0 rfl rfl)) ?_
       refine hK _ _ ?_; clear hK K
       first
        | refine rg_take 16 rfl rfl (by kernel_rfl) (by kernel_rfl) (by kernel_rfl) (want_0) (fun w hok => x_min (tmI rfl rfl) (tmI rfl rfl)) ?_
        | refine rg_take 16 rfl rfl (by kernel_rfl) (by kernel_rfl) (by kernel_rfl) (want_0) (fun w hok => x_minI (tmI rfl rfl) (tmI rfl rfl)) ?_
       refine rg_take 17 rfl rfl (by kernel_rfl) (by kernel_rfl) (by kernel_rfl) (want_0) (fun w hok => x_nil (A := none) (tmP rfl rfl)) ?_
       refine rg_take 18 rfl rfl (by kernel_rfl) (by kernel_rfl) (by kernel_rfl) (want_0) (fun w hok => x_fa 2 Try.underlying45 rfl rfl ts_25 (tmP rfl rfl)) ?_
       refine rg_step 19 rfl (by kernel_rfl) (want_0) (oks_drop hS 1 rfl) ?_; intro K hK
       first
        | refine ow_store hS 0 rfl ts_25 (tmP rfl rfl) (tmI rfl rfl) rfl rfl ?_
        | refine ow_storeX hS 0 rfl ts_25 (tmP rfl rfl) (tmI rfl rfl) rfl (by simp; omega) ?_
        | refine ow_storeRs hS 0 rfl ts_25 (tmP rfl rfl) (tmI rfl rfl) rfl (by first | omega | (simp; omega)) ?_
        | refine ow_storeR hS 0 rfl ts_25 (tmP rfl rfl) (tmI rfl rfl) rfl (by first | omega | (simp; omega)) ?_
       clear hS; intro w hS
       refine hK _ _ ?_; clear hK K
       refine rg_done (oks_drop hS 1 rfl) (by kernel_rfl) ?_
       refine then_n (hK4 _ _ ?_); clear hK4 K4
       refine wlit ?_
       refine wl_v (x_move (tmP rfl rfl)) ?_
       refine wl_v (x_move (tmI rfl rfl)) ?_
       refine wl_v (x_nil (A := none) (tmP rfl rfl)) ?_
       refine wl_v (x_fa 3 Try.underlying45 rfl rfl ts_25 (tmP rfl rfl)) ?_
       refine wl_e rfl ?_; intro K hK
       first
        | refine ow_store hS 0 rfl ts_25 (tmP rfl rfl) (tmI rfl rfl) rfl rfl ?_
        | refine ow_storeX hS 0 rfl ts_25 (tmP rfl rfl) (tmI rfl rfl) rfl (by simp; omega) ?_
        | refine ow_storeRs hS 0 rfl ts_25 (tmP rfl rfl) (tmI rfl rfl) rfl (by first | omega | (simp; omega)) ?_
        | refine ow_storeR hS 0 rfl ts_25 (tmP rfl rfl) (tmI rfl rfl) rfl (by first | omega | (simp; omega)) ?_
       clear hS; intro w hS
       refine hK _ _ ?_; clear hK K
       refine wl_nil ?_
       refine end_n ?_
       refine ret0 rfl ?_
       exact ⟨rfl, hS⟩
     · intro K hK
       first
        | refine ow_v (x_load Try.underlying25 rfl (tmP rfl rfl) (cellB hS.ok 0 rfl rfl)) ?_
       refine hK _ _ ?_; clear hK K
       refine rg_step 8 rfl (by kernel_rfl) (want_0) (oks_drop hS 1 rfl) ?_; intro K hK
       refine ow_v (x_load Try.underlying25 rfl (tmP rfl rfl) (cellB hS.ok 0 rfl rfl)) ?_
       refine hK _ _ ?_; clear hK K
       first
        | refine rg_take 10 rfl rfl (by kernel_rfl) (by kernel_rfl) (by kernel_rfl) (want_0) (fun w hok => x_mulN (tmI rfl rfl) (tmI rfl rfl) (fit_u64 (by omega))) ?_
        | refine rg_take 10 rfl rfl (by kernel_rfl) (by kernel_rfl) (by kernel_rfl) (want_0) (fun w hok => x_mulI (tmI rfl rfl) (tmI rfl rfl) (IntWalk.u64_in _ (by omega))) ?_
        | refine rg_take 10 rfl rfl (by kernel_rfl) (by kernel_rfl) (by kernel_rfl) (want_0) (fun w hok => x_mulU (tmI rfl rfl) (tmI rfl rfl) rfl) ?_
        | refine rg_take 10 rfl rfl (by kernel_rfl) (by kernel_rfl) (by kernel_rfl) (want_0) (fun w hok => x_mul (tmI rfl rfl) (tmI rfl rfl)) ?_
       first
        | refine rg_take 11 rfl rfl (by kernel_rfl) (by kernel_rfl) (by kernel_rfl) (want_0) (fun w hok => x_addN (tmI rfl rfl) (tmI rfl rfl) (fit_u64 (by omega))) ?_
        | refine rg_take 11 rfl rfl (by kernel_rfl) (by kernel_rfl) (by kernel_rfl) (want_0) (fun w hok => x_addI (tmI rfl rfl) (tmI rfl rfl) (IntWalk.u64_in _ (by omega))) ?_
        | refine rg_take 11 rfl rfl (by kernel_rfl) (by kernel_rfl) (by kernel_rfl) (want_0) (fun w hok => x_addU (tmI rfl rfl) (tmI rfl rfl) rfl) ?_
        | refine rg_take 11 rfl rfl (by kernel_rfl) (by kernel_rfl) (by kernel_rfl) (want_0) (fun w hok => x_add (tmI rfl rfl) (tmI rfl rfl)) ?_
       first
        | refine rg_take 16 rfl rfl (by kernel_rfl) (by kernel_rfl) (by kernel_rfl) (want_0) (fun w hok => x_min (tmI rfl rfl) (tmI rfl rfl)) ?_
        | refine rg_take 16 rfl rfl (by kernel_rfl) (by kernel_rfl) (by kernel_rfl) (want_0) (fun w hok => x_minI (tmI rfl rfl) (tmI rfl rfl)) ?_
       refine rg_take 17 rfl rfl (by kernel_rfl) (by kernel_rfl) (by kernel_rfl) (want_0) (fun w hok => x_nil (A := none) (tmP rfl rfl)) ?_
       refine rg_take 18 rfl rfl (by kernel_rfl) (by kernel_rfl) (by kernel_rfl) (want_0) (fun w hok => x_fa 2 Try.underlying45 rfl rfl ts_25 (tmP rfl rfl)) ?_
       refine rg_step 19 rfl (by kernel_rfl) (want_0) (oks_drop hS 1 rfl) ?_; intro K hK
       first
        | refine ow_store hS 0 rfl ts_25 (tmP rfl rfl) (tmI rfl rfl) rfl rfl ?_
        | refine ow_storeX hS 0 rfl ts_25 (tmP rfl rfl) (tmI rfl rfl) rfl (by simp; omega) ?_
        | refine ow_storeRs hS 0 rfl ts_25 (tmP rfl rfl) (tmI rfl rfl) rfl (by first | omega | (simp; omega)) ?_
        | refine ow_storeR hS 0 rfl ts_25 (tmP rfl rfl) (tmI rfl rfl) rfl (by first | omega | (simp; omega)) ?_
       clear hS; intro w hS
       refine hK _ _ ?_; clear hK K
       refine rg_done (oks_drop hS 1 rfl) (by kernel_rfl) ?_
       refine then_n (hK4 _ _ ?_); clear hK4 K4
       refine wlit ?_
       refine wl_v (x_move (tmP rfl rfl)) ?_
       refine wl_v (x_move (tmI rfl rfl)) ?_
       refine wl_v (x_nil (A := none) (tmP rfl rfl)) ?_
       refine wl_v (x_fa 3 Try.underlying45 rfl rfl ts_25 (tmP rfl rfl)) ?_
       refine wl_e rfl ?_; intro K hK
       first
        | refine ow_store hS 0 rfl ts_25 (tmP rfl rfl) (tmI rfl rfl) rfl rfl ?_
        | refine ow_storeX hS 0 rfl ts_25 (tmP rfl rfl) (tmI rfl rfl) rfl (by simp; omega) ?_
        | refine ow_storeRs hS 0 rfl ts_25 (tmP rfl rfl) (tmI rfl rfl) rfl (by first | omega | (simp; omega)) ?_
        | refine ow_storeR hS 0 rfl ts_25 (tmP rfl rfl) (tmI rfl rfl) rfl (by first | omega | (simp; omega)) ?_
       clear hS; intro w hS
       refine hK _ _ ?_; clear hK K
       refine wl_nil ?_
       refine end_n ?_
       refine ret0 rfl ?_
       exact ⟨rfl, hS⟩
   · intro K hK
     first
      | refine ow_v (x_load Try.underlying25 rfl (tmP rfl rfl) (cellB hS.ok 0 rfl rfl)) ?_
     refine hK _ _ ?_; clear hK K
     first
      | refine rg_take 10 rfl rfl (by kernel_rfl) (by kernel_rfl) (by kernel_rfl) (want_0) (fun w hok => x_mulN (tmI rfl rfl) (tmI rfl rfl) (fit_u64 (by omega))) ?_
      | refine rg_take 10 rfl rfl (by kernel_rfl) (by kernel_rfl) (by kernel_rfl) (want_0) (fun w hok => x_mulI (tmI rfl rfl) (tmI rfl rfl) (IntWalk.u64_in _ (by omega))) ?_
      | refine rg_take 10 rfl rfl (by kernel_rfl) (by kernel_rfl) (by kernel_rfl) (want_0) (fun w hok => x_mulU (tmI rfl rfl) (tmI rfl rfl) rfl) ?_
      | refine rg_take 10 rfl rfl (by kernel_rfl) (by kernel_rfl) (by kernel_rfl) (want_0) (fun w hok => x_mul (tmI rfl rfl) (tmI rfl rfl)) ?_
     refine rg_step2 4 15 rfl rfl (by kernel_rfl) (want_0) (want_0) (oks_drop hS 1 rfl) ?_ ?_
     · intro K hK
       first
        | refine ow_v (x_load Try.underlying25 rfl (tmP rfl rfl) (cellB hS.ok 0 rfl rfl)) ?_
       refine hK _ _ ?_; clear hK K
       first
        | refine rg_take 11 rfl rfl (by kernel_rfl) (by kernel_rfl) (by kernel_rfl) (want_0) (fun w hok => x_addN (tmI rfl rfl) (tmI rfl rfl) (fit_u64 (by omega))) ?_
        | refine rg_take 11 rfl rfl (by kernel_rfl) (by kernel_rfl) (by kernel_rfl) (want_0) (fun w hok => x_addI (tmI rfl rfl) (tmI rfl rfl) (IntWalk.u64_in _ (by omega))) ?_
        | refine rg_take 11 rfl rfl (by kernel_rfl) (by kernel_rfl) (by kernel_rfl) (want_0) (fun w hok => x_addU (tmI rfl rfl) (tmI rfl rfl) rfl) ?_
        | refine rg_take 11 rfl rfl (by kernel_rfl) (by kernel_rfl) (by kernel_rfl) (want_0) (fun w hok => x_add (tmI rfl rfl) (tmI rfl rfl)) ?_
       refine rg_step 15 rfl (by kernel_rfl) (want_0) (oks_drop hS 1 rfl) ?_; intro K hK
       refine ow_v (x_load Try.underlying25 rfl (tmP rfl rfl) (cellB hS.ok 0 rfl rfl)) ?_
       refine hK _ _ ?_; clear hK K
       first
        | refine rg_take 16 rfl rfl (by kernel_rfl) (by kernel_rfl) (by kernel_rfl) (want_0) (fun w hok => x_min (tmI rfl rfl) (tmI rfl rfl)) ?_
        | refine rg_take 16 rfl rfl (by kernel_rfl) (by kernel_rfl) (by kernel_rfl) (want_0) (fun w hok => x_minI (tmI rfl rfl) (tmI rfl rfl)) ?_
       refine rg_take 17 rfl rfl (by kernel_rfl) (by kernel_rfl) (by kernel_rfl) (want_0) (fun w hok => x_nil (A := none) (tmP rfl rfl)) ?_
       refine rg_take 18 rfl rfl (by kernel_rfl) (by kernel_rfl) (by kernel_rfl) (want_0) (fun w hok => x_fa 2 Try.underlying45 rfl rfl ts_25 (tmP rfl rfl)) ?_
       refine rg_step 19 rfl (by kernel_rfl) (want_0) (oks_drop hS 1 rfl) ?_; intro K hK
       first
        | refine ow_store hS 0 rfl ts_25 (tmP rfl rfl) (tmI rfl rfl) rfl rfl ?_
        | refine ow_storeX hS 0 rfl ts_25 (tmP rfl rfl) (tmI rfl rfl) rfl (by simp; omega) ?_
        | refine ow_storeRs hS 0 rfl ts_25 (tmP rfl rfl) (tmI rfl rfl) rfl (by first | omega | (simp; omega)) ?_
        | refine ow_storeR hS 0 rfl ts_25 (tmP rfl rfl) (tmI rfl rfl) rfl (by first | omega | (simp; omega)) ?_
       clear hS; intro w hS
       refine hK _ _ ?_; clear hK K
       refine rg_done (oks_drop hS 1 rfl) (by kernel_rfl) ?_
       refine then_n (hK4 _ _ ?_); clear hK4 K4
       refine wlit ?_
       refine wl_v (x_move (tmP rfl rfl)) ?_
       refine wl_v (x_move (tmI rfl rfl)) ?_
       refine wl_v (x_nil (A := none) (tmP rfl rfl)) ?_
       refine wl_v (x_fa 3 Try.underlying45 rfl rfl ts_25 (tmP rfl rfl)) ?_
       refine wl_e rfl ?_; intro K hK
       first
        | refine ow_store hS 0 rfl ts_25 (tmP rfl rfl) (tmI rfl rfl) rfl rfl ?_
        | refine ow_storeX hS 0 rfl ts_25 (tmP rfl rfl) (tmI rfl rfl) rfl (by simp; omega) ?_
        | refine ow_storeRs hS 0 rfl ts_25 (tmP rfl rfl) (tmI rfl rfl) rfl (by first | omega | (simp; omega)) ?_
        | refine ow_storeR hS 0 rfl ts_25 (tmP rfl rfl) (tmI rfl rfl) rfl (by first | omega | (simp; omega)) ?_
       clear hS; intro w hS
       refine hK _ _ ?_; clear hK K
       refine wl_nil ?_
       refine end_n ?_
       refine ret0 rfl ?_
       exact ⟨rfl, hS⟩
     · intro K hK
       first
        | refine ow_v (x_load Try.underlying25 rfl (tmP rfl rfl) (cellB hS.ok 0 rfl rfl)) ?_
       refine hK _ _ ?_; clear hK K
       refine rg_step 4 rfl (by kernel_rfl) (want_0) (oks_drop hS 1 rfl) ?_; intro K hK
       refine ow_v (x_load Try.underlying25 rfl (tmP rfl rfl) (cellB hS.ok 0 rfl rfl)) ?_
       refine hK _ _ ?_; clear hK K
       first
        | refine rg_take 11 rfl rfl (by kernel_rfl) (by kernel_rfl) (by kernel_rfl) (want_0) (fun w hok => x_addN (tmI rfl rfl) (tmI rfl rfl) (fit_u64 (by omega))) ?_
        | refine rg_take 11 rfl rfl (by kernel_rfl) (by kernel_rfl) (by kernel_rfl) (want_0) (fun w hok => x_addI (tmI rfl rfl) (tmI rfl rfl) (IntWalk.u64_in _ (by omega))) ?_
        | refine rg_take 11 rfl rfl (by kernel_rfl) (by kernel_rfl) (by kernel_rfl) (want_0) (fun w hok => x_addU (tmI rfl rfl) (tmI rfl rfl) rfl) ?_
        | refine rg_take 11 rfl rfl (by kernel_rfl) (by kernel_rfl) (by kernel_rfl) (want_0) (fun w hok => x_add (tmI rfl rfl) (tmI rfl rfl)) ?_
       first
        | refine rg_take 16 rfl rfl (by kernel_rfl) (by kernel_rfl) (by kernel_rfl) (want_0) (fun w hok => x_min (tmI rfl rfl) (tmI rfl rfl)) ?_
        | refine rg_take 16 rfl rfl (by kernel_rfl) (by kernel_rfl) (by kernel_rfl) (want_0) (fun w hok => x_minI (tmI rfl rfl) (tmI rfl rfl)) ?_
       refine rg_take 17 rfl rfl (by kernel_rfl) (by kernel_rfl) (by kernel_rfl) (want_0) (fun w hok => x_nil (A := none) (tmP rfl rfl)) ?_
       refine rg_take 18 rfl rfl (by kernel_rfl) (by kernel_rfl) (by kernel_rfl) (want_0) (fun w hok => x_fa 2 Try.underlying45 rfl rfl ts_25 (tmP rfl rfl)) ?_
       refine rg_step 19 rfl (by kernel_rfl) (want_0) (oks_drop hS 1 rfl) ?_; intro K hK
       first
        | refine ow_store hS 0 rfl ts_25 (tmP rfl rfl) (tmI rfl rfl) rfl rfl ?_
        | refine ow_storeX hS 0 rfl ts_25 (tmP rfl rfl) (tmI rfl rfl) rfl (by simp; omega) ?_
        | refine ow_storeRs hS 0 rfl ts_25 (tmP rfl rfl) (tmI rfl rfl) rfl (by first | omega | (simp; omega)) ?_
        | refine ow_storeR hS 0 rfl ts_25 (tmP rfl rfl) (tmI rfl rfl) rfl (by first | omega | (simp; omega)) ?_
       clear hS; intro w hS
       refine hK _ _ ?_; clear hK K
       refine rg_done (oks_drop hS 1 rfl) (by kernel_rfl) ?_
       refine then_n (hK4 _ _ ?_); clear hK4 K4
       refine wlit ?_
       refine wl_v (x_move (tmP rfl rfl)) ?_
       refine wl_v (x_move (tmI rfl rfl)) ?_
       refine wl_v (x_nil (A := none) (tmP rfl rfl)) ?_
       refine wl_v (x_fa 3 Try.underlying45 rfl rfl ts_25 (tmP rfl rfl)) ?_
       refine wl_e rfl ?_; intro K hK
       first
        | refine ow_store hS 0 rfl ts_25 (tmP rfl rfl) (tmI rfl rfl) rfl rfl ?_
        | refine ow_storeX hS 0 rfl ts_25 (tmP rfl rfl) (tmI rfl rfl) rfl (by simp; omega) ?_
        | refine ow_storeRs hS 0 rfl ts_25 (tmP rfl rfl) (tmI rfl rfl) rfl (by first | omega | (simp; omega)) ?_
        | refine ow_storeR hS 0 rfl ts_25 (tmP rfl rfl) (tmI rfl rfl) rfl (by first | omega | (simp; omega)) ?_
       clear hS; intro w hS
       refine hK _ _ ?_; clear hK K
       refine wl_nil ?_
       refine end_n ?_
       refine ret0 rfl ?_
       exact ⟨rfl, hS⟩
   · intro K hK
     first
      | refine ow_v (x_load Try.underlying25 rfl (tmP rfl rfl) (cellB hS.ok 0 rfl rfl)) ?_
     refine hK _ _ ?_; clear hK K
     refine rg_step2 4 8 rfl rfl (by kernel_rfl) (want_0) (want_0) (oks_drop hS 1 rfl) ?_ ?_
     · intro K hK
       first
        | refine ow_v (x_load Try.underlying25 rfl (tmP rfl rfl) (cellB hS.ok 0 rfl rfl)) ?_
       refine hK _ _ ?_; clear hK K
       refine rg_step 8 rfl (by kernel_rfl) (want_0) (oks_drop hS 1 rfl) ?_; intro K hK
       refine ow_v (x_load Try.underlying25 rfl (tmP rfl rfl) (cellB hS.ok 0 rfl rfl)) ?_
       refine hK _ _ ?_; clear hK K
       first
        | refine rg_take 10 rfl rfl (by kernel_rfl) (by kernel_rfl) (by kernel_rfl) (want_0) (fun w hok => x_mulN (tmI rfl rfl) (tmI rfl rfl) (fit_u64 (by omega))) ?_
        | refine rg_take 10 rfl rfl (by kernel_rfl) (by kernel_rfl) (by kernel_rfl) (want_0) (fun w hok => x_mulI (tmI rfl rfl) (tmI rfl rfl) (IntWalk.u64_in _ (by omega))) ?_
        | refine rg_take 10 rfl rfl (by kernel_rfl) (by kernel_rfl) (by kernel_rfl) (want_0) (fun w hok => x_mulU (tmI rfl rfl) (tmI rfl rfl) rfl) ?_
        | refine rg_take 10 rfl rfl (by kernel_rfl) (by kernel_rfl) (by kernel_rfl) (want_0) (fun w hok => x_mul (tmI rfl rfl) (tmI rfl rfl)) ?_
       first
        | refine rg_take 11 rfl rfl (by kernel_rfl) (by kernel_rfl) (by kernel_rfl) (want_0) (fun w hok => x_addN (tmI rfl rfl) (tmI rfl rfl) (fit_u64 (by omega))) ?_
        | refine rg_take 11 rfl rfl (by kernel_rfl) (by kernel_rfl) (by kernel_rfl) (want_0) (fun w hok => x_addI (tmI rfl rfl) (tmI rfl rfl) (IntWalk.u64_in _ (by omega))) ?_
        | refine rg_take 11 rfl rfl (by kernel_rfl) (by kernel_rfl) (by kernel_rfl) (want_0) (fun w hok => x_addU (tmI rfl rfl) (tmI rfl rfl) rfl) ?_
        | refine rg_take 11 rfl rfl (by kernel_rfl) (by kernel_rfl) (by kernel_rfl) (want_0) (fun w hok => x_add (tmI rfl rfl) (tmI rfl rfl)) ?_
       first
        | refine rg_take 16 rfl rfl (by kernel_rfl) (by kernel_rfl) (by kernel_rfl) (want_0) (fun w hok => x_min (tmI rfl rfl) (tmI rfl rfl)) ?_
        | refine rg_take 16 rfl rfl (by kernel_rfl) (by kernel_rfl) (by kernel_rfl) (want_0) (fun w hok => x_minI (tmI rfl rfl) (tmI rfl rfl)) ?_
       refine rg_take 17 rfl rfl (by kernel_rfl) (by kernel_rfl) (by kernel_rfl) (want_0) (fun w hok => x_nil (A := none) (tmP rfl rfl)) ?_
       refine rg_take 18 rfl rfl (by kernel_rfl) (by kernel_rfl) (by kernel_rfl) (want_0) (fun w hok => x_fa 2 Try.underlying45 rfl rfl ts_25 (tmP rfl rfl)) ?_
       refine rg_step 19 rfl (by kernel_rfl) (want_0) (oks_drop hS 1 rfl) ?_; intro K hK
       first
        | refine ow_store hS 0 rfl ts_25 (tmP rfl rfl) (tmI rfl rfl) rfl rfl ?_
        | refine ow_storeX hS 0 rfl ts_25 (tmP rfl rfl) (tmI rfl rfl) rfl (by simp; omega) ?_
        | refine ow_storeRs hS 0 rfl ts_25 (tmP rfl rfl) (tmI rfl rfl) rfl (by first | omega | (simp; omega)) ?_
        | refine ow_storeR hS 0 rfl ts_25 (tmP rfl rfl) (tmI rfl rfl) rfl (by first | omega | (simp; omega)) ?_
       clear hS; intro w hS
       refine hK _ _ ?_; clear hK K
       refine rg_done (oks_drop hS 1 rfl) (by kernel_rfl) ?_
       refine then_n (hK4 _ _ ?_); clear hK4 K4
       refine wlit ?_
       refine wl_v (x_move (tmP rfl rfl)) ?_
       refine wl_v (x_move (tmI rfl rfl)) ?_
       refine wl_v (x_nil (A := none) (tmP rfl rfl)) ?_
       refine wl_v (x_fa 3 Try.underlying45 rfl rfl ts_25 (tmP rfl rfl)) ?_
       refine wl_e rfl ?_; intro K hK
       first
        | refine ow_store hS 0 rfl ts_25 (tmP rfl rfl) (tmI rfl rfl) rfl rfl ?_
        | refine ow_storeX hS 0 rfl ts_25 (tmP rfl rfl) (tmI rfl rfl) rfl (by simp; omega) ?_
        | refine ow_storeRs hS 0 rfl ts_25 (tmP rfl rfl) (tmI rfl rfl) rfl (by first | omega | (simp; omega)) ?_
        | refine ow_storeR hS 0 rfl ts_25 (tmP rfl rfl) (tmI rfl rfl) rfl (by first | omega | (simp; omega)) ?_
       clear hS; intro w hS
       refine hK _ _ ?_; clear hK K
       refine wl_nil ?_
       refine end_n ?_
       refine ret0 rfl ?_
       exact ⟨rfl, hS⟩
     · intro K hK
       first
        | refine ow_v (x_load Try.underlying25 rfl (tmP rfl rfl) (cellB hS.ok 0 rfl rfl)) ?_
       refine hK _ _ ?_; clear hK K
       first
        | refine rg_take 10 rfl rfl (by kernel_rfl) (by kernel_rfl) (by kernel_rfl) (want_0) (fun w hok => x_mulN (tmI rfl rfl) (tmI rfl rfl) (fit_u64 (by omega))) ?_
        | refine rg_take 10 rfl rfl (by kernel_rfl) (by kernel_rfl) (by kernel_rfl) (want_0) (fun w hok => x_mulI (tmI rfl rfl) (tmI rfl rfl) (IntWalk.u64_in _ (by omega))) ?_
        | refine rg_take 10 rfl rfl (by kernel_rfl) (by kernel_rfl) (by kernel_rfl) (want_0) (fun w hok => x_mulU (tmI rfl rfl) (tmI rfl rfl) rfl) ?_
        | refine rg_take 10 rfl rfl (by kernel_rfl) (by kernel_rfl) (by kernel_rfl) (want_0) (fun w hok => x_mul (tmI rfl rfl) (tmI rfl rfl)) ?_
       refine rg_step 4 rfl (by kernel_rfl) (want_0) (oks_drop hS 1 rfl) ?_; intro K hK
       refine ow_v (x_load Try.underlying25 rfl (tmP rfl rfl) (cellB hS.ok 0 rfl rfl)) ?_
       refine hK _ _ ?_; clear hK K
       first
        | refine rg_take 11 rfl rfl (by kernel_rfl) (by kernel_rfl) (by kernel_rfl) (want_0) (fun w hok => x_addN (tmI rfl rfl) (tmI rfl rfl) (fit_u64 (by omega))) ?_
        | refine rg_take 11 rfl rfl (by kernel_rfl) (by kernel_rfl) (by kernel_rfl) (want_0) (fun w hok => x_addI (tmI rfl rfl) (tmI rfl rfl) (IntWalk.u64_in _ (by omega))) ?_
        | refine rg_take 11 rfl rfl (by kernel_rfl) (by kernel_rfl) (by kernel_rfl) (want_0) (fun w hok => x_addU (tmI rfl rfl) (tmI rfl rfl) rfl) ?_
        | refine rg_take 11 rfl rfl (by kernel_rfl) (by kernel_rfl) (by kernel_rfl) (want_0) (fun w hok => x_add (tmI rfl rfl) (tmI rfl rfl)) ?_
       first
        | refine rg_take 16 rfl rfl (by kernel_rfl) (by kernel_rfl) (by kernel_rfl) (want_0) (fun w hok => x_min (tmI rfl rfl) (tmI rfl rfl)) ?_
        | refine rg_take 16 rfl rfl (by kernel_rfl) (by kernel_rfl) (by kernel_rfl) (want_0) (fun w hok => x_minI (tmI rfl rfl) (tmI rfl rfl)) ?_
       refine rg_take 17 rfl rfl (by kernel_rfl) (by kernel_rfl) (by kernel_rfl) (want_0) (fun w hok => x_nil (A := none) (tmP rfl rfl)) ?_
       refine rg_take 18 rfl rfl (by kernel_rfl) (by kernel_rfl) (by kernel_rfl) (want_0) (fun w hok => x_fa 2 Try.underlying45 rfl rfl ts_25 (tmP rfl rfl)) ?_
       refine rg_step 19 rfl (by kernel_rfl) (want_0) (oks_drop hS 1 rfl) ?_; intro K hK
       first
        | refine ow_store hS 0 rfl ts_25 (tmP rfl rfl) (tmI rfl rfl) rfl rfl ?_
        | refine ow_storeX hS 0 rfl ts_25 (tmP rfl rfl) (tmI rfl rfl) rfl (by simp; omega) ?_
        | refine ow_storeRs hS 0 rfl ts_25 (tmP rfl rfl) (tmI rfl rfl) rfl (by first | omega | (simp; omega)) ?_
        | refine ow_storeR hS 0 rfl ts_25 (tmP rfl rfl) (tmI rfl rfl) rfl (by first | omega | (simp; omega)) ?_
       clear hS; intro w hS
       refine hK _ _ ?_; clear hK K
       refine rg_done (oks_drop hS 1 rfl) (by kernel_rfl) ?_
       refine then_n (hK4 _ _ ?_); clear hK4 K4
       refine wlit ?_
       refine wl_v (x_move (tmP rfl rfl)) ?_
       refine wl_v (x_move (tmI rfl rfl)) ?_
       refine wl_v (x_nil (A := none) (tmP rfl rfl)) ?_
       refine wl_v (x_fa 3 Try.underlying45 rfl rfl ts_25 (tmP rfl rfl)) ?_
       refine wl_e rfl ?_; intro K hK
       first
        | refine ow_store hS 0 rfl ts_25 (tmP rfl rfl) (tmI rfl rfl) rfl rfl ?_
        | refine ow_storeX hS 0 rfl ts_25 (tmP rfl rfl) (tmI rfl rfl) rfl (by simp; omega) ?_
        | refine ow_storeRs hS 0 rfl ts_25 (tmP rfl rfl) (tmI rfl rfl) rfl (by first | omega | (simp; omega)) ?_
        | refine ow_storeR hS 0 rfl ts_25 (tmP rfl rfl) (tmI rfl rfl) rfl (by first | omega | (simp; omega)) ?_
       clear hS; intro w hS
       refine hK _ _ ?_; clear hK K
       refine wl_nil ?_
       refine end_n ?_
       refine ret0 rfl ?_
       exact ⟨rfl, hS⟩
set_option maxRecDepth 100000 in
set_option maxHeartbeats 4000000 in
theorem take_a (F : List Nat) (gb : Nat) (w0 : World) (hS : St F w0 [.blk gb 45 [u64v 1, u64v 2, u64v 2, u64v 0]] w0) :
    Calls Try.prog 11 #[.pointer (some ⟨gb, 0, none⟩), .int .u64 ((2 : Nat) : Int), .int .u64 ((0 : Nat) : Int)] w0 fun e w' => e = .returned (.bool true) ∧ St F w0 [.blk gb 45 [u64v 1, u64v 2, u64v 0, u64v 0]] w' := by
  refine ent (n := 26) Try.func11 rfl rfl ?_
  refine wp_seq_k ?_; intro K1 hK1
  refine wlit ?_
  refine wl_v (x_assign ev_c) ?_
  refine wl_nil ?_
  refine then_n (hK1 _ _ ?_); clear hK1 K1
  refine wp_seq_k ?_; intro K2 hK2
  refine wp_seq_k ?_; intro K3 hK3
  refine wlit ?_
  refine wl_v (x_move (tmP rfl rfl)) ?_
  first
   | refine wl_v (x_peql Try.underlying37 (tmP rfl rfl) ev_c) ?_
   | refine wl_v (x_peqln Try.underlying37 (tmP rfl rfl) ev_c) ?_
  refine wl_nil ?_
  refine then_n (hK3 _ _ ?_); clear hK3 K3
  refine cnd (tm rfl) (fun hc0 => ?_) (fun hc0 => ?_)
  · exfalso
    cases hc0
  try (exfalso; first | with_reducible exact absurd hc0 Bool.false_ne_true | with_reducible exact absurd hc0.symm Bool.false_ne_true | (simp only [nrm] at hc0; omega) | (simp at hc0; done))
  all_goals
   try simp only [nrm] at hc0
   refine wp_skip ?_
   refine then_n (hK2 _ _ ?_); clear hK2 K2
   refine wp_seq_k ?_; intro K4 hK4
   refine wlit ?_
   refine wl_v (x_move (tmP rfl rfl)) ?_
   refine wl_v (x_move (tmI rfl rfl)) ?_
   refine wl_e rfl ?_; intro K hK
   refine ow_call Try.func15 rfl rfl (evs_cons (tmP rfl rfl) <| evs_cons (tmI rfl rfl) <| evs_nil) (refill_a _ gb _ (hS.enter [0] [] rfl rfl)) ?_
   rintro e w ⟨rfl, hS2⟩
   refine ⟨_, rfl, ?_⟩
   replace hS := hS.leave [0] [] rfl rfl rfl (hS2.pick [0] rfl rfl) rfl
   clear hS2
   try replace hS := St.nm (M' := [_]) hS rfl
   refine hK _ _ ?_; clear hK K
   refine wl_nil ?_
   refine then_n (hK4 _ _ ?_); clear hK4 K4
   refine wp_seq_k ?_; intro K5 hK5
   refine wp_seq_k ?_; intro K6 hK6
   refine wlit ?_
   refine wl_v (x_move (tmP rfl rfl)) ?_
   refine wl_v (x_nil (A := none) (tmP rfl rfl)) ?_
   refine wl_v (x_fa 2 Try.underlying45 rfl rfl ts_25 (tmP rfl rfl)) ?_
   refine wl_v (x_load Try.underlying25 rfl (tmP rfl rfl) (cellB hS.ok 0 rfl rfl)) ?_
   refine wl_v (x_move (tmI rfl rfl)) ?_
   refine wl_v (x_lss (tmI rfl rfl) (tmI rfl rfl)) ?_
   refine wl_nil ?_
   refine then_n (hK6 _ _ ?_); clear hK6 K6
   refine cnd (tm rfl) (fun hc1 => ?_) (fun hc1 => ?_)
   · exfalso
     simp at hc1
   try (exfalso; first | with_reducible exact absurd hc1 Bool.false_ne_true | with_reducible exact absurd hc1.symm Bool.false_ne_true | (simp only [nrm] at hc1; omega) | (simp at hc1; done))
   all_goals
    try simp only [nrm] at hc1
    refine wp_skip ?_
    refine then_n (hK5 _ _ ?_); clear hK5 K5
    refine wp_seq_k ?_; intro K7 hK7
    refine wlit ?_
    refine wl_v (x_move (tmP rfl rfl)) ?_
    refine wl_v (x_nil (A := none) (tmP rfl rfl)) ?_
    refine wl_v (x_fa 2 Try.underlying45 rfl rfl ts_25 (tmP rfl rfl)) ?_
    refine wl_v (x_load Try.underlying25 rfl (tmP rfl rfl) (cellB hS.ok 0 rfl rfl)) ?_
    refine wl_v (x_move (tmI rfl rfl)) ?_
    first
     | refine wl_v (x_subN (tmI rfl rfl) (tmI rfl rfl) (fit_u64 (by omega)) (by omega)) ?_
     | refine wl_v (x_subI (tmI rfl rfl) (tmI rfl rfl) (IntWalk.u64_in _ (by omega))) ?_
     | refine wl_v (x_subU (tmI rfl rfl) (tmI rfl rfl) rfl (fit_u64 (by omega))) ?_
     | refine wl_v (x_sub (tmI rfl rfl) (tmI rfl rfl)) ?_
    refine wl_v (x_nil (A := none) (tmP rfl rfl)) ?_
    refine wl_v (x_fa 2 Try.underlying45 rfl rfl ts_25 (tmP rfl rfl)) ?_
    refine wl_e rfl ?_; intro K hK
    first
     | refine ow_store hS 0 rfl ts_25 (tmP rfl rfl) (tmI rfl rfl) rfl rfl ?_
     | refine ow_storeX hS 0 rfl ts_25 (tmP rfl rfl) (tmI rfl rfl) rfl (by simp; omega) ?_
     | refine ow_storeRs hS 0 rfl ts_25 (tmP rfl rfl) (tmI rfl rfl) rfl (by first | omega | (simp; omega)) ?_
     | refine ow_storeR hS 0 rfl ts_25 (tmP rfl rfl) (tmI rfl rfl) rfl (by first | omega | (simp; omega)) ?_
    clear hS; intro w hS
    refine hK _ _ ?_; clear hK K
    refine wl_nil ?_
    refine then_n (hK7 _ _ ?_); clear hK7 K7
    refine wp_seq_k ?_; intro K8 hK8
    refine wlit ?_
    refine wl_v (x_assign ev_c) ?_
    refine wl_nil ?_
    refine then_n (hK8 _ _ ?_); clear hK8 K8
    refine wp_ret ?_
    refine ret1 rfl (.tmp rfl (show _ = Value.bool _ from rfl)) ?_
    exact ⟨rfl, hS⟩
set_option maxRecDepth 100000 in
set_option maxHeartbeats 4000000 in
theorem take_b (F : List Nat) (gb : Nat) (w0 : World) (hS : St F w0 [.blk gb 45 [u64v 1, u64v 2, u64v 0, u64v 0]] w0) :
    Calls Try.prog 11 #[.pointer (some ⟨gb, 0, none⟩), .int .u64 ((1 : Nat) : Int), .int .u64 ((0 : Nat) : Int)] w0 fun e w' => e = .returned (.bool false) ∧ St F w0 [.blk gb 45 [u64v 1, u64v 2, u64v 0, u64v 0]] w' := by
  refine ent (n := 26) Try.func11 rfl rfl ?_
  refine wp_seq_k ?_; intro K1 hK1
  refine wlit ?_
  refine wl_v (x_assign ev_c) ?_
  refine wl_nil ?_
  refine then_n (hK1 _ _ ?_); clear hK1 K1
  refine wp_seq_k ?_; intro K2 hK2
  refine wp_seq_k ?_; intro K3 hK3
  refine wlit ?_
  refine wl_v (x_move (tmP rfl rfl)) ?_
  first
   | refine wl_v (x_peql Try.underlying37 (tmP rfl rfl) ev_c) ?_
   | refine wl_v (x_peqln Try.underlying37 (tmP rfl rfl) ev_c) ?_
  refine wl_nil ?_
  refine then_n (hK3 _ _ ?_); clear hK3 K3
  refine cnd (tm rfl) (fun hc0 => ?_) (fun hc0 => ?_)
  · exfalso
    cases hc0
  try (exfalso; first | with_reducible exact absurd hc0 Bool.false_ne_true | with_reducible exact absurd hc0.symm Bool.false_ne_true | (simp only [nrm] at hc0; omega) | (simp at hc0; done))
  all_goals
   try simp only [nrm] at hc0
   refine wp_skip ?_
   refine then_n (hK2 _ _ ?_); clear hK2 K2
   refine wp_seq_k ?_; intro K4 hK4
   refine wlit ?_
   refine wl_v (x_move (tmP rfl rfl)) ?_
   refine wl_v (x_move (tmI rfl rfl)) ?_
   refine wl_e rfl ?_; intro K hK
   refine ow_call Try.func15 rfl rfl (evs_cons (tmP rfl rfl) <| evs_cons (tmI rfl rfl) <| evs_nil) (refill_b _ gb _ (hS.enter [0] [] rfl rfl)) ?_
   rintro e w ⟨rfl, hS2⟩
   refine ⟨_, rfl, ?_⟩
   replace hS := hS.leave [0] [] rfl rfl rfl (hS2.pick [0] rfl rfl) rfl
   clear hS2
   try replace hS := St.nm (M' := [_]) hS rfl
   refine hK _ _ ?_; clear hK K
   refine wl_nil ?_
   refine then_n (hK4 _ _ ?_); clear hK4 K4
   refine wp_seq_k ?_; intro K5 hK5
   refine wp_seq_k ?_; intro K6 hK6
   refine wlit ?_
   refine wl_v (x_move (tmP rfl rfl)) ?_
   refine wl_v (x_nil (A := none) (tmP rfl rfl)) ?_
   refine wl_v (x_fa 2 Try.underlying45 rfl rfl ts_25 (tmP rfl rfl)) ?_
   refine wl_v (x_load Try.underlying25 rfl (tmP rfl rfl) (cellB hS.ok 0 rfl rfl)) ?_
   refine wl_v (x_move (tmI rfl rfl)) ?_
   refine wl_v (x_lss (tmI rfl rfl) (tmI rfl rfl)) ?_
   refine wl_nil ?_
   refine then_n (hK6 _ _ ?_); clear hK6 K6
   refine cnds (tm rfl) (fun hc1 => ?_) (fun hc1 => ?_)
   · exfalso
     simp at hc1
   try (exfalso; first | with_reducible exact absurd hc1 Bool.false_ne_true | with_reducible exact absurd hc1.symm Bool.false_ne_true | (simp only [nrm] at hc1; omega) | (simp at hc1; done))
   all_goals
    try simp only [nrm] at hc1
    refine wp_seq_k ?_; intro K7 hK7
    refine wlit ?_
    refine wl_v (x_assign ev_c) ?_
    refine wl_nil ?_
    refine then_n (hK7 _ _ ?_); clear hK7 K7
    refine wp_ret ?_
    refine then_r ?_
    refine ret1 rfl (.tmp rfl (show _ = Value.bool _ from rfl)) ?_
    exact ⟨rfl, hS⟩
set_option maxRecDepth 100000 in
set_option maxHeartbeats 4000000 in
theorem take_d (F : List Nat) (gb : Nat) (w0 : World) (hS : St F w0 [.blk gb 45 [u64v 1, u64v 2, u64v 0, u64v 0]] w0) :
    Calls Try.prog 11 #[.pointer (some ⟨gb, 0, none⟩), .int .u64 ((1 : Nat) : Int), .int .u64 ((1 : Nat) : Int)] w0 fun e w' => e = .returned (.bool true) ∧ St F w0 [.blk gb 45 [u64v 1, u64v 2, u64v 0, u64v 1]] w' := by
  refine ent (n := 26) Try.func11 rfl rfl ?_
  refine wp_seq_k ?_; intro K1 hK1
  refine wlit ?_
  refine wl_v (x_assign ev_c) ?_
  refine wl_nil ?_
  refine then_n (hK1 _ _ ?_); clear hK1 K1
  refine wp_seq_k ?_; intro K2 hK2
  refine wp_seq_k ?_; intro K3 hK3
  refine wlit ?_
  refine wl_v (x_move (tmP rfl rfl)) ?_
  first
   | refine wl_v (x_peql Try.underlying37 (tmP rfl rfl) ev_c) ?_
   | refine wl_v (x_peqln Try.underlying37 (tmP rfl rfl) ev_c) ?_
  refine wl_nil ?_
  refine then_n (hK3 _ _ ?_); clear hK3 K3
  refine cnd (tm rfl) (fun hc0 => ?_) (fun hc0 => ?_)
  · exfalso
    cases hc0
  try (exfalso; first | with_reducible exact absurd hc0 Bool.false_ne_true | with_reducible exact absurd hc0.symm Bool.false_ne_true | (simp only [nrm] at hc0; omega) | (simp at hc0; done))
  all_goals
   try simp only [nrm] at hc0
   refine wp_skip ?_
   refine then_n (hK2 _ _ ?_); clear hK2 K2
   refine wp_seq_k ?_; intro K4 hK4
   refine wlit ?_
   refine wl_v (x_move (tmP rfl rfl)) ?_
   refine wl_v (x_move (tmI rfl rfl)) ?_
   refine wl_e rfl ?_; intro K hK
   refine ow_call Try.func15 rfl rfl (evs_cons (tmP rfl rfl) <| evs_cons (tmI rfl rfl) <| evs_nil) (refill_d _ gb _ (hS.enter [0] [] rfl rfl)) ?_
   rintro e w ⟨rfl, hS2⟩
   refine ⟨_, rfl, ?_⟩
   replace hS := hS.leave [0] [] rfl rfl rfl (hS2.pick [0] rfl rfl) rfl
   clear hS2
   try replace hS := St.nm (M' := [_]) hS rfl
   refine hK _ _ ?_; clear hK K
   refine wl_nil ?_
   refine then_n (hK4 _ _ ?_); clear hK4 K4
   refine wp_seq_k ?_; intro K5 hK5
   refine wp_seq_k ?_; intro K6 hK6
   refine wlit ?_
   refine wl_v (x_move (tmP rfl rfl)) ?_
   refine wl_v (x_nil (A := none) (tmP rfl rfl)) ?_
   refine wl_v (x_fa 2 Try.underlying45 rfl rfl ts_25 (tmP rfl rfl)) ?_
   refine wl_v (x_load Try.underlying25 rfl (tmP rfl rfl) (cellB hS.ok 0 rfl rfl)) ?_
   refine wl_v (x_move (tmI rfl rfl)) ?_
   refine wl_v (x_lss (tmI rfl rfl) (tmI rfl rfl)) ?_
   refine wl_nil ?_
   refine then_n (hK6 _ _ ?_); clear hK6 K6
   refine cnd (tm rfl) (fun hc1 => ?_) (fun hc1 => ?_)
   · exfalso
     simp at hc1
   try (exfalso; first | with_reducible exact absurd hc1 Bool.false_ne_true | with_reducible exact absurd hc1.symm Bool.false_ne_true | (simp only [nrm] at hc1; omega) | (simp at hc1; done))
   all_goals
    try simp only [nrm] at hc1
    refine wp_skip ?_
    refine then_n (hK5 _ _ ?_); clear hK5 K5
    refine wp_seq_k ?_; intro K7 hK7
    refine wlit ?_
    refine wl_v (x_move (tmP rfl rfl)) ?_
    refine wl_v (x_nil (A := none) (tmP rfl rfl)) ?_
    refine wl_v (x_fa 2 Try.underlying45 rfl rfl ts_25 (tmP rfl rfl)) ?_
    refine wl_v (x_load Try.underlying25 rfl (tmP rfl rfl) (cellB hS.ok 0 rfl rfl)) ?_
    refine wl_v (x_move (tmI rfl rfl)) ?_
    first
     | refine wl_v (x_subN (tmI rfl rfl) (tmI rfl rfl) (fit_u64 (by omega)) (by omega)) ?_
     | refine wl_v (x_subI (tmI rfl rfl) (tmI rfl rfl) (IntWalk.u64_in _ (by omega))) ?_
     | refine wl_v (x_subU (tmI rfl rfl) (tmI rfl rfl) rfl (fit_u64 (by omega))) ?_
     | refine wl_v (x_sub (tmI rfl rfl) (tmI rfl rfl)) ?_
    refine wl_v (x_nil (A := none) (tmP rfl rfl)) ?_
    refine wl_v (x_fa 2 Try.underlying45 rfl rfl ts_25 (tmP rfl rfl)) ?_
    refine wl_e rfl ?_; intro K hK
    first
     | refine ow_store hS 0 rfl ts_25 (tmP rfl rfl) (tmI rfl rfl) rfl rfl ?_
     | refine ow_storeX hS 0 rfl ts_25 (tmP rfl rfl) (tmI rfl rfl) rfl (by simp; omega) ?_
     | refine ow_storeRs hS 0 rfl ts_25 (tmP rfl rfl) (tmI rfl rfl) rfl (by first | omega | (simp; omega)) ?_
     | refine ow_storeR hS 0 rfl ts_25 (tmP rfl rfl) (tmI rfl rfl) rfl (by first | omega | (simp; omega)) ?_
    clear hS; intro w hS
    refine hK _ _ ?_; clear hK K
    refine wl_nil ?_
    refine then_n (hK7 _ _ ?_); clear hK7 K7
    refine wp_seq_k ?_; intro K8 hK8
    refine wlit ?_
    refine wl_v (x_assign ev_c) ?_
    refine wl_nil ?_
    refine then_n (hK8 _ _ ?_); clear hK8 K8
    refine wp_ret ?_
    refine ret1 rfl (.tmp rfl (show _ = Value.bool _ from rfl)) ?_
    exact ⟨rfl, hS⟩
end HistC
end Go.Proofs.Ytmkieoinmfkofaa
