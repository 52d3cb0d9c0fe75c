
/- smooth's Pick inside of a Chooser (its Smooth is the block's second cell), by contract. Conditions: none but bounds. -/
import Derived.Test.YteocdobepgbnkaaSmoothJ
namespace Go.Proofs.Yteocdobepgbnkaa
open Go.RowKit
theorem viewB1 {M : List Ent} {w : World} (hok : ∀ x ∈ M, x.ok w) {g : Nat} {t : TypeId} {x y : Value} (i : Nat) (hM : M[i]? = some (.blk g t [x, y])) : View w w.heap.size (some ⟨g, 1, none⟩) [y] := by
  intro _
  obtain ⟨b, o, e, hlt, _⟩ := viewB hok i hM (by simp)
  injection e with e
  injection e with e1 e2
  subst e1
  refine ⟨g, 1, rfl, hlt, fun j u hj => ?_⟩
  match j, hj with
  | 0, hj => exact (cellB hok i hM (o := 1) rfl).trans (by simpa using hj)
set_option maxRecDepth 100000 in
set_option maxHeartbeats 4000000 in
theorem i_knows_yes (gs : Nat) (K : Option Addr) (m ck : Nat) (ks : List Cr) (n : Nat) (A : Option Addr) (c : Nat) (l : List Cn) (w0 : World) (hvs : View w0 w0.heap.size (some ⟨gs, 1, none⟩) [.slice K m ck]) (hvk : View w0 w0.heap.size K (flat crV ks)) (hv : View w0 w0.heap.size A (flat cnV l))
    (hl : l.length = n) (hm : ks.length = m) (hn4 : n ≤ 1000000) (hsame : SameP l ks) :
    Calls Try.prog 20 #[.pointer (some ⟨gs, 1, none⟩), .slice A n c] w0 fun e w' => e = .returned (.bool true) ∧ Kp [] w0 w' := by
  have hS := (((St.sv w0).vcons rfl hv).vcons rfl hvk).vcons rfl hvs
  have hnm : n = m := by rw [← hl, ← hm]; exact hsame.1
  refine ent (n := 47) Try.func20 rfl rfl ?_
  refine wp_seq_k ?_; intro K1 hK1
  refine wlit ?_
  refine wl_v (x_assign ev_c) ?_
  refine wl_nil ?_
  refine then_n (hK1 _ _ ?_); clear hK1 K1
  refine wp_seq_k ?_; intro K2 hK2
  refine wp_seq_k ?_; intro K3 hK3
  refine wlit ?_
  refine wl_v (x_move (tmS rfl rfl)) ?_
  refine wl_v (x_len Try.underlying36 (tmS rfl rfl)) ?_
  refine wl_v (x_move (tmP rfl rfl)) ?_
  refine wl_v (x_nil (A := none) (tmP rfl rfl)) ?_
  refine wl_v (x_fa 0 Try.underlying27 rfl rfl ts_25 (tmP rfl rfl)) ?_
  first
   | refine wl_v (x_load Try.underlying25 rfl (tmP rfl rfl) (cellV hS.ok 0 rfl rfl)) ?_
   | refine wl_v (x_load Try.underlying25 rfl (tmP rfl rfl) (cellV hS.ok 0 rfl (getm (by omega)))) ?_
   | refine wl_v (x_load Try.underlying25 rfl (tmP rfl rfl) (cellVs hS.ok 0 rfl (fun _ => rfl) rfl (by omega) rfl)) ?_
   | refine wl_v (x_load Try.underlying25 rfl (tmP rfl rfl) (cellV hS.ok 1 rfl rfl)) ?_
   | refine wl_v (x_load Try.underlying25 rfl (tmP rfl rfl) (cellV hS.ok 1 rfl (getm (by omega)))) ?_
   | refine wl_v (x_load Try.underlying25 rfl (tmP rfl rfl) (cellVs hS.ok 1 rfl (fun _ => rfl) rfl (by omega) rfl)) ?_
   | refine wl_v (x_load Try.underlying25 rfl (tmP rfl rfl) (cellV hS.ok 2 rfl rfl)) ?_
   | refine wl_v (x_load Try.underlying25 rfl (tmP rfl rfl) (cellV hS.ok 2 rfl (getm (by omega)))) ?_
   | refine wl_v (x_load Try.underlying25 rfl (tmP rfl rfl) (cellVs hS.ok 2 rfl (fun _ => rfl) rfl (by omega) rfl)) ?_
  refine wl_v (x_len Try.underlying25 (tmS rfl rfl)) ?_
  refine wl_v (x_neq (tmI rfl rfl) (tmI rfl rfl)) ?_
  refine wl_nil ?_
  refine then_n (hK3 _ _ ?_); clear hK3 K3
  refine cnd (tm rfl) (fun hc0 => ?_) (fun hc0 => ?_)
  · exfalso
    simp at hc0
    omega
  try (exfalso; first | with_reducible exact absurd hc0 Bool.false_ne_true | with_reducible exact absurd hc0.symm Bool.false_ne_true | (simp only [nrm] at hc0; omega) | (simp at hc0; done))
  all_goals
   try simp only [nrm] at hc0
   refine wp_skip ?_
   refine then_n (hK2 _ _ ?_); clear hK2 K2
   refine wp_seq_k ?_; intro K4 hK4
   refine wp_seq_k ?_; intro K5 hK5
   refine wlit ?_
   refine wl_v (x_move (tmS rfl rfl)) ?_
   refine wl_v (x_len Try.underlying36 (tmS rfl rfl)) ?_
   refine wl_v (x_move (ev_cN 0)) ?_
   refine wl_nil ?_
   refine then_n (hK5 _ _ ?_); clear hK5 K5
   refine wp_block ?_
   refine lp [4, 5, 6, 17, 18, 19, 20, 21, 22, 23, 24, 25, 26, 27, 28, 29, 30, 31, 32, 33, 34, 35, 36, 37, 38, 39, 40, 41, 42, 43, 44, 45, 46] (fun mz g w => ∃ (k : Nat), mz = m - k ∧ g 17 = .int .i64 (k : Int) ∧ St [] w0 [.vw (some ⟨gs, 1, none⟩) [.slice K m ck], .vw K (flat crV ks), .vw A (flat cnV l)] w ∧ (k ≤ m) ∧ (True)) ?_ ?_
   · exact ⟨_, 0, rfl, (by first | rfl | go_num | exact congrArg (Value.int _) (by first | omega | (simp; done) | (simp; omega))), hS, (by omega), (by trivial)⟩
   · clear hS; intro mz g w hI
     obtain ⟨k, rfl, hs17, hS, hk, hz⟩ := hI
     refine fr_know (d := 17) hs17 ?_; clear hs17
     refine wp_seq_k ?_; intro K6 hK6
     refine wlit ?_
     refine wl_v (x_lss (tmI rfl rfl) (tmI rfl rfl)) ?_
     refine wl_nil ?_
     refine then_n (hK6 _ _ ?_); clear hK6 K6
     refine wp_seq_k ?_; intro K7 hK7
     refine cnd (tm rfl) (fun hc1 => ?_) (fun hc1 => ?_)
     · try (exfalso; first | with_reducible exact absurd hc1 Bool.false_ne_true | with_reducible exact absurd hc1.symm Bool.false_ne_true | (simp only [nrm] at hc1; omega) | (simp at hc1; done))
       all_goals
        try simp only [nrm] at hc1
        obtain ⟨b4, o4, rfl⟩ := view_some hv (by rw [flat_length cnV_len]; omega)
        obtain ⟨bk, ok, rfl⟩ := view_some hvk (by rw [flat_length crV_len]; omega)
        refine wp_skip ?_
        refine then_n (hK7 _ _ ?_); clear hK7 K7
        refine wp_seq_k ?_; intro K8 hK8
        refine wp_block ?_
        refine wp_seq_k ?_; intro K9 hK9
        refine wlit ?_
        refine wl_v (x_move (tmI rfl rfl)) ?_
        refine wl_v (x_ixs Try.underlying36 ts_33 (tmS rfl rfl) (tmI rfl rfl) (by omega)) ?_
        first
         | refine wl_v (x_loadA Try.underlying33 rfl (by exact ts_33) (tmP rfl rfl) (rangeVs hS.ok 0 rfl (fun _ => rfl) (by omega))) ?_
         | refine wl_v (x_loadA Try.underlying33 rfl (by exact ts_33) (tmP rfl rfl) (rangeVs hS.ok 1 rfl (fun _ => rfl) (by omega))) ?_
         | refine wl_v (x_loadA Try.underlying33 rfl (by exact ts_33) (tmP rfl rfl) (rangeVs hS.ok 2 rfl (fun _ => rfl) (by omega))) ?_
        refine wl_e rfl ?_; intro K hK
        refine ow_alloc hS tz_33 rfl ?_
        clear hS; intro g5_3 w hg5_3 hS
        refine hK _ _ ?_; clear hK K
        refine wl_v (x_assign (tmI rfl rfl)) ?_
        refine wl_e rfl ?_; intro K hK
        refine ow_storeA hS 0 rfl ts_33 (tmP rfl rfl) (tmA rfl rfl) rfl rfl rfl ?_
        clear hS; intro w hS
        try replace hS := St.nm (M' := [.blk _ _ [_, _, _, _], .vw _ _, .vw _ _, .vw _ _]) hS rfl
        refine hK _ _ ?_; clear hK K
        refine wl_nil ?_
        refine then_n (hK9 _ _ ?_); clear hK9 K9
        refine wp_seq_k ?_; intro K10 hK10
        refine rg_startk 0 hS mixed_ ?_
        clear hS; intro w hS
        refine rg_take 0 rfl rfl (by kernel_rfl) (by kernel_rfl) (by kernel_rfl) (want_0) (fun w hok => x_fa 1 Try.underlying33 rfl rfl ts_3 (tmP rfl rfl)) ?_
        first
         | refine rg_take 1 rfl rfl (by kernel_rfl) (by kernel_rfl) (by kernel_rfl) (want_0) (fun w hok => x_load Try.underlying3 rfl (tmP rfl rfl) (cellB hok 0 rfl rfl)) ?_
         | refine rg_take 1 rfl rfl (by kernel_rfl) (by kernel_rfl) (by kernel_rfl) (want_0) (fun w hok => x_load Try.underlying3 rfl (tmP rfl rfl) (cellB hok 0 rfl (getm (by omega)))) ?_
        refine rg_take 2 rfl rfl (by kernel_rfl) (by kernel_rfl) (by kernel_rfl) (want_0) (fun w hok => x_move (tmP rfl rfl)) ?_
        refine rg_take 3 rfl rfl (by kernel_rfl) (by kernel_rfl) (by kernel_rfl) (want_0) (fun w hok => x_nil (A := none) (tmP rfl rfl)) ?_
        refine rg_take 4 rfl rfl (by kernel_rfl) (by kernel_rfl) (by kernel_rfl) (want_0) (fun w hok => x_fa 0 Try.underlying27 rfl rfl ts_25 (tmP rfl rfl)) ?_
        first
         | refine rg_take 5 rfl rfl (by kernel_rfl) (by kernel_rfl) (by kernel_rfl) (want_0) (fun w hok => x_load Try.underlying25 rfl (tmP rfl rfl) (cellV hok 1 rfl rfl)) ?_
         | refine rg_take 5 rfl rfl (by kernel_rfl) (by kernel_rfl) (by kernel_rfl) (want_0) (fun w hok => x_load Try.underlying25 rfl (tmP rfl rfl) (cellV hok 1 rfl (getm (by omega)))) ?_
         | refine rg_take 5 rfl rfl (by kernel_rfl) (by kernel_rfl) (by kernel_rfl) (want_0) (fun w hok => x_load Try.underlying25 rfl (tmP rfl rfl) (cellVs hok 1 rfl (fun _ => rfl) rfl (by omega) rfl)) ?_
         | refine rg_take 5 rfl rfl (by kernel_rfl) (by kernel_rfl) (by kernel_rfl) (want_0) (fun w hok => x_load Try.underlying25 rfl (tmP rfl rfl) (cellV hok 2 rfl rfl)) ?_
         | refine rg_take 5 rfl rfl (by kernel_rfl) (by kernel_rfl) (by kernel_rfl) (want_0) (fun w hok => x_load Try.underlying25 rfl (tmP rfl rfl) (cellV hok 2 rfl (getm (by omega)))) ?_
         | refine rg_take 5 rfl rfl (by kernel_rfl) (by kernel_rfl) (by kernel_rfl) (want_0) (fun w hok => x_load Try.underlying25 rfl (tmP rfl rfl) (cellVs hok 2 rfl (fun _ => rfl) rfl (by omega) rfl)) ?_
         | refine rg_take 5 rfl rfl (by kernel_rfl) (by kernel_rfl) (by kernel_rfl) (want_0) (fun w hok => x_load Try.underlying25 rfl (tmP rfl rfl) (cellV hok 3 rfl rfl)) ?_
         | refine rg_take 5 rfl rfl (by kernel_rfl) (by kernel_rfl) (by kernel_rfl) (want_0) (fun w hok => x_load Try.underlying25 rfl (tmP rfl rfl) (cellV hok 3 rfl (getm (by omega)))) ?_
         | refine rg_take 5 rfl rfl (by kernel_rfl) (by kernel_rfl) (by kernel_rfl) (want_0) (fun w hok => x_load Try.underlying25 rfl (tmP rfl rfl) (cellVs hok 3 rfl (fun _ => rfl) rfl (by omega) rfl)) ?_
        refine rg_take 6 rfl rfl (by kernel_rfl) (by kernel_rfl) (by kernel_rfl) (want_0) (fun w hok => x_move (tmI rfl rfl)) ?_
        refine rg_take 7 rfl rfl (by kernel_rfl) (by kernel_rfl) (by kernel_rfl) (want_0) (fun w hok => x_ixs Try.underlying25 ts_66 (tmS rfl rfl) (tmI rfl rfl) (by omega)) ?_
        refine rg_take 8 rfl rfl (by kernel_rfl) (by kernel_rfl) (by kernel_rfl) (want_0) (fun w hok => x_fa 0 Try.underlying66 rfl rfl ts_3 (tmP rfl rfl)) ?_
        first
         | refine rg_take 9 rfl rfl (by kernel_rfl) (by kernel_rfl) (by kernel_rfl) (want_0) (fun w hok => x_load Try.underlying3 rfl (tmP rfl rfl) (cellV hok 1 rfl rfl)) ?_
         | refine rg_take 9 rfl rfl (by kernel_rfl) (by kernel_rfl) (by kernel_rfl) (want_0) (fun w hok => x_load Try.underlying3 rfl (tmP rfl rfl) (cellV hok 1 rfl (getm (by omega)))) ?_
         | refine rg_take 9 rfl rfl (by kernel_rfl) (by kernel_rfl) (by kernel_rfl) (want_0) (fun w hok => x_load Try.underlying3 rfl (tmP rfl rfl) (cellVs hok 1 rfl (fun _ => rfl) rfl (by omega) rfl)) ?_
         | refine rg_take 9 rfl rfl (by kernel_rfl) (by kernel_rfl) (by kernel_rfl) (want_0) (fun w hok => x_load Try.underlying3 rfl (tmP rfl rfl) (cellV hok 2 rfl rfl)) ?_
         | refine rg_take 9 rfl rfl (by kernel_rfl) (by kernel_rfl) (by kernel_rfl) (want_0) (fun w hok => x_load Try.underlying3 rfl (tmP rfl rfl) (cellV hok 2 rfl (getm (by omega)))) ?_
         | refine rg_take 9 rfl rfl (by kernel_rfl) (by kernel_rfl) (by kernel_rfl) (want_0) (fun w hok => x_load Try.underlying3 rfl (tmP rfl rfl) (cellVs hok 2 rfl (fun _ => rfl) rfl (by omega) rfl)) ?_
         | refine rg_take 9 rfl rfl (by kernel_rfl) (by kernel_rfl) (by kernel_rfl) (want_0) (fun w hok => x_load Try.underlying3 rfl (tmP rfl rfl) (cellV hok 3 rfl rfl)) ?_
         | refine rg_take 9 rfl rfl (by kernel_rfl) (by kernel_rfl) (by kernel_rfl) (want_0) (fun w hok => x_load Try.underlying3 rfl (tmP rfl rfl) (cellV hok 3 rfl (getm (by omega)))) ?_
         | refine rg_take 9 rfl rfl (by kernel_rfl) (by kernel_rfl) (by kernel_rfl) (want_0) (fun w hok => x_load Try.underlying3 rfl (tmP rfl rfl) (cellVs hok 3 rfl (fun _ => rfl) rfl (by omega) rfl)) ?_
        refine rg_take 10 rfl rfl (by kernel_rfl) (by kernel_rfl) (by kernel_rfl) (want_0) (fun w hok => x_neq (tmI rfl rfl) (tmI rfl rfl)) ?_
        refine rg_take 11 rfl rfl (by kernel_rfl) (by kernel_rfl) (by kernel_rfl) (want_0) (fun w hok => x_move (tmB rfl rfl)) ?_
        refine gs_rg (tm (t := 33) rfl) (fun hg6_11 => ?_) (fun hg6_11 => ?_)
        · exfalso
          have h1 := (hsame.2 k (by omega)).1
          rw [h1] at hg6_11; simp at hg6_11
        have hg6_11' := hg6_11; (try simp only [nrm] at hg6_11'); try (exfalso; first | with_reducible exact absurd hg6_11 Bool.false_ne_true | with_reducible exact absurd hg6_11.symm Bool.false_ne_true | omega | (simp at hg6_11; done))
        all_goals
         refine rg_take 12 rfl rfl (by kernel_rfl) (by kernel_rfl) (by kernel_rfl) (want_y rfl rfl rfl rfl (by rw [hg6_11]; rfl)) (fun w hok => x_fa 2 Try.underlying33 rfl rfl ts_3 (tmP rfl rfl)) ?_
         first
          | refine rg_take 13 rfl rfl (by kernel_rfl) (by kernel_rfl) (by kernel_rfl) (want_y rfl rfl rfl rfl (by rw [hg6_11]; rfl)) (fun w hok => x_load Try.underlying3 rfl (tmP rfl rfl) (cellB hok 0 rfl rfl)) ?_
          | refine rg_take 13 rfl rfl (by kernel_rfl) (by kernel_rfl) (by kernel_rfl) (want_y rfl rfl rfl rfl (by rw [hg6_11]; rfl)) (fun w hok => x_load Try.underlying3 rfl (tmP rfl rfl) (cellB hok 0 rfl (getm (by omega)))) ?_
         refine rg_take 14 rfl rfl (by kernel_rfl) (by kernel_rfl) (by kernel_rfl) (want_y rfl rfl rfl rfl (by rw [hg6_11]; rfl)) (fun w hok => x_move (tmP rfl rfl)) ?_
         refine rg_take 15 rfl rfl (by kernel_rfl) (by kernel_rfl) (by kernel_rfl) (want_y rfl rfl rfl rfl (by rw [hg6_11]; rfl)) (fun w hok => x_nil (A := none) (tmP rfl rfl)) ?_
         refine rg_take 16 rfl rfl (by kernel_rfl) (by kernel_rfl) (by kernel_rfl) (want_y rfl rfl rfl rfl (by rw [hg6_11]; rfl)) (fun w hok => x_fa 0 Try.underlying27 rfl rfl ts_25 (tmP rfl rfl)) ?_
         first
          | refine rg_take 17 rfl rfl (by kernel_rfl) (by kernel_rfl) (by kernel_rfl) (want_y rfl rfl rfl rfl (by rw [hg6_11]; rfl)) (fun w hok => x_load Try.underlying25 rfl (tmP rfl rfl) (cellV hok 1 rfl rfl)) ?_
          | refine rg_take 17 rfl rfl (by kernel_rfl) (by kernel_rfl) (by kernel_rfl) (want_y rfl rfl rfl rfl (by rw [hg6_11]; rfl)) (fun w hok => x_load Try.underlying25 rfl (tmP rfl rfl) (cellV hok 1 rfl (getm (by omega)))) ?_
          | refine rg_take 17 rfl rfl (by kernel_rfl) (by kernel_rfl) (by kernel_rfl) (want_y rfl rfl rfl rfl (by rw [hg6_11]; rfl)) (fun w hok => x_load Try.underlying25 rfl (tmP rfl rfl) (cellVs hok 1 rfl (fun _ => rfl) rfl (by omega) rfl)) ?_
          | refine rg_take 17 rfl rfl (by kernel_rfl) (by kernel_rfl) (by kernel_rfl) (want_y rfl rfl rfl rfl (by rw [hg6_11]; rfl)) (fun w hok => x_load Try.underlying25 rfl (tmP rfl rfl) (cellV hok 2 rfl rfl)) ?_
          | refine rg_take 17 rfl rfl (by kernel_rfl) (by kernel_rfl) (by kernel_rfl) (want_y rfl rfl rfl rfl (by rw [hg6_11]; rfl)) (fun w hok => x_load Try.underlying25 rfl (tmP rfl rfl) (cellV hok 2 rfl (getm (by omega)))) ?_
          | refine rg_take 17 rfl rfl (by kernel_rfl) (by kernel_rfl) (by kernel_rfl) (want_y rfl rfl rfl rfl (by rw [hg6_11]; rfl)) (fun w hok => x_load Try.underlying25 rfl (tmP rfl rfl) (cellVs hok 2 rfl (fun _ => rfl) rfl (by omega) rfl)) ?_
          | refine rg_take 17 rfl rfl (by kernel_rfl) (by kernel_rfl) (by kernel_rfl) (want_y rfl rfl rfl rfl (by rw [hg6_11]; rfl)) (fun w hok => x_load Try.underlying25 rfl (tmP rfl rfl) (cellV hok 3 rfl rfl)) ?_
          | refine rg_take 17 rfl rfl (by kernel_rfl) (by kernel_rfl) (by kernel_rfl) (want_y rfl rfl rfl rfl (by rw [hg6_11]; rfl)) (fun w hok => x_load Try.underlying25 rfl (tmP rfl rfl) (cellV hok 3 rfl (getm (by omega)))) ?_
          | refine rg_take 17 rfl rfl (by kernel_rfl) (by kernel_rfl) (by kernel_rfl) (want_y rfl rfl rfl rfl (by rw [hg6_11]; rfl)) (fun w hok => x_load Try.underlying25 rfl (tmP rfl rfl) (cellVs hok 3 rfl (fun _ => rfl) rfl (by omega) rfl)) ?_
         refine rg_take 18 rfl rfl (by kernel_rfl) (by kernel_rfl) (by kernel_rfl) (want_y rfl rfl rfl rfl (by rw [hg6_11]; rfl)) (fun w hok => x_move (tmI rfl rfl)) ?_
         refine rg_take 19 rfl rfl (by kernel_rfl) (by kernel_rfl) (by kernel_rfl) (want_y rfl rfl rfl rfl (by rw [hg6_11]; rfl)) (fun w hok => x_ixs Try.underlying25 ts_66 (tmS rfl rfl) (tmI rfl rfl) (by omega)) ?_
         refine rg_take 20 rfl rfl (by kernel_rfl) (by kernel_rfl) (by kernel_rfl) (want_y rfl rfl rfl rfl (by rw [hg6_11]; rfl)) (fun w hok => x_fa 1 Try.underlying66 rfl rfl ts_3 (tmP rfl rfl)) ?_
         first
          | refine rg_take 21 rfl rfl (by kernel_rfl) (by kernel_rfl) (by kernel_rfl) (want_y rfl rfl rfl rfl (by rw [hg6_11]; rfl)) (fun w hok => x_load Try.underlying3 rfl (tmP rfl rfl) (cellV hok 1 rfl rfl)) ?_
          | refine rg_take 21 rfl rfl (by kernel_rfl) (by kernel_rfl) (by kernel_rfl) (want_y rfl rfl rfl rfl (by rw [hg6_11]; rfl)) (fun w hok => x_load Try.underlying3 rfl (tmP rfl rfl) (cellV hok 1 rfl (getm (by omega)))) ?_
          | refine rg_take 21 rfl rfl (by kernel_rfl) (by kernel_rfl) (by kernel_rfl) (want_y rfl rfl rfl rfl (by rw [hg6_11]; rfl)) (fun w hok => x_load Try.underlying3 rfl (tmP rfl rfl) (cellVs hok 1 rfl (fun _ => rfl) rfl (by omega) rfl)) ?_
          | refine rg_take 21 rfl rfl (by kernel_rfl) (by kernel_rfl) (by kernel_rfl) (want_y rfl rfl rfl rfl (by rw [hg6_11]; rfl)) (fun w hok => x_load Try.underlying3 rfl (tmP rfl rfl) (cellV hok 2 rfl rfl)) ?_
          | refine rg_take 21 rfl rfl (by kernel_rfl) (by kernel_rfl) (by kernel_rfl) (want_y rfl rfl rfl rfl (by rw [hg6_11]; rfl)) (fun w hok => x_load Try.underlying3 rfl (tmP rfl rfl) (cellV hok 2 rfl (getm (by omega)))) ?_
          | refine rg_take 21 rfl rfl (by kernel_rfl) (by kernel_rfl) (by kernel_rfl) (want_y rfl rfl rfl rfl (by rw [hg6_11]; rfl)) (fun w hok => x_load Try.underlying3 rfl (tmP rfl rfl) (cellVs hok 2 rfl (fun _ => rfl) rfl (by omega) rfl)) ?_
          | refine rg_take 21 rfl rfl (by kernel_rfl) (by kernel_rfl) (by kernel_rfl) (want_y rfl rfl rfl rfl (by rw [hg6_11]; rfl)) (fun w hok => x_load Try.underlying3 rfl (tmP rfl rfl) (cellV hok 3 rfl rfl)) ?_
          | refine rg_take 21 rfl rfl (by kernel_rfl) (by kernel_rfl) (by kernel_rfl) (want_y rfl rfl rfl rfl (by rw [hg6_11]; rfl)) (fun w hok => x_load Try.underlying3 rfl (tmP rfl rfl) (cellV hok 3 rfl (getm (by omega)))) ?_
          | refine rg_take 21 rfl rfl (by kernel_rfl) (by kernel_rfl) (by kernel_rfl) (want_y rfl rfl rfl rfl (by rw [hg6_11]; rfl)) (fun w hok => x_load Try.underlying3 rfl (tmP rfl rfl) (cellVs hok 3 rfl (fun _ => rfl) rfl (by omega) rfl)) ?_
         refine rg_take 22 rfl rfl (by kernel_rfl) (by kernel_rfl) (by kernel_rfl) (want_y rfl rfl rfl rfl (by rw [hg6_11]; rfl)) (fun w hok => x_neq (tmI rfl rfl) (tmI rfl rfl)) ?_
         refine rg_take 23 rfl rfl (by kernel_rfl) (by kernel_rfl) (by kernel_rfl) (want_0) (fun w hok => x_pickF (tmB rfl rfl) hg6_11 (tmB rfl rfl)) ?_
         refine rg_done (oks_drop hS 0 rfl) (by kernel_rfl) ?_
         refine then_n (hK10 _ _ ?_); clear hK10 K10
         refine cnd (tm rfl) (fun hc2 => ?_) (fun hc2 => ?_)
         · exfalso
           have h1 := (hsame.2 k (by omega)).2
           rw [h1] at hc2; simp at hc2
         try (exfalso; first | with_reducible exact absurd hc2 Bool.false_ne_true | with_reducible exact absurd hc2.symm Bool.false_ne_true | (simp only [nrm] at hc2; omega) | (simp at hc2; done))
         all_goals
          try simp only [nrm] at hc2
          refine wp_skip ?_
          refine inb_n ?_
          refine then_n (hK8 _ _ ?_); clear hK8 K8
          refine wlit ?_
          first
           | refine wl_v (x_addN (tmI rfl rfl) (ev_cN 1) (fit_i64 (by omega))) ?_
           | refine wl_v (x_addI (tmI rfl rfl) (ev_cN 1) (IntWalk.i64_in _ (by omega))) ?_
           | refine wl_v (x_add (tmI rfl rfl) (ev_cN 1)) ?_
          refine wl_v (x_move (tmI rfl rfl)) ?_
          refine wl_nil ?_
          exact then_n ⟨_, _, rfl, (by show _ < _; omega), (by repeat (first | exact agree_self | exact agree_refl | refine agree_upd rfl ?_ | refine agree_mix rfl ?_)), k + 1, rfl, (by first | rfl | go_num | exact congrArg (Value.int _) (by first | omega | (simp; done) | (simp; omega))), (hS.pick [1, 2, 3] rfl rfl), (by omega), (by trivial)⟩
     try (exfalso; first | with_reducible exact absurd hc1 Bool.false_ne_true | with_reducible exact absurd hc1.symm Bool.false_ne_true | (simp only [nrm] at hc1; omega) | (simp at hc1; done))
     all_goals
      try simp only [nrm] at hc1
      refine wp_exit ?_
      refine then_x ?_; clear hK7 K7
      refine then_x ?_
      refine inb_x ?_
      refine then_n (hK4 _ _ ?_); clear hK4 K4
      refine wp_seq_k ?_; intro K11 hK11
      refine wlit ?_
      refine wl_v (x_assign ev_c) ?_
      refine wl_nil ?_
      refine then_n (hK11 _ _ ?_); clear hK11 K11
      refine wp_ret ?_
      refine ret1 rfl (.tmp rfl (show _ = Value.bool _ from rfl)) ?_
      exact ⟨rfl, hS.kp⟩
set_option maxRecDepth 100000 in
set_option maxHeartbeats 4000000 in
theorem i_knows_no (gs : Nat) (K : Option Addr) (m ck : Nat) (ks : List Cr) (n : Nat) (A : Option Addr) (c : Nat) (l : List Cn) (w0 : World) (hvs : View w0 w0.heap.size (some ⟨gs, 1, none⟩) [.slice K m ck]) (hvk : View w0 w0.heap.size K (flat crV ks)) (hv : View w0 w0.heap.size A (flat cnV l))
    (hl : l.length = n) (hm : ks.length = m) (hn4 : n ≤ 1000000) (hsame : ¬ SameP l ks) :
    Calls Try.prog 20 #[.pointer (some ⟨gs, 1, none⟩), .slice A n c] w0 fun e w' => e = .returned (.bool false) ∧ Kp [] w0 w' := by
  have hS := (((St.sv w0).vcons rfl hv).vcons rfl hvk).vcons rfl hvs
  refine ent (n := 47) Try.func20 rfl rfl ?_
  refine wp_seq_k ?_; intro K1 hK1
  refine wlit ?_
  refine wl_v (x_assign ev_c) ?_
  refine wl_nil ?_
  refine then_n (hK1 _ _ ?_); clear hK1 K1
  refine wp_seq_k ?_; intro K2 hK2
  refine wp_seq_k ?_; intro K3 hK3
  refine wlit ?_
  refine wl_v (x_move (tmS rfl rfl)) ?_
  refine wl_v (x_len Try.underlying36 (tmS rfl rfl)) ?_
  refine wl_v (x_move (tmP rfl rfl)) ?_
  refine wl_v (x_nil (A := none) (tmP rfl rfl)) ?_
  refine wl_v (x_fa 0 Try.underlying27 rfl rfl ts_25 (tmP rfl rfl)) ?_
  first
   | refine wl_v (x_load Try.underlying25 rfl (tmP rfl rfl) (cellV hS.ok 0 rfl rfl)) ?_
   | refine wl_v (x_load Try.underlying25 rfl (tmP rfl rfl) (cellV hS.ok 0 rfl (getm (by omega)))) ?_
   | refine wl_v (x_load Try.underlying25 rfl (tmP rfl rfl) (cellVs hS.ok 0 rfl (fun _ => rfl) rfl (by omega) rfl)) ?_
   | refine wl_v (x_load Try.underlying25 rfl (tmP rfl rfl) (cellV hS.ok 1 rfl rfl)) ?_
   | refine wl_v (x_load Try.underlying25 rfl (tmP rfl rfl) (cellV hS.ok 1 rfl (getm (by omega)))) ?_
   | refine wl_v (x_load Try.underlying25 rfl (tmP rfl rfl) (cellVs hS.ok 1 rfl (fun _ => rfl) rfl (by omega) rfl)) ?_
   | refine wl_v (x_load Try.underlying25 rfl (tmP rfl rfl) (cellV hS.ok 2 rfl rfl)) ?_
   | refine wl_v (x_load Try.underlying25 rfl (tmP rfl rfl) (cellV hS.ok 2 rfl (getm (by omega)))) ?_
   | refine wl_v (x_load Try.underlying25 rfl (tmP rfl rfl) (cellVs hS.ok 2 rfl (fun _ => rfl) rfl (by omega) rfl)) ?_
  refine wl_v (x_len Try.underlying25 (tmS rfl rfl)) ?_
  refine wl_v (x_neq (tmI rfl rfl) (tmI rfl rfl)) ?_
  refine wl_nil ?_
  refine then_n (hK3 _ _ ?_); clear hK3 K3
  refine cnd (tm rfl) (fun hc0 => ?_) (fun hc0 => ?_)
  · try (exfalso; first | with_reducible exact absurd hc0 Bool.false_ne_true | with_reducible exact absurd hc0.symm Bool.false_ne_true | (simp only [nrm] at hc0; omega) | (simp at hc0; done))
    all_goals
     try simp only [nrm] at hc0
     refine wp_seq_k ?_; intro K4 hK4
     refine wlit ?_
     refine wl_v (x_assign ev_c) ?_
     refine wl_nil ?_
     refine then_n (hK4 _ _ ?_); clear hK4 K4
     refine wp_ret ?_
     refine then_r ?_
     refine ret1 rfl (.tmp rfl (show _ = Value.bool _ from rfl)) ?_
     exact ⟨rfl, hS.kp⟩
  try (exfalso; first | with_reducible exact absurd hc0 Bool.false_ne_true | with_reducible exact absurd hc0.symm Bool.false_ne_true | (simp only [nrm] at hc0; omega) | (simp at hc0; done))
  all_goals
   try simp only [nrm] at hc0
   have hnm : n = m := by omega
   refine wp_skip ?_
   refine then_n (hK2 _ _ ?_); clear hK2 K2
   refine wp_seq_k ?_; intro K5 hK5
   refine wp_seq_k ?_; intro K6 hK6
   refine wlit ?_
   refine wl_v (x_move (tmS rfl rfl)) ?_
   refine wl_v (x_len Try.underlying36 (tmS rfl rfl)) ?_
   refine wl_v (x_move (ev_cN 0)) ?_
   refine wl_nil ?_
   refine then_n (hK6 _ _ ?_); clear hK6 K6
   refine wp_block ?_
   refine lp [4, 5, 6, 17, 18, 19, 20, 21, 22, 23, 24, 25, 26, 27, 28, 29, 30, 31, 32, 33, 34, 35, 36, 37, 38, 39, 40, 41, 42, 43, 44, 45, 46] (fun mz g w => ∃ (k : Nat), mz = m - k ∧ g 17 = .int .i64 (k : Int) ∧ St [] w0 [.vw (some ⟨gs, 1, none⟩) [.slice K m ck], .vw K (flat crV ks), .vw A (flat cnV l)] w ∧ (k ≤ m) ∧ (∀ i, i < k → (l.getD i default).backend = (ks.getD i default).backend ∧ (l.getD i default).weight = (ks.getD i default).weight)) ?_ ?_
   · exact ⟨_, 0, rfl, (by first | rfl | go_num | exact congrArg (Value.int _) (by first | omega | (simp; done) | (simp; omega))), hS, (by omega), (by first | (intro i hi; omega) | exact hz1)⟩
   · clear hS; intro mz g w hI
     obtain ⟨k, rfl, hs17, hS, hk, hz⟩ := hI
     refine fr_know (d := 17) hs17 ?_; clear hs17
     refine wp_seq_k ?_; intro K7 hK7
     refine wlit ?_
     refine wl_v (x_lss (tmI rfl rfl) (tmI rfl rfl)) ?_
     refine wl_nil ?_
     refine then_n (hK7 _ _ ?_); clear hK7 K7
     refine wp_seq_k ?_; intro K8 hK8
     refine cnds (tm rfl) (fun hc1 => ?_) (fun hc1 => ?_)
     · exfalso
       simp at hc1
       exact absurd ⟨by omega, fun i hi => hz i (by omega)⟩ hsame
     try (exfalso; first | with_reducible exact absurd hc1 Bool.false_ne_true | with_reducible exact absurd hc1.symm Bool.false_ne_true | (simp only [nrm] at hc1; omega) | (simp at hc1; done))
     all_goals
      try simp only [nrm] at hc1
      obtain ⟨b4, o4, rfl⟩ := view_some hv (by rw [flat_length cnV_len]; omega)
      obtain ⟨bk, ok, rfl⟩ := view_some hvk (by rw [flat_length crV_len]; omega)
      refine wp_skip ?_
      refine then_n (hK8 _ _ ?_); clear hK8 K8
      refine wp_seq_k ?_; intro K9 hK9
      refine wp_block ?_
      refine wp_seq_k ?_; intro K10 hK10
      refine wlit ?_
      refine wl_v (x_move (tmI rfl rfl)) ?_
      refine wl_v (x_ixs Try.underlying36 ts_33 (tmS rfl rfl) (tmI rfl rfl) (by omega)) ?_
      first
       | refine wl_v (x_loadA Try.underlying33 rfl (by exact ts_33) (tmP rfl rfl) (rangeVs hS.ok 0 rfl (fun _ => rfl) (by omega))) ?_
       | refine wl_v (x_loadA Try.underlying33 rfl (by exact ts_33) (tmP rfl rfl) (rangeVs hS.ok 1 rfl (fun _ => rfl) (by omega))) ?_
       | refine wl_v (x_loadA Try.underlying33 rfl (by exact ts_33) (tmP rfl rfl) (rangeVs hS.ok 2 rfl (fun _ => rfl) (by omega))) ?_
      refine wl_e rfl ?_; intro K hK
      refine ow_alloc hS tz_33 rfl ?_
      clear hS; intro g5_3 w hg5_3 hS
      refine hK _ _ ?_; clear hK K
      refine wl_v (x_assign (tmI rfl rfl)) ?_
      refine wl_e rfl ?_; intro K hK
      refine ow_storeA hS 0 rfl ts_33 (tmP rfl rfl) (tmA rfl rfl) rfl rfl rfl ?_
      clear hS; intro w hS
      try replace hS := St.nm (M' := [.blk _ _ [_, _, _, _], .vw _ _, .vw _ _, .vw _ _]) hS rfl
      refine hK _ _ ?_; clear hK K
      refine wl_nil ?_
      refine then_n (hK10 _ _ ?_); clear hK10 K10
      refine wp_seq_k ?_; intro K11 hK11
      refine rg_startk 0 hS mixed_ ?_
      clear hS; intro w hS
      refine rg_take 0 rfl rfl (by kernel_rfl) (by kernel_rfl) (by kernel_rfl) (want_0) (fun w hok => x_fa 1 Try.underlying33 rfl rfl ts_3 (tmP rfl rfl)) ?_
      first
       | refine rg_take 1 rfl rfl (by kernel_rfl) (by kernel_rfl) (by kernel_rfl) (want_0) (fun w hok => x_load Try.underlying3 rfl (tmP rfl rfl) (cellB hok 0 rfl rfl)) ?_
       | refine rg_take 1 rfl rfl (by kernel_rfl) (by kernel_rfl) (by kernel_rfl) (want_0) (fun w hok => x_load Try.underlying3 rfl (tmP rfl rfl) (cellB hok 0 rfl (getm (by omega)))) ?_
      refine rg_take 2 rfl rfl (by kernel_rfl) (by kernel_rfl) (by kernel_rfl) (want_0) (fun w hok => x_move (tmP rfl rfl)) ?_
      refine rg_take 3 rfl rfl (by kernel_rfl) (by kernel_rfl) (by kernel_rfl) (want_0) (fun w hok => x_nil (A := none) (tmP rfl rfl)) ?_
      refine rg_take 4 rfl rfl (by kernel_rfl) (by kernel_rfl) (by kernel_rfl) (want_0) (fun w hok => x_fa 0 Try.underlying27 rfl rfl ts_25 (tmP rfl rfl)) ?_
      first
       | refine rg_take 5 rfl rfl (by kernel_rfl) (by kernel_rfl) (by kernel_rfl) (want_0) (fun w hok => x_load Try.underlying25 rfl (tmP rfl rfl) (cellV hok 1 rfl rfl)) ?_
       | refine rg_take 5 rfl rfl (by kernel_rfl) (by kernel_rfl) (by kernel_rfl) (want_0) (fun w hok => x_load Try.underlying25 rfl (tmP rfl rfl) (cellV hok 1 rfl (getm (by omega)))) ?_
       | refine rg_take 5 rfl rfl (by kernel_rfl) (by kernel_rfl) (by kernel_rfl) (want_0) (fun w hok => x_load Try.underlying25 rfl (tmP rfl rfl) (cellVs hok 1 rfl (fun _ => rfl) rfl (by omega) rfl)) ?_
       | refine rg_take 5 rfl rfl (by kernel_rfl) (by kernel_rfl) (by kernel_rfl) (want_0) (fun w hok => x_load Try.underlying25 rfl (tmP rfl rfl) (cellV hok 2 rfl rfl)) ?_
       | refine rg_take 5 rfl rfl (by kernel_rfl) (by kernel_rfl) (by kernel_rfl) (want_0) (fun w hok => x_load Try.underlying25 rfl (tmP rfl rfl) (cellV hok 2 rfl (getm (by omega)))) ?_
       | refine rg_take 5 rfl rfl (by kernel_rfl) (by kernel_rfl) (by kernel_rfl) (want_0) (fun w hok => x_load Try.underlying25 rfl (tmP rfl rfl) (cellVs hok 2 rfl (fun _ => rfl) rfl (by omega) rfl)) ?_
       | refine rg_take 5 rfl rfl (by kernel_rfl) (by kernel_rfl) (by kernel_rfl) (want_0) (fun w hok => x_load Try.underlying25 rfl (tmP rfl rfl) (cellV hok 3 rfl rfl)) ?_
       | refine rg_take 5 rfl rfl (by kernel_rfl) (by kernel_rfl) (by kernel_rfl) (want_0) (fun w hok => x_load Try.underlying25 rfl (tmP rfl rfl) (cellV hok 3 rfl (getm (by omega)))) ?_
       | refine rg_take 5 rfl rfl (by kernel_rfl) (by kernel_rfl) (by kernel_rfl) (want_0) (fun w hok => x_load Try.underlying25 rfl (tmP rfl rfl) (cellVs hok 3 rfl (fun _ => rfl) rfl (by omega) rfl)) ?_
      refine rg_take 6 rfl rfl (by kernel_rfl) (by kernel_rfl) (by kernel_rfl) (want_0) (fun w hok => x_move (tmI rfl rfl)) ?_
      refine rg_take 7 rfl rfl (by kernel_rfl) (by kernel_rfl) (by kernel_rfl) (want_0) (fun w hok => x_ixs Try.underlying25 ts_66 (tmS rfl rfl) (tmI rfl rfl) (by omega)) ?_
      refine rg_take 8 rfl rfl (by kernel_rfl) (by kernel_rfl) (by kernel_rfl) (want_0) (fun w hok => x_fa 0 Try.underlying66 rfl rfl ts_3 (tmP rfl rfl)) ?_
      first
       | refine rg_take 9 rfl rfl (by kernel_rfl) (by kernel_rfl) (by kernel_rfl) (want_0) (fun w hok => x_load Try.underlying3 rfl (tmP rfl rfl) (cellV hok 1 rfl rfl)) ?_
       | refine rg_take 9 rfl rfl (by kernel_rfl) (by kernel_rfl) (by kernel_rfl) (want_0) (fun w hok => x_load Try.underlying3 rfl (tmP rfl rfl) (cellV hok 1 rfl (getm (by omega)))) ?_
       | refine rg_take 9 rfl rfl (by kernel_rfl) (by kernel_rfl) (by kernel_rfl) (want_0) (fun w hok => x_load Try.underlying3 rfl (tmP rfl rfl) (cellVs hok 1 rfl (fun _ => rfl) rfl (by omega) rfl)) ?_
       | refine rg_take 9 rfl rfl (by kernel_rfl) (by kernel_rfl) (by kernel_rfl) (want_0) (fun w hok => x_load Try.underlying3 rfl (tmP rfl rfl) (cellV hok 2 rfl rfl)) ?_
       | refine rg_take 9 rfl rfl (by kernel_rfl) (by kernel_rfl) (by kernel_rfl) (want_0) (fun w hok => x_load Try.underlying3 rfl (tmP rfl rfl) (cellV hok 2 rfl (getm (by omega)))) ?_
       | refine rg_take 9 rfl rfl (by kernel_rfl) (by kernel_rfl) (by kernel_rfl) (want_0) (fun w hok => x_load Try.underlying3 rfl (tmP rfl rfl) (cellVs hok 2 rfl (fun _ => rfl) rfl (by omega) rfl)) ?_
       | refine rg_take 9 rfl rfl (by kernel_rfl) (by kernel_rfl) (by kernel_rfl) (want_0) (fun w hok => x_load Try.underlying3 rfl (tmP rfl rfl) (cellV hok 3 rfl rfl)) ?_
       | refine rg_take 9 rfl rfl (by kernel_rfl) (by kernel_rfl) (by kernel_rfl) (want_0) (fun w hok => x_load Try.underlying3 rfl (tmP rfl rfl) (cellV hok 3 rfl (getm (by omega)))) ?_
       | refine rg_take 9 rfl rfl (by kernel_rfl) (by kernel_rfl) (by kernel_rfl) (want_0) (fun w hok => x_load Try.underlying3 rfl (tmP rfl rfl) (cellVs hok 3 rfl (fun _ => rfl) rfl (by omega) rfl)) ?_
      refine rg_take 10 rfl rfl (by kernel_rfl) (by kernel_rfl) (by kernel_rfl) (want_0) (fun w hok => x_neq (tmI rfl rfl) (tmI rfl rfl)) ?_
      refine rg_take 11 rfl rfl (by kernel_rfl) (by kernel_rfl) (by kernel_rfl) (want_0) (fun w hok => x_move (tmB rfl rfl)) ?_
      refine gs_rg (tm (t := 33) rfl) (fun hg6_11 => ?_) (fun hg6_11 => ?_)
      · have hg6_11' := hg6_11; (try simp only [nrm] at hg6_11'); try (exfalso; first | with_reducible exact absurd hg6_11 Bool.false_ne_true | with_reducible exact absurd hg6_11.symm Bool.false_ne_true | omega | (simp at hg6_11; done))
        all_goals
         refine rg_skip 12 rfl rfl (by kernel_rfl) (by kernel_rfl) (by kernel_rfl) (want_n rfl rfl rfl rfl (by rw [hg6_11]; rfl)) ?_
         refine rg_skip 13 rfl rfl (by kernel_rfl) (by kernel_rfl) (by kernel_rfl) (want_n rfl rfl rfl rfl (by rw [hg6_11]; rfl)) ?_
         refine rg_skip 14 rfl rfl (by kernel_rfl) (by kernel_rfl) (by kernel_rfl) (want_n rfl rfl rfl rfl (by rw [hg6_11]; rfl)) ?_
         refine rg_skip 15 rfl rfl (by kernel_rfl) (by kernel_rfl) (by kernel_rfl) (want_n rfl rfl rfl rfl (by rw [hg6_11]; rfl)) ?_
         refine rg_skip 16 rfl rfl (by kernel_rfl) (by kernel_rfl) (by kernel_rfl) (want_n rfl rfl rfl rfl (by rw [hg6_11]; rfl)) ?_
         refine rg_skip 17 rfl rfl (by kernel_rfl) (by kernel_rfl) (by kernel_rfl) (want_n rfl rfl rfl rfl (by rw [hg6_11]; rfl)) ?_
         refine rg_skip 18 rfl rfl (by kernel_rfl) (by kernel_rfl) (by kernel_rfl) (want_n rfl rfl rfl rfl (by rw [hg6_11]; rfl)) ?_
         refine rg_skip 19 rfl rfl (by kernel_rfl) (by kernel_rfl) (by kernel_rfl) (want_n rfl rfl rfl rfl (by rw [hg6_11]; rfl)) ?_
         refine rg_skip 20 rfl rfl (by kernel_rfl) (by kernel_rfl) (by kernel_rfl) (want_n rfl rfl rfl rfl (by rw [hg6_11]; rfl)) ?_
         refine rg_skip 21 rfl rfl (by kernel_rfl) (by kernel_rfl) (by kernel_rfl) (want_n rfl rfl rfl rfl (by rw [hg6_11]; rfl)) ?_
         refine rg_skip 22 rfl rfl (by kernel_rfl) (by kernel_rfl) (by kernel_rfl) (want_n rfl rfl rfl rfl (by rw [hg6_11]; rfl)) ?_
         refine rg_take 23 rfl rfl (by kernel_rfl) (by kernel_rfl) (by kernel_rfl) (want_0) (fun w hok => x_pickT (tmB rfl rfl) hg6_11 ev_c) ?_
         refine rg_done (oks_drop hS 0 rfl) (by kernel_rfl) ?_
         refine then_n (hK11 _ _ ?_); clear hK11 K11
         refine cnd_t (tmB rfl rfl) rfl ?_
         refine wp_seq_k ?_; intro K12 hK12
         refine wlit ?_
         refine wl_v (x_assign ev_c) ?_
         refine wl_nil ?_
         refine then_n (hK12 _ _ ?_); clear hK12 K12
         refine wp_ret ?_
         refine inb_r ?_
         refine then_r ?_
         refine then_r ?_
         refine inb_r ?_
         refine then_r ?_
         refine ret1 rfl (.tmp rfl (show _ = Value.bool _ from rfl)) ?_
         exact ⟨rfl, hS.kp⟩
      have hg6_11' := hg6_11; (try simp only [nrm] at hg6_11'); try (exfalso; first | with_reducible exact absurd hg6_11 Bool.false_ne_true | with_reducible exact absurd hg6_11.symm Bool.false_ne_true | omega | (simp at hg6_11; done))
      all_goals
       refine rg_take 12 rfl rfl (by kernel_rfl) (by kernel_rfl) (by kernel_rfl) (want_y rfl rfl rfl rfl (by rw [hg6_11]; rfl)) (fun w hok => x_fa 2 Try.underlying33 rfl rfl ts_3 (tmP rfl rfl)) ?_
       first
        | refine rg_take 13 rfl rfl (by kernel_rfl) (by kernel_rfl) (by kernel_rfl) (want_y rfl rfl rfl rfl (by rw [hg6_11]; rfl)) (fun w hok => x_load Try.underlying3 rfl (tmP rfl rfl) (cellB hok 0 rfl rfl)) ?_
        | refine rg_take 13 rfl rfl (by kernel_rfl) (by kernel_rfl) (by kernel_rfl) (want_y rfl rfl rfl rfl (by rw [hg6_11]; rfl)) (fun w hok => x_load Try.underlying3 rfl (tmP rfl rfl) (cellB hok 0 rfl (getm (by omega)))) ?_
       refine rg_take 14 rfl rfl (by kernel_rfl) (by kernel_rfl) (by kernel_rfl) (want_y rfl rfl rfl rfl (by rw [hg6_11]; rfl)) (fun w hok => x_move (tmP rfl rfl)) ?_
       refine rg_take 15 rfl rfl (by kernel_rfl) (by kernel_rfl) (by kernel_rfl) (want_y rfl rfl rfl rfl (by rw [hg6_11]; rfl)) (fun w hok => x_nil (A := none) (tmP rfl rfl)) ?_
       refine rg_take 16 rfl rfl (by kernel_rfl) (by kernel_rfl) (by kernel_rfl) (want_y rfl rfl rfl rfl (by rw [hg6_11]; rfl)) (fun w hok => x_fa 0 Try.underlying27 rfl rfl ts_25 (tmP rfl rfl)) ?_
       first
        | refine rg_take 17 rfl rfl (by kernel_rfl) (by kernel_rfl) (by kernel_rfl) (want_y rfl rfl rfl rfl (by rw [hg6_11]; rfl)) (fun w hok => x_load Try.underlying25 rfl (tmP rfl rfl) (cellV hok 1 rfl rfl)) ?_
        | refine rg_take 17 rfl rfl (by kernel_rfl) (by kernel_rfl) (by kernel_rfl) (want_y rfl rfl rfl rfl (by rw [hg6_11]; rfl)) (fun w hok => x_load Try.underlying25 rfl (tmP rfl rfl) (cellV hok 1 rfl (getm (by omega)))) ?_
        | refine rg_take 17 rfl rfl (by kernel_rfl) (by kernel_rfl) (by kernel_rfl) (want_y rfl rfl rfl rfl (by rw [hg6_11]; rfl)) (fun w hok => x_load Try.underlying25 rfl (tmP rfl rfl) (cellVs hok 1 rfl (fun _ => rfl) rfl (by omega) rfl)) ?_
        | refine rg_take 17 rfl rfl (by kernel_rfl) (by kernel_rfl) (by kernel_rfl) (want_y rfl rfl rfl rfl (by rw [hg6_11]; rfl)) (fun w hok => x_load Try.underlying25 rfl (tmP rfl rfl) (cellV hok 2 rfl rfl)) ?_
        | refine rg_take 17 rfl rfl (by kernel_rfl) (by kernel_rfl) (by kernel_rfl) (want_y rfl rfl rfl rfl (by rw [hg6_11]; rfl)) (fun w hok => x_load Try.underlying25 rfl (tmP rfl rfl) (cellV hok 2 rfl (getm (by omega)))) ?_
        | refine rg_take 17 rfl rfl (by kernel_rfl) (by kernel_rfl) (by kernel_rfl) (want_y rfl rfl rfl rfl (by rw [hg6_11]; rfl)) (fun w hok => x_load Try.underlying25 rfl (tmP rfl rfl) (cellVs hok 2 rfl (fun _ => rfl) rfl (by omega) rfl)) ?_
        | refine rg_take 17 rfl rfl (by kernel_rfl) (by kernel_rfl) (by kernel_rfl) (want_y rfl rfl rfl rfl (by rw [hg6_11]; rfl)) (fun w hok => x_load Try.underlying25 rfl (tmP rfl rfl) (cellV hok 3 rfl rfl)) ?_
        | refine rg_take 17 rfl rfl (by kernel_rfl) (by kernel_rfl) (by kernel_rfl) (want_y rfl rfl rfl rfl (by rw [hg6_11]; rfl)) (fun w hok => x_load Try.underlying25 rfl (tmP rfl rfl) (cellV hok 3 rfl (getm (by omega)))) ?_
        | refine rg_take 17 rfl rfl (by kernel_rfl) (by kernel_rfl) (by kernel_rfl) (want_y rfl rfl rfl rfl (by rw [hg6_11]; rfl)) (fun w hok => x_load Try.underlying25 rfl (tmP rfl rfl) (cellVs hok 3 rfl (fun _ => rfl) rfl (by omega) rfl)) ?_
       refine rg_take 18 rfl rfl (by kernel_rfl) (by kernel_rfl) (by kernel_rfl) (want_y rfl rfl rfl rfl (by rw [hg6_11]; rfl)) (fun w hok => x_move (tmI rfl rfl)) ?_
       refine rg_take 19 rfl rfl (by kernel_rfl) (by kernel_rfl) (by kernel_rfl) (want_y rfl rfl rfl rfl (by rw [hg6_11]; rfl)) (fun w hok => x_ixs Try.underlying25 ts_66 (tmS rfl rfl) (tmI rfl rfl) (by omega)) ?_
       refine rg_take 20 rfl rfl (by kernel_rfl) (by kernel_rfl) (by kernel_rfl) (want_y rfl rfl rfl rfl (by rw [hg6_11]; rfl)) (fun w hok => x_fa 1 Try.underlying66 rfl rfl ts_3 (tmP rfl rfl)) ?_
       first
        | refine rg_take 21 rfl rfl (by kernel_rfl) (by kernel_rfl) (by kernel_rfl) (want_y rfl rfl rfl rfl (by rw [hg6_11]; rfl)) (fun w hok => x_load Try.underlying3 rfl (tmP rfl rfl) (cellV hok 1 rfl rfl)) ?_
        | refine rg_take 21 rfl rfl (by kernel_rfl) (by kernel_rfl) (by kernel_rfl) (want_y rfl rfl rfl rfl (by rw [hg6_11]; rfl)) (fun w hok => x_load Try.underlying3 rfl (tmP rfl rfl) (cellV hok 1 rfl (getm (by omega)))) ?_
        | refine rg_take 21 rfl rfl (by kernel_rfl) (by kernel_rfl) (by kernel_rfl) (want_y rfl rfl rfl rfl (by rw [hg6_11]; rfl)) (fun w hok => x_load Try.underlying3 rfl (tmP rfl rfl) (cellVs hok 1 rfl (fun _ => rfl) rfl (by omega) rfl)) ?_
        | refine rg_take 21 rfl rfl (by kernel_rfl) (by kernel_rfl) (by kernel_rfl) (want_y rfl rfl rfl rfl (by rw [hg6_11]; rfl)) (fun w hok => x_load Try.underlying3 rfl (tmP rfl rfl) (cellV hok 2 rfl rfl)) ?_
        | refine rg_take 21 rfl rfl (by kernel_rfl) (by kernel_rfl) (by kernel_rfl) (want_y rfl rfl rfl rfl (by rw [hg6_11]; rfl)) (fun w hok => x_load Try.underlying3 rfl (tmP rfl rfl) (cellV hok 2 rfl (getm (by omega)))) ?_
        | refine rg_take 21 rfl rfl (by kernel_rfl) (by kernel_rfl) (by kernel_rfl) (want_y rfl rfl rfl rfl (by rw [hg6_11]; rfl)) (fun w hok => x_load Try.underlying3 rfl (tmP rfl rfl) (cellVs hok 2 rfl (fun _ => rfl) rfl (by omega) rfl)) ?_
        | refine rg_take 21 rfl rfl (by kernel_rfl) (by kernel_rfl) (by kernel_rfl) (want_y rfl rfl rfl rfl (by rw [hg6_11]; rfl)) (fun w hok => x_load Try.underlying3 rfl (tmP rfl rfl) (cellV hok 3 rfl rfl)) ?_
        | refine rg_take 21 rfl rfl (by kernel_rfl) (by kernel_rfl) (by kernel_rfl) (want_y rfl rfl rfl rfl (by rw [hg6_11]; rfl)) (fun w hok => x_load Try.underlying3 rfl (tmP rfl rfl) (cellV hok 3 rfl (getm (by omega)))) ?_
        | refine rg_take 21 rfl rfl (by kernel_rfl) (by kernel_rfl) (by kernel_rfl) (want_y rfl rfl rfl rfl (by rw [hg6_11]; rfl)) (fun w hok => x_load Try.underlying3 rfl (tmP rfl rfl) (cellVs hok 3 rfl (fun _ => rfl) rfl (by omega) rfl)) ?_
       refine rg_take 22 rfl rfl (by kernel_rfl) (by kernel_rfl) (by kernel_rfl) (want_y rfl rfl rfl rfl (by rw [hg6_11]; rfl)) (fun w hok => x_neq (tmI rfl rfl) (tmI rfl rfl)) ?_
       refine rg_take 23 rfl rfl (by kernel_rfl) (by kernel_rfl) (by kernel_rfl) (want_0) (fun w hok => x_pickF (tmB rfl rfl) hg6_11 (tmB rfl rfl)) ?_
       refine rg_done (oks_drop hS 0 rfl) (by kernel_rfl) ?_
       refine then_n (hK11 _ _ ?_); clear hK11 K11
       refine cnd (tm rfl) (fun hc2 => ?_) (fun hc2 => ?_)
       · try (exfalso; first | with_reducible exact absurd hc2 Bool.false_ne_true | with_reducible exact absurd hc2.symm Bool.false_ne_true | (simp only [nrm] at hc2; omega) | (simp at hc2; done))
         all_goals
          try simp only [nrm] at hc2
          refine wp_seq_k ?_; intro K13 hK13
          refine wlit ?_
          refine wl_v (x_assign ev_c) ?_
          refine wl_nil ?_
          refine then_n (hK13 _ _ ?_); clear hK13 K13
          refine wp_ret ?_
          refine inb_r ?_
          refine then_r ?_
          refine then_r ?_
          refine inb_r ?_
          refine then_r ?_
          refine ret1 rfl (.tmp rfl (show _ = Value.bool _ from rfl)) ?_
          exact ⟨rfl, hS.kp⟩
       try (exfalso; first | with_reducible exact absurd hc2 Bool.false_ne_true | with_reducible exact absurd hc2.symm Bool.false_ne_true | (simp only [nrm] at hc2; omega) | (simp at hc2; done))
       all_goals
        try simp only [nrm] at hc2
        have hz1 : ∀ i, i < k + 1 → (l.getD i default).backend = (ks.getD i default).backend ∧ (l.getD i default).weight = (ks.getD i default).weight := by
          intro i hi
          by_cases hik : i = k
          · subst hik
            exact ⟨hg6_11', hc2⟩
          · exact hz i (by omega)
        refine wp_skip ?_
        refine inb_n ?_
        refine then_n (hK9 _ _ ?_); clear hK9 K9
        refine wlit ?_
        first
         | refine wl_v (x_addN (tmI rfl rfl) (ev_cN 1) (fit_i64 (by omega))) ?_
         | refine wl_v (x_addI (tmI rfl rfl) (ev_cN 1) (IntWalk.i64_in _ (by omega))) ?_
         | refine wl_v (x_add (tmI rfl rfl) (ev_cN 1)) ?_
        refine wl_v (x_move (tmI rfl rfl)) ?_
        refine wl_nil ?_
        exact then_n ⟨_, _, rfl, (by show _ < _; omega), (by repeat (first | exact agree_self | exact agree_refl | refine agree_upd rfl ?_ | refine agree_mix rfl ?_)), k + 1, rfl, (by first | rfl | go_num | exact congrArg (Value.int _) (by first | omega | (simp; done) | (simp; omega))), (hS.pick [1, 2, 3] rfl rfl), (by omega), (by first | (intro i hi; omega) | exact hz1)⟩
set_option maxRecDepth 100000 in
set_option maxHeartbeats 4000000 in
theorem i_learn_c (nx : Value) (F : List Nat) (gs : Nat) (v0 : Value) (n : Nat) (A : Option Addr) (c : Nat) (l : List Cn) (w0 : World) (hS : St F w0 [.blk gs 58 [nx, v0], .vw A (flat cnV l)] w0) (hl : l.length = n) (hn4 : n ≤ 1000000) :
    Calls Try.prog 21 #[.pointer (some ⟨gs, 1, none⟩), .slice A n c] w0 fun e w' => ∃ K' c', e = .returned (.tuple #[]) ∧ St F w0 [.row (.slice K' n c') 66 3 n (flat crV (l.map fresh)), .blk gs 58 [nx, .slice K' n c'], .vw A (flat cnV l)] w' := by
  refine ent (n := 30) Try.func21 rfl rfl ?_
  refine wp_seq_k ?_; intro K1 hK1
  refine wlit ?_
  refine wl_v (x_move (tmP rfl rfl)) ?_
  refine wl_v (x_nil (A := none) (tmP rfl rfl)) ?_
  refine wl_v (x_fa 0 Try.underlying27 rfl rfl ts_25 (tmP rfl rfl)) ?_
  refine wl_e rfl ?_; intro K hK
  first
   | refine ow_store hS 0 rfl ts_25 (tmP rfl rfl) ev_c rfl rfl ?_
   | refine ow_storeX hS 0 rfl ts_25 (tmP rfl rfl) ev_c rfl (by simp; omega) ?_
   | refine ow_storeRs hS 0 rfl ts_25 (tmP rfl rfl) ev_c rfl (by first | omega | (simp; omega)) ?_
   | refine ow_storeR hS 0 rfl ts_25 (tmP rfl rfl) ev_c rfl (by first | omega | (simp; omega)) ?_
   | refine ow_store hS 1 rfl ts_25 (tmP rfl rfl) ev_c rfl rfl ?_
   | refine ow_storeX hS 1 rfl ts_25 (tmP rfl rfl) ev_c rfl (by simp; omega) ?_
   | refine ow_storeRs hS 1 rfl ts_25 (tmP rfl rfl) ev_c rfl (by first | omega | (simp; omega)) ?_
   | refine ow_storeR hS 1 rfl ts_25 (tmP rfl rfl) ev_c rfl (by first | omega | (simp; omega)) ?_
  clear hS; intro w hS
  refine hK _ _ ?_; clear hK K
  refine wl_nil ?_
  refine then_n (hK1 _ _ ?_); clear hK1 K1
  refine wp_seq_k ?_; intro K2 hK2
  refine wlit ?_
  refine wl_v (x_move (tmS rfl rfl)) ?_
  refine wl_v (x_len Try.underlying36 (tmS rfl rfl)) ?_
  refine wl_v (x_move (ev_cN 0)) ?_
  refine wl_nil ?_
  refine then_n (hK2 _ _ ?_); clear hK2 K2
  refine wp_block ?_
  have hS := hS.nilrow 66 3
  refine lp [5, 11, 12, 13, 14, 15, 16, 17, 18, 19, 20, 21, 22, 23, 24, 25, 26, 27, 28, 29] (fun mz g w => ∃ (k : Nat), ∃ (K' : Option Addr), ∃ (c' : Nat), mz = n - k ∧ g 11 = .int .i64 (k : Int) ∧ St F w0 [.row (.slice K' k c') 66 3 k (flat crV ((l.take k).map fresh)), .blk gs 58 [nx, .slice K' k c'], .vw A (flat cnV l)] w ∧ (k ≤ n)) ?_ ?_
  · exact ⟨_, 0, none, 0, rfl, (by first | rfl | go_num | exact congrArg (Value.int _) (by first | omega | (simp; done) | (simp; omega))), hS, (by omega)⟩
  · clear hS; intro mz g w hI
    obtain ⟨k, K', c', rfl, hs11, hS, hk⟩ := hI
    refine fr_know (d := 11) hs11 ?_; clear hs11
    refine wp_seq_k ?_; intro K3 hK3
    refine wlit ?_
    refine wl_v (x_lss (tmI rfl rfl) (tmI rfl rfl)) ?_
    refine wl_nil ?_
    refine then_n (hK3 _ _ ?_); clear hK3 K3
    refine wp_seq_k ?_; intro K4 hK4
    refine cnd (tm rfl) (fun hc0 => ?_) (fun hc0 => ?_)
    · try (exfalso; first | with_reducible exact absurd hc0 Bool.false_ne_true | with_reducible exact absurd hc0.symm Bool.false_ne_true | (simp only [nrm] at hc0; omega) | (simp at hc0; done))
      all_goals
       try simp only [nrm] at hc0
       obtain ⟨b4, o4, rfl⟩ := view_some (viewV hS.ok 2 rfl) (by rw [flat_length cnV_len]; omega)
       refine wp_skip ?_
       refine then_n (hK4 _ _ ?_); clear hK4 K4
       refine wp_seq_k ?_; intro K5 hK5
       refine wp_block ?_
       refine wp_seq_k ?_; intro K6 hK6
       refine wlit ?_
       refine wl_v (x_ixs Try.underlying36 ts_33 (tmS rfl rfl) (tmI rfl rfl) (by omega)) ?_
       first
        | refine wl_v (x_loadA (cs := [_, _, _, _]) Try.underlying33 rfl ts_33 (tmP rfl rfl) (rangeB hS.ok 1 rfl rfl)) ?_
        | refine wl_v (x_loadA Try.underlying33 rfl (by exact ts_33) (tmP rfl rfl) (rangeRs hS.ok 0 rfl (fun _ => rfl) (by omega))) ?_
        | refine wl_v (x_loadA Try.underlying33 rfl (by exact ts_33) (tmP rfl rfl) (rangeVs hS.ok 2 rfl (fun _ => rfl) (by omega))) ?_
       refine wl_e rfl ?_; intro K hK
       refine ow_alloc hS tz_33 rfl ?_
       clear hS; intro g3_2 w hg3_2 hS
       refine hK _ _ ?_; clear hK K
       refine wl_e rfl ?_; intro K hK
       refine ow_storeA hS 0 rfl ts_33 (tmP rfl rfl) (tmA rfl rfl) rfl rfl rfl ?_
       clear hS; intro w hS
       try replace hS := St.nm (M' := [.blk _ _ [_, _, _, _], .row _ _ _ _ _, _, .vw _ _]) hS rfl
       refine hK _ _ ?_; clear hK K
       refine wl_nil ?_
       refine then_n (hK6 _ _ ?_); clear hK6 K6
       --ents row,gs,g3_2,vw
       replace hS := hS.pick [1, 2, 0, 3] rfl rfl
       try replace hS := St.nm (M' := [.row _ _ _ _ _, _, .blk _ _ [_, _, _, _], .vw _ _]) hS rfl
       refine rg_startk 2 hS mixed_ ?_
       clear hS; intro w hS
       refine rg_take 0 rfl rfl (by kernel_rfl) (by kernel_rfl) (by kernel_rfl) (want_0) (fun w hok => x_move (tmP rfl rfl)) ?_
       refine rg_take 1 rfl rfl (by kernel_rfl) (by kernel_rfl) (by kernel_rfl) (want_0) (fun w hok => x_move (tmP rfl rfl)) ?_
       refine rg_take 2 rfl rfl (by kernel_rfl) (by kernel_rfl) (by kernel_rfl) (want_0) (fun w hok => x_nil (A := none) (tmP rfl rfl)) ?_
       refine rg_take 3 rfl rfl (by kernel_rfl) (by kernel_rfl) (by kernel_rfl) (want_0) (fun w hok => x_fa 0 Try.underlying27 rfl rfl ts_25 (tmP rfl rfl)) ?_
       refine rg_take 5 rfl rfl (by kernel_rfl) (by kernel_rfl) (by kernel_rfl) (want_0) (fun w hok => x_fa 1 Try.underlying33 rfl rfl ts_3 (tmP rfl rfl)) ?_
       first
        | refine rg_take 6 rfl rfl (by kernel_rfl) (by kernel_rfl) (by kernel_rfl) (want_0) (fun w hok => x_load Try.underlying3 rfl (tmP rfl rfl) (cellB hok 0 rfl rfl)) ?_
        | refine rg_take 6 rfl rfl (by kernel_rfl) (by kernel_rfl) (by kernel_rfl) (want_0) (fun w hok => x_load Try.underlying3 rfl (tmP rfl rfl) (cellB hok 0 rfl (getm (by omega)))) ?_
       refine rg_take 7 rfl rfl (by kernel_rfl) (by kernel_rfl) (by kernel_rfl) (want_0) (fun w hok => x_fa 2 Try.underlying33 rfl rfl ts_3 (tmP rfl rfl)) ?_
       first
        | refine rg_take 8 rfl rfl (by kernel_rfl) (by kernel_rfl) (by kernel_rfl) (want_0) (fun w hok => x_load Try.underlying3 rfl (tmP rfl rfl) (cellB hok 0 rfl rfl)) ?_
        | refine rg_take 8 rfl rfl (by kernel_rfl) (by kernel_rfl) (by kernel_rfl) (want_0) (fun w hok => x_load Try.underlying3 rfl (tmP rfl rfl) (cellB hok 0 rfl (getm (by omega)))) ?_
       refine rg_take 9 rfl rfl (by kernel_rfl) (by kernel_rfl) (by kernel_rfl) (want_0) (fun w hok => x_build (bc_take (tmI rfl rfl) <| bc_take (tmI rfl rfl) <| bc_skip (.int .i64 0) <| bc_nil) (by kernel_rfl)) ?_
       refine rg_step2 4 10 rfl rfl (by kernel_rfl) (want_0) (want_0) (oks_drop hS 2 rfl) ?_ ?_
       · intro K hK
         first
          | refine ow_v (x_load Try.underlying25 rfl (tmP rfl rfl) (cellB hS.ok 1 rfl rfl)) ?_
          | refine ow_v (x_load Try.underlying25 rfl (tmP rfl rfl) (cellR hS.ok 0 rfl rfl)) ?_
          | refine ow_v (x_load Try.underlying25 rfl (tmP rfl rfl) (cellR hS.ok 0 rfl (getm (by omega)))) ?_
          | refine ow_v (x_load Try.underlying25 rfl (tmP rfl rfl) (cellRs hS.ok 0 rfl (fun _ => rfl) rfl (by omega) rfl)) ?_
          | refine ow_v (x_load Try.underlying25 rfl (tmP rfl rfl) (cellV hS.ok 3 rfl rfl)) ?_
          | refine ow_v (x_load Try.underlying25 rfl (tmP rfl rfl) (cellV hS.ok 3 rfl (getm (by omega)))) ?_
          | refine ow_v (x_load Try.underlying25 rfl (tmP rfl rfl) (cellVs hS.ok 3 rfl (fun _ => rfl) rfl (by omega) rfl)) ?_
         refine hK _ _ ?_; clear hK K
         refine rg_step 10 rfl (by kernel_rfl) (want_0) (oks_drop hS 2 rfl) ?_; intro K hK
         refine ow_build hS Try.underlying25 tz_66 (bc_takeL (tmA rfl rfl) <| bc_nil) rfl rfl (by kernel_rfl) ?_
         clear hS; intro g4_10 w hg4_10 hS
         refine hK _ _ ?_; clear hK K
         refine rg_step 11 rfl (by kernel_rfl) (want_0) (oks_drop hS 3 rfl) ?_; intro K hK
         (refine ow_append hS 1 0 rfl rfl Try.underlying25 tz_66 rfl (tmS rfl rfl) (tmS rfl rfl) rfl ⟨by decide, by decide, rfl⟩ (by simp only [maxLen]; omega) (by omega) ?_; clear hS; intro g4_11 cg4_11 w hS)
         refine hK _ _ ?_; clear hK K
         refine rg_take 12 rfl rfl (by kernel_rfl) (by kernel_rfl) (by kernel_rfl) (want_0) (fun w hok => x_nil (A := none) (tmP rfl rfl)) ?_
         refine rg_take 13 rfl rfl (by kernel_rfl) (by kernel_rfl) (by kernel_rfl) (want_0) (fun w hok => x_fa 0 Try.underlying27 rfl rfl ts_25 (tmP rfl rfl)) ?_
         refine rg_step 14 rfl (by kernel_rfl) (want_0) (oks_drop hS 3 rfl) ?_; intro K hK
         first
          | refine ow_store hS 1 rfl ts_25 (tmP rfl rfl) (tmS rfl rfl) rfl rfl ?_
          | refine ow_storeX hS 1 rfl ts_25 (tmP rfl rfl) (tmS rfl rfl) rfl (by simp; omega) ?_
          | refine ow_storeRs hS 1 rfl ts_25 (tmP rfl rfl) (tmS rfl rfl) rfl (by first | omega | (simp; omega)) ?_
          | refine ow_storeR hS 1 rfl ts_25 (tmP rfl rfl) (tmS rfl rfl) rfl (by first | omega | (simp; omega)) ?_
          | refine ow_store hS 2 rfl ts_25 (tmP rfl rfl) (tmS rfl rfl) rfl rfl ?_
          | refine ow_storeX hS 2 rfl ts_25 (tmP rfl rfl) (tmS rfl rfl) rfl (by simp; omega) ?_
          | refine ow_storeRs hS 2 rfl ts_25 (tmP rfl rfl) (tmS rfl rfl) rfl (by first | omega | (simp; omega)) ?_
          | refine ow_storeR hS 2 rfl ts_25 (tmP rfl rfl) (tmS rfl rfl) rfl (by first | omega | (simp; omega)) ?_
         clear hS; intro w hS
         refine hK _ _ ?_; clear hK K
         refine rg_done (oks_drop hS 3 rfl) (by kernel_rfl) ?_
         refine inb_n ?_
         refine then_n (hK5 _ _ ?_); clear hK5 K5
         refine wlit ?_
         first
          | refine wl_v (x_addN (tmI rfl rfl) (ev_cN 1) (fit_i64 (by omega))) ?_
          | refine wl_v (x_addI (tmI rfl rfl) (ev_cN 1) (IntWalk.i64_in _ (by omega))) ?_
          | refine wl_v (x_add (tmI rfl rfl) (ev_cN 1)) ?_
         refine wl_v (x_move (tmI rfl rfl)) ?_
         refine wl_nil ?_
         have hx : flat crV ((l.take (k + 1)).map fresh) = flat crV ((l.take k).map fresh) ++ crV (fresh (l.getD k default)) := by rw [List.take_succ_eq_append_getElem (by omega), List.map_append, List.map_singleton, flat_snoc, List.getD_eq_getElem?_getD, List.getElem?_eq_getElem (by omega)]; rfl
         exact then_n ⟨_, _, rfl, (by show _ < _; omega), (by repeat (first | exact agree_self | exact agree_refl | refine agree_upd rfl ?_ | refine agree_mix rfl ?_)), k + 1, _, _, rfl, (by first | rfl | go_num | exact congrArg (Value.int _) (by first | omega | (simp; done) | (simp; omega))), (by rw [hx]; exact hS.pick [1, 2, 4] rfl rfl), (by omega)⟩
       · intro K hK
         refine ow_build hS Try.underlying25 tz_66 (bc_takeL (tmA rfl rfl) <| bc_nil) rfl rfl (by kernel_rfl) ?_
         clear hS; intro g4_10 w hg4_10 hS
         refine hK _ _ ?_; clear hK K
         refine rg_step 4 rfl (by kernel_rfl) (want_0) (oks_drop hS 3 rfl) ?_; intro K hK
         first
          | refine ow_v (x_load Try.underlying25 rfl (tmP rfl rfl) (cellB hS.ok 0 rfl rfl)) ?_
          | refine ow_v (x_load Try.underlying25 rfl (tmP rfl rfl) (cellB hS.ok 2 rfl rfl)) ?_
          | refine ow_v (x_load Try.underlying25 rfl (tmP rfl rfl) (cellR hS.ok 1 rfl rfl)) ?_
          | refine ow_v (x_load Try.underlying25 rfl (tmP rfl rfl) (cellR hS.ok 1 rfl (getm (by omega)))) ?_
          | refine ow_v (x_load Try.underlying25 rfl (tmP rfl rfl) (cellRs hS.ok 1 rfl (fun _ => rfl) rfl (by omega) rfl)) ?_
          | refine ow_v (x_load Try.underlying25 rfl (tmP rfl rfl) (cellV hS.ok 4 rfl rfl)) ?_
          | refine ow_v (x_load Try.underlying25 rfl (tmP rfl rfl) (cellV hS.ok 4 rfl (getm (by omega)))) ?_
          | refine ow_v (x_load Try.underlying25 rfl (tmP rfl rfl) (cellVs hS.ok 4 rfl (fun _ => rfl) rfl (by omega) rfl)) ?_
         refine hK _ _ ?_; clear hK K
         refine rg_step 11 rfl (by kernel_rfl) (want_0) (oks_drop hS 3 rfl) ?_; intro K hK
         (refine ow_append hS 1 0 rfl rfl Try.underlying25 tz_66 rfl (tmS rfl rfl) (tmS rfl rfl) rfl ⟨by decide, by decide, rfl⟩ (by simp only [maxLen]; omega) (by omega) ?_; clear hS; intro g4_11 cg4_11 w hS)
         refine hK _ _ ?_; clear hK K
         refine rg_take 12 rfl rfl (by kernel_rfl) (by kernel_rfl) (by kernel_rfl) (want_0) (fun w hok => x_nil (A := none) (tmP rfl rfl)) ?_
         refine rg_take 13 rfl rfl (by kernel_rfl) (by kernel_rfl) (by kernel_rfl) (want_0) (fun w hok => x_fa 0 Try.underlying27 rfl rfl ts_25 (tmP rfl rfl)) ?_
         refine rg_step 14 rfl (by kernel_rfl) (want_0) (oks_drop hS 3 rfl) ?_; intro K hK
         first
          | refine ow_store hS 1 rfl ts_25 (tmP rfl rfl) (tmS rfl rfl) rfl rfl ?_
          | refine ow_storeX hS 1 rfl ts_25 (tmP rfl rfl) (tmS rfl rfl) rfl (by simp; omega) ?_
          | refine ow_storeRs hS 1 rfl ts_25 (tmP rfl rfl) (tmS rfl rfl) rfl (by first | omega | (simp; omega)) ?_
          | refine ow_storeR hS 1 rfl ts_25 (tmP rfl rfl) (tmS rfl rfl) rfl (by first | omega | (simp; omega)) ?_
          | refine ow_store hS 2 rfl ts_25 (tmP rfl rfl) (tmS rfl rfl) rfl rfl ?_
          | refine ow_storeX hS 2 rfl ts_25 (tmP rfl rfl) (tmS rfl rfl) rfl (by simp; omega) ?_
          | refine ow_storeRs hS 2 rfl ts_25 (tmP rfl rfl) (tmS rfl rfl) rfl (by first | omega | (simp; omega)) ?_
          | refine ow_storeR hS 2 rfl ts_25 (tmP rfl rfl) (tmS rfl rfl) rfl (by first | omega | (simp; omega)) ?_
         clear hS; intro w hS
         refine hK _ _ ?_; clear hK K
         refine rg_done (oks_drop hS 3 rfl) (by kernel_rfl) ?_
         refine inb_n ?_
         refine then_n (hK5 _ _ ?_); clear hK5 K5
         refine wlit ?_
         first
          | refine wl_v (x_addN (tmI rfl rfl) (ev_cN 1) (fit_i64 (by omega))) ?_
          | refine wl_v (x_addI (tmI rfl rfl) (ev_cN 1) (IntWalk.i64_in _ (by omega))) ?_
          | refine wl_v (x_add (tmI rfl rfl) (ev_cN 1)) ?_
         refine wl_v (x_move (tmI rfl rfl)) ?_
         refine wl_nil ?_
         have hx : flat crV ((l.take (k + 1)).map fresh) = flat crV ((l.take k).map fresh) ++ crV (fresh (l.getD k default)) := by rw [List.take_succ_eq_append_getElem (by omega), List.map_append, List.map_singleton, flat_snoc, List.getD_eq_getElem?_getD, List.getElem?_eq_getElem (by omega)]; rfl
         exact then_n ⟨_, _, rfl, (by show _ < _; omega), (by repeat (first | exact agree_self | exact agree_refl | refine agree_upd rfl ?_ | refine agree_mix rfl ?_)), k + 1, _, _, rfl, (by first | rfl | go_num | exact congrArg (Value.int _) (by first | omega | (simp; done) | (simp; omega))), (by rw [hx]; exact hS.pick [1, 2, 4] rfl rfl), (by omega)⟩
    try (exfalso; first | with_reducible exact absurd hc0 Bool.false_ne_true | with_reducible exact absurd hc0.symm Bool.false_ne_true | (simp only [nrm] at hc0; omega) | (simp at hc0; done))
    all_goals
     try simp only [nrm] at hc0
     refine wp_exit ?_
     refine then_x ?_; clear hK4 K4
     refine then_x ?_
     refine inb_x ?_
     refine end_n ?_
     refine ret0 rfl ?_
     obtain rfl : n = k := by omega
     rw [List.take_of_length_le (by omega)] at hS
     exact ⟨_, _, rfl, hS⟩
theorem i_knows_c (gs : Nat) (K : Option Addr) (m ck : Nat) (ks : List Cr) (n : Nat) (A : Option Addr) (c : Nat) (l : List Cn) (w0 : World) (hvs : View w0 w0.heap.size (some ⟨gs, 1, none⟩) [.slice K m ck]) (hvk : View w0 w0.heap.size K (flat crV ks)) (hv : View w0 w0.heap.size A (flat cnV l))
    (hl : l.length = n) (hm : ks.length = m) (hn4 : n ≤ 1000000) :
    Calls Try.prog 20 #[.pointer (some ⟨gs, 1, none⟩), .slice A n c] w0 fun e w' => e = .returned (.bool (sameB l ks)) ∧ Kp [] w0 w' := by
  by_cases h : SameP l ks
  · rw [sameB_yes h]; exact i_knows_yes gs K m ck ks n A c l w0 hvs hvk hv hl hm hn4 h
  · rw [sameB_no h]; exact i_knows_no gs K m ck ks n A c l w0 hvs hvk hv hl hm hn4 h

set_option maxRecDepth 100000 in
set_option maxHeartbeats 4000000 in
theorem i_pick_c (nx : Value) (gs : Nat) (Ka : Option Addr) (m ck : Nat) (ks : List Cr) (n : Nat) (A : Option Addr) (c : Nat) (l : List Cn) (F : List Nat) (w0 : World)
    (hS : St F w0 [.row (.slice Ka m ck) 66 3 m (flat crV ks), .blk gs 58 [nx, .slice Ka m ck], .vw A (flat cnV l)] w0)
    (hl : l.length = n) (hm : ks.length = m) (hn4 : n ≤ 1000) (hmild : Mild (startP (wfT l n) ks)) (hq0 : 0 < (wfT l n).length) :
    Calls Try.prog 8 #[.pointer (some ⟨gs, 1, none⟩), .slice A n c] w0 fun e w' => ∃ K' ck',
      e = .returned (.tuple #[.agg (cnV ((wfT l n).getD (besP (startP (wfT l n) ks) (wfT l n).length) default)).toArray, .bool true]) ∧
      St F w0 [.row (.slice K' (wfT l n).length ck') 66 3 (wfT l n).length (flat crV (payP (startP (wfT l n) ks))), .blk gs 58 [nx, .slice K' (wfT l n).length ck'], .vw A (flat cnV l)] w' := by
  have hqn : (wfT l n).length ≤ n := wfT_le l n
  generalize hwt : wfT l n = wt at *
  generalize hkr : startP wt ks = kr at *
  have hkl : kr.length = wt.length := by
    rw [← hkr]; unfold startP
    split
    · rename_i h1; exact ((of_sameB h1).1).symm
    · simp
  refine ent (n := 98) Try.func8 rfl rfl ?_
  refine wp_seq_k ?_; intro K1 hK1
  refine wlit ?_
  refine wl_e rfl ?_; intro K hK
  refine ow_alloc hS tz_33 rfl ?_
  clear hS; intro g0_0 w hg0_0 hS
  refine hK _ _ ?_; clear hK K
  refine wl_v (x_assign ev_c) ?_
  refine wl_nil ?_
  refine then_n (hK1 _ _ ?_); clear hK1 K1
  refine wp_seq_k ?_; intro K2 hK2
  refine wlit ?_
  refine wl_v (x_move (tmS rfl rfl)) ?_
  refine wl_e rfl ?_; intro K hK
  refine ow_call Try.func19 rfl rfl (evs_cons (tmS rfl rfl) <| evs_nil) (weighing_c n A c l _ (viewV hS.ok 3 rfl) hl (by omega)) ?_
  rintro e w ⟨q1, A1, c1, rfl, hq1, hn1, hk1⟩
  refine ⟨_, rfl, ?_⟩
  rw [hwt] at hq1 hn1
  subst hq1
  replace hS := hS.add hk1 hn1 -- +1
  clear hn1 hk1
  refine hK _ _ ?_; clear hK K
  refine wl_v (x_assign (tmS rfl rfl)) ?_
  refine wl_nil ?_
  refine then_n (hK2 _ _ ?_); clear hK2 K2
  refine wp_seq_k ?_; intro K3 hK3
  refine wp_seq_k ?_; intro K4 hK4
  refine wlit ?_
  refine wl_v (x_move (tmP rfl rfl)) ?_
  first
   | refine wl_v (x_peql Try.underlying24 (tmP rfl rfl) ev_c) ?_
   | refine wl_v (x_peqln Try.underlying24 (tmP rfl rfl) ev_c) ?_
  refine wl_v (x_move (tmB rfl rfl)) ?_
  refine gs_wl (tm (t := 13) rfl) (fun hg2_2 => ?_) (fun hg2_2 => ?_)
  · have hg2_2' := hg2_2; (try simp only [nrm] at hg2_2'); try (exfalso; first | with_reducible exact absurd hg2_2 Bool.false_ne_true | with_reducible exact absurd hg2_2.symm Bool.false_ne_true | omega | (simp at hg2_2; done))
    all_goals
     refine wl_s rfl (want_n rfl rfl rfl rfl (by rw [hg2_2]; rfl)) ?_
     refine wl_s rfl (want_n rfl rfl rfl rfl (by rw [hg2_2]; rfl)) ?_
     refine wl_s rfl (want_n rfl rfl rfl rfl (by rw [hg2_2]; rfl)) ?_
     refine wl_v (x_pickT (tmB rfl rfl) hg2_2 ev_c) ?_
     refine wl_nil ?_
     refine then_n (hK4 _ _ ?_); clear hK4 K4
     refine cnd_t (tmB rfl rfl) rfl ?_
     refine wp_seq_k ?_; intro K5 hK5
     refine wlit ?_
     refine wl_v (x_build (bc_skip (.int .i64 0) <| bc_skip (.int .i64 0) <| bc_skip (.int .i64 0) <| bc_skip (.int .u32 0) <| bc_nil) (by kernel_rfl)) ?_
     refine wl_e rfl ?_; intro K hK
     refine ow_storeA hS 1 rfl ts_33 (tmP rfl rfl) (tmA rfl rfl) rfl rfl rfl ?_
     clear hS; intro w hS
     try replace hS := St.nm (M' := [_, .blk _ _ [_, _, _, _], .row _ _ _ _ _, _, .vw _ _]) hS rfl
     refine hK _ _ ?_; clear hK K
     refine wl_v (x_assign ev_c) ?_
     refine wl_nil ?_
     refine then_n (hK5 _ _ ?_); clear hK5 K5
     refine wp_ret ?_
     refine then_r ?_
     refine ret2 rfl (.cell rfl rfl (load_rowB (cs := [_, _, _, _]) hS.ok 1 rfl Try.underlying33 rfl ts_33 rfl)) (.tmp rfl (show _ = Value.bool _ from rfl)) ?_
     refine ⟨some ⟨gk, 0, none⟩, c2, rfl, ?_⟩
     unfold payP
     rw [hkl]
     exact hS.pick [0, 1, 4] rfl rfl
  have hg2_2' := hg2_2; (try simp only [nrm] at hg2_2'); try (exfalso; first | with_reducible exact absurd hg2_2 Bool.false_ne_true | with_reducible exact absurd hg2_2.symm Bool.false_ne_true | omega | (simp at hg2_2; done))
  all_goals
   refine wl_gv (want_y rfl rfl rfl rfl (by rw [hg2_2]; rfl)) (x_move (tmS rfl rfl)) ?_
   refine wl_gv (want_y rfl rfl rfl rfl (by rw [hg2_2]; rfl)) (x_len Try.underlying36 (tmS rfl rfl)) ?_
   refine wl_gv (want_y rfl rfl rfl rfl (by rw [hg2_2]; rfl)) (x_eql (tmI rfl rfl) (ev_cN 0)) ?_
   refine wl_v (x_pickF (tmB rfl rfl) hg2_2 (tmB rfl rfl)) ?_
   refine wl_nil ?_
   refine then_n (hK4 _ _ ?_); clear hK4 K4
   refine cnd (tm rfl) (fun hc0 => ?_) (fun hc0 => ?_)
   · exfalso
     simp only [nrm] at hc0; omega
   try (exfalso; first | with_reducible exact absurd hc0 Bool.false_ne_true | with_reducible exact absurd hc0.symm Bool.false_ne_true | (simp only [nrm] at hc0; omega) | (simp at hc0; done))
   all_goals
    try simp only [nrm] at hc0
    refine wp_skip ?_
    refine then_n (hK3 _ _ ?_); clear hK3 K3
    refine wp_seq_k ?_; intro K7 hK7
    refine wp_seq_k ?_; intro K8 hK8
    refine wlit ?_
    refine wl_v (x_move (tmP rfl rfl)) ?_
    refine wl_v (x_move (tmS rfl rfl)) ?_
    refine wl_e rfl ?_; intro K hK
    refine ow_call Try.func20 rfl rfl (evs_cons (tmP rfl rfl) <| evs_cons (tmS rfl rfl) <| evs_nil) (i_knows_c gs Ka m ck ks wt.length A1 c1 wt _ (viewB1 hS.ok 3 rfl) (viewR hS.ok 2 rfl) (viewR hS.ok 0 rfl) rfl hm (by omega)) ?_
    rintro e w ⟨rfl, hk1⟩
    refine ⟨_, rfl, ?_⟩
    replace hS := hS.kept hk1
    clear hk1
    refine hK _ _ ?_; clear hK K
    refine wl_v (x_not (tmB rfl rfl)) ?_
    refine wl_nil ?_
    refine then_n (hK8 _ _ ?_); clear hK8 K8
    refine cutc [23, 24, 25] (fun g w => ∃ (K2 : Option Addr), ∃ (c2 : Nat), St F w0 [.row (.slice K2 wt.length c2) 66 3 wt.length (flat crV kr), .blk gs 58 [nx, .slice K2 wt.length c2], .row (.slice A1 wt.length c1) 33 4 wt.length (flat cnV wt), .blk g0_0 33 [.int .i64 0, .int .i64 0, .int .i64 0, .int .u32 0], .vw A (flat cnV l)] w) ?_ ?_
    · skip
      refine cnd (tm rfl) (fun hc1 => ?_) (fun hc1 => ?_)
      · try (exfalso; first | with_reducible exact absurd hc1 Bool.false_ne_true | with_reducible exact absurd hc1.symm Bool.false_ne_true | (simp only [nrm] at hc1; omega) | (simp at hc1; done))
        all_goals
         try simp only [nrm] at hc1
         have hkr' : kr = wt.map fresh := by rw [← hkr]; unfold startP; rw [if_neg (by simpa using hc1)]
         refine wlit ?_
         refine wl_v (x_move (tmP rfl rfl)) ?_
         refine wl_v (x_move (tmS rfl rfl)) ?_
         refine wl_e rfl ?_; intro K hK
         refine ow_call Try.func21 rfl rfl (evs_cons (tmP rfl rfl) <| evs_cons (tmS rfl rfl) <| evs_nil) (i_learn_c nx _ gs (.slice Ka m ck) wt.length A1 c1 wt _ (hS.enter [3] [0] rfl rfl) rfl (by omega)) ?_
         rintro e w ⟨K2, c2, rfl, hS2⟩
         refine ⟨_, rfl, ?_⟩
         replace hS := hS.leave [3] [0, 1, 4] rfl rfl rfl (hS2.pick [0, 1] rfl rfl) rfl
         clear hS2
         try replace hS := St.nm (M' := [_, .blk _ _ [_, _, _, _], .row _ _ _ _ _, _, .vw _ _]) hS rfl
         refine hK _ _ ?_; clear hK K
         refine wl_nil ?_
         rw [← hkr'] at hS
         exact then_n ⟨_, rfl, (by repeat (first | exact agree_self | exact agree_refl | refine agree_upd rfl ?_ | refine agree_mix rfl ?_)), _, _, hS⟩
      try (exfalso; first | with_reducible exact absurd hc1 Bool.false_ne_true | with_reducible exact absurd hc1.symm Bool.false_ne_true | (simp only [nrm] at hc1; omega) | (simp at hc1; done))
      all_goals
       try simp only [nrm] at hc1
       have hkr' : kr = ks := by rw [← hkr]; unfold startP; rw [if_pos (by simpa using hc1)]
       have hml : m = wt.length := by rw [← hm, ← hkr']; exact hkl
       subst hml
       rw [← hkr'] at hS
       replace hS := hS.pick [2, 3, 0, 1, 4] rfl rfl
       try replace hS := St.nm (M' := [_, .blk _ _ [_, _, _, _], .row _ _ _ _ _, _, .vw _ _]) hS rfl
       refine wp_skip ?_
       exact then_n ⟨_, rfl, (by repeat (first | exact agree_self | exact agree_refl | refine agree_upd rfl ?_ | refine agree_mix rfl ?_)), _, _, hS⟩
    · clear hS; intro g w hI
      obtain ⟨K2, c2, hS⟩ := hI
      refine then_n (hK7 _ _ ?_); clear hK7 K7
      refine wp_seq_k ?_; intro K10 hK10
      refine wlit ?_
      refine wl_v (x_assign (ev_cN 0)) ?_
      refine wl_v (x_assign (ev_cN 0)) ?_
      refine wl_nil ?_
      refine then_n (hK10 _ _ ?_); clear hK10 K10
      refine wp_seq_k ?_; intro K11 hK11
      refine wp_seq_k ?_; intro K12 hK12
      refine wlit ?_
      refine wl_v (x_move (tmP rfl rfl)) ?_
      refine wl_v (x_nil (A := none) (tmP rfl rfl)) ?_
      refine wl_v (x_fa 0 Try.underlying27 rfl rfl ts_25 (tmP rfl rfl)) ?_
      first
       | refine wl_v (x_load Try.underlying25 rfl (tmP rfl rfl) (cellB hS.ok 1 rfl rfl)) ?_
       | refine wl_v (x_load Try.underlying25 rfl (tmP rfl rfl) (cellR hS.ok 0 rfl rfl)) ?_
       | refine wl_v (x_load Try.underlying25 rfl (tmP rfl rfl) (cellR hS.ok 0 rfl (getm (by omega)))) ?_
       | refine wl_v (x_load Try.underlying25 rfl (tmP rfl rfl) (cellRs hS.ok 0 rfl (fun _ => rfl) rfl (by omega) rfl)) ?_
       | refine wl_v (x_load Try.underlying25 rfl (tmP rfl rfl) (cellR hS.ok 2 rfl rfl)) ?_
       | refine wl_v (x_load Try.underlying25 rfl (tmP rfl rfl) (cellR hS.ok 2 rfl (getm (by omega)))) ?_
       | refine wl_v (x_load Try.underlying25 rfl (tmP rfl rfl) (cellRs hS.ok 2 rfl (fun _ => rfl) rfl (by omega) rfl)) ?_
       | refine wl_v (x_load Try.underlying25 rfl (tmP rfl rfl) (cellV hS.ok 4 rfl rfl)) ?_
       | refine wl_v (x_load Try.underlying25 rfl (tmP rfl rfl) (cellV hS.ok 4 rfl (getm (by omega)))) ?_
       | refine wl_v (x_load Try.underlying25 rfl (tmP rfl rfl) (cellVs hS.ok 4 rfl (fun _ => rfl) rfl (by omega) rfl)) ?_
      refine wl_v (x_len Try.underlying25 (tmS rfl rfl)) ?_
      refine wl_v (x_move (ev_cN 0)) ?_
      refine wl_nil ?_
      refine then_n (hK12 _ _ ?_); clear hK12 K12
      refine wp_block ?_
      refine lp [6, 7, 8, 31, 32, 33, 34, 35, 36, 37, 38, 39, 40, 41, 42, 43, 44, 45, 46, 47, 48, 49, 50, 51, 52, 53, 54, 55, 56, 57, 58, 59, 60, 61, 62, 63, 64, 65, 66, 67, 68, 69, 70, 71, 72, 73, 74, 75, 76, 77, 78, 79, 80, 81] (fun mz g w => ∃ (k : Nat), mz = wt.length - k ∧ g 31 = .int .i64 (k : Int) ∧ g 7 = .int .i64 (totP kr k) ∧ g 6 = .int .i64 (besP kr k : Int) ∧ St F w0 [.row (.slice K2 wt.length c2) 66 3 wt.length (flat crV (addP kr k)), .blk gs 58 [nx, .slice K2 wt.length c2], .row (.slice A1 wt.length c1) 33 4 wt.length (flat cnV wt), .blk g0_0 33 [.int .i64 0, .int .i64 0, .int .i64 0, .int .u32 0], .vw A (flat cnV l)] w ∧ (k ≤ wt.length)) ?_ ?_
      · exact ⟨_, 0, rfl, (by first | rfl | go_num | exact congrArg (Value.int _) (by first | omega | (simp; done) | (simp; omega))), (by first | rfl | go_num | exact congrArg (Value.int _) (by first | omega | (simp; done) | (simp; omega))), (by first | rfl | go_num | exact congrArg (Value.int _) (by first | omega | (simp; done) | (simp; omega))), hS, (by omega)⟩
      · clear hS; intro mz g w hI
        obtain ⟨k, rfl, hs31, hs7, hs6, hS, hk⟩ := hI
        refine fr_know (d := 31) hs31 ?_; clear hs31
        refine fr_know (d := 7) hs7 ?_; clear hs7
        refine fr_know (d := 6) hs6 ?_; clear hs6
        refine wp_seq_k ?_; intro K13 hK13
        refine wlit ?_
        refine wl_v (x_lss (tmI rfl rfl) (tmI rfl rfl)) ?_
        refine wl_nil ?_
        refine then_n (hK13 _ _ ?_); clear hK13 K13
        refine wp_seq_k ?_; intro K14 hK14
        refine cnd (tm rfl) (fun hc2 => ?_) (fun hc2 => ?_)
        · try (exfalso; first | with_reducible exact absurd hc2 Bool.false_ne_true | with_reducible exact absurd hc2.symm Bool.false_ne_true | (simp only [nrm] at hc2; omega) | (simp at hc2; done))
          all_goals
           try simp only [nrm] at hc2
           obtain ⟨gk, rfl⟩ := row_some (hS.rowOk 0 rfl) (by omega)
           have hl1 := addP_len kr k
           have hfl : (flat crV (addP kr k)).length = wt.length * 3 := by rw [flat_length crV_len, hl1, hkl]
           have hl2 := addP_len kr (k + 1)
           have hg1 : (addP kr k).getD k default = kr.getD k default := by rw [addP_getD kr k (by omega) k, if_neg (by omega)]
           have ho1 : ((addP kr k).getD k default).owed = (kr.getD k default).owed := by rw [hg1]
           have hw1 : ((addP kr k).getD k default).weight = (kr.getD k default).weight := by rw [hg1]
           have hw2 : ((addP kr (k + 1)).getD k default).weight = (kr.getD k default).weight := by rw [addP_getD kr (k + 1) (by omega) k, if_pos (by omega)]; rfl
           have hmk := hmild k
           have htk := totP_bd kr hmild k (by omega)
           have hbk : besP kr k < wt.length := by
             rcases Nat.eq_zero_or_pos k with h | h
             · rw [h]; simpa [besP] using hq0
             · have := besP_lt kr k h; omega
           refine wp_skip ?_
           refine then_n (hK14 _ _ ?_); clear hK14 K14
           refine wp_seq_k ?_; intro K15 hK15
           refine wp_block ?_
           refine wp_seq_k ?_; intro K16 hK16
           refine wlit ?_
           refine wl_v (x_move (tmI rfl rfl)) ?_
           refine wl_v (x_assign (tmI rfl rfl)) ?_
           refine wl_nil ?_
           refine then_n (hK16 _ _ ?_); clear hK16 K16
           refine wp_seq_k ?_; intro K17 hK17
           refine rg_startk 1 hS mixed_ ?_
           clear hS; intro w hS
           refine rg_take 0 rfl rfl (by kernel_rfl) (by kernel_rfl) (by kernel_rfl) (want_0) (fun w hok => x_move (tmP rfl rfl)) ?_
           refine rg_take 1 rfl rfl (by kernel_rfl) (by kernel_rfl) (by kernel_rfl) (want_0) (fun w hok => x_nil (A := none) (tmP rfl rfl)) ?_
           refine rg_take 2 rfl rfl (by kernel_rfl) (by kernel_rfl) (by kernel_rfl) (want_0) (fun w hok => x_fa 0 Try.underlying27 rfl rfl ts_25 (tmP rfl rfl)) ?_
           first
            | refine rg_take 3 rfl rfl (by kernel_rfl) (by kernel_rfl) (by kernel_rfl) (want_0) (fun w hok => x_load Try.underlying25 rfl (tmP rfl rfl) (cellB hok 0 rfl rfl)) ?_
            | refine rg_take 3 rfl rfl (by kernel_rfl) (by kernel_rfl) (by kernel_rfl) (want_0) (fun w hok => x_load Try.underlying25 rfl (tmP rfl rfl) (cellR hok 1 rfl rfl)) ?_
            | refine rg_take 3 rfl rfl (by kernel_rfl) (by kernel_rfl) (by kernel_rfl) (want_0) (fun w hok => x_load Try.underlying25 rfl (tmP rfl rfl) (cellR hok 1 rfl (getm (by omega)))) ?_
            | refine rg_take 3 rfl rfl (by kernel_rfl) (by kernel_rfl) (by kernel_rfl) (want_0) (fun w hok => x_load Try.underlying25 rfl (tmP rfl rfl) (cellRs hok 1 rfl (fun _ => rfl) rfl (by omega) rfl)) ?_
            | refine rg_take 3 rfl rfl (by kernel_rfl) (by kernel_rfl) (by kernel_rfl) (want_0) (fun w hok => x_load Try.underlying25 rfl (tmP rfl rfl) (cellV hok 3 rfl rfl)) ?_
            | refine rg_take 3 rfl rfl (by kernel_rfl) (by kernel_rfl) (by kernel_rfl) (want_0) (fun w hok => x_load Try.underlying25 rfl (tmP rfl rfl) (cellV hok 3 rfl (getm (by omega)))) ?_
            | refine rg_take 3 rfl rfl (by kernel_rfl) (by kernel_rfl) (by kernel_rfl) (want_0) (fun w hok => x_load Try.underlying25 rfl (tmP rfl rfl) (cellVs hok 3 rfl (fun _ => rfl) rfl (by omega) rfl)) ?_
           refine rg_take 4 rfl rfl (by kernel_rfl) (by kernel_rfl) (by kernel_rfl) (want_0) (fun w hok => x_move (tmI rfl rfl)) ?_
           refine rg_take 5 rfl rfl (by kernel_rfl) (by kernel_rfl) (by kernel_rfl) (want_0) (fun w hok => x_ixs Try.underlying25 ts_66 (tmS rfl rfl) (tmI rfl rfl) (by omega)) ?_
           refine rg_take 6 rfl rfl (by kernel_rfl) (by kernel_rfl) (by kernel_rfl) (want_0) (fun w hok => x_fa 2 Try.underlying66 rfl rfl ts_3 (tmP rfl rfl)) ?_
           refine rg_take 8 rfl rfl (by kernel_rfl) (by kernel_rfl) (by kernel_rfl) (want_0) (fun w hok => x_move (tmP rfl rfl)) ?_
           refine rg_take 9 rfl rfl (by kernel_rfl) (by kernel_rfl) (by kernel_rfl) (want_0) (fun w hok => x_nil (A := none) (tmP rfl rfl)) ?_
           refine rg_take 10 rfl rfl (by kernel_rfl) (by kernel_rfl) (by kernel_rfl) (want_0) (fun w hok => x_fa 0 Try.underlying27 rfl rfl ts_25 (tmP rfl rfl)) ?_
           first
            | refine rg_take 11 rfl rfl (by kernel_rfl) (by kernel_rfl) (by kernel_rfl) (want_0) (fun w hok => x_load Try.underlying25 rfl (tmP rfl rfl) (cellB hok 0 rfl rfl)) ?_
            | refine rg_take 11 rfl rfl (by kernel_rfl) (by kernel_rfl) (by kernel_rfl) (want_0) (fun w hok => x_load Try.underlying25 rfl (tmP rfl rfl) (cellR hok 1 rfl rfl)) ?_
            | refine rg_take 11 rfl rfl (by kernel_rfl) (by kernel_rfl) (by kernel_rfl) (want_0) (fun w hok => x_load Try.underlying25 rfl (tmP rfl rfl) (cellR hok 1 rfl (getm (by omega)))) ?_
            | refine rg_take 11 rfl rfl (by kernel_rfl) (by kernel_rfl) (by kernel_rfl) (want_0) (fun w hok => x_load Try.underlying25 rfl (tmP rfl rfl) (cellRs hok 1 rfl (fun _ => rfl) rfl (by omega) rfl)) ?_
            | refine rg_take 11 rfl rfl (by kernel_rfl) (by kernel_rfl) (by kernel_rfl) (want_0) (fun w hok => x_load Try.underlying25 rfl (tmP rfl rfl) (cellV hok 3 rfl rfl)) ?_
            | refine rg_take 11 rfl rfl (by kernel_rfl) (by kernel_rfl) (by kernel_rfl) (want_0) (fun w hok => x_load Try.underlying25 rfl (tmP rfl rfl) (cellV hok 3 rfl (getm (by omega)))) ?_
            | refine rg_take 11 rfl rfl (by kernel_rfl) (by kernel_rfl) (by kernel_rfl) (want_0) (fun w hok => x_load Try.underlying25 rfl (tmP rfl rfl) (cellVs hok 3 rfl (fun _ => rfl) rfl (by omega) rfl)) ?_
           refine rg_take 12 rfl rfl (by kernel_rfl) (by kernel_rfl) (by kernel_rfl) (want_0) (fun w hok => x_move (tmI rfl rfl)) ?_
           refine rg_take 13 rfl rfl (by kernel_rfl) (by kernel_rfl) (by kernel_rfl) (want_0) (fun w hok => x_ixs Try.underlying25 ts_66 (tmS rfl rfl) (tmI rfl rfl) (by omega)) ?_
           refine rg_take 14 rfl rfl (by kernel_rfl) (by kernel_rfl) (by kernel_rfl) (want_0) (fun w hok => x_fa 1 Try.underlying66 rfl rfl ts_3 (tmP rfl rfl)) ?_
           refine rg_step2 7 15 rfl rfl (by kernel_rfl) (want_0) (want_0) (oks_drop hS 1 rfl) ?_ ?_
           · intro K hK
             first
              | refine ow_v (x_load Try.underlying3 rfl (tmP rfl rfl) (cellB hS.ok 1 rfl rfl)) ?_
              | refine ow_v (x_load Try.underlying3 rfl (tmP rfl rfl) (cellR hS.ok 0 rfl rfl)) ?_
              | refine ow_v (x_load Try.underlying3 rfl (tmP rfl rfl) (cellR hS.ok 0 rfl (getm (by omega)))) ?_
              | refine ow_v (x_load Try.underlying3 rfl (tmP rfl rfl) (cellRs hS.ok 0 rfl (fun _ => rfl) rfl (by omega) rfl)) ?_
              | refine ow_v (x_load Try.underlying3 rfl (tmP rfl rfl) (cellR hS.ok 2 rfl rfl)) ?_
              | refine ow_v (x_load Try.underlying3 rfl (tmP rfl rfl) (cellR hS.ok 2 rfl (getm (by omega)))) ?_
              | refine ow_v (x_load Try.underlying3 rfl (tmP rfl rfl) (cellRs hS.ok 2 rfl (fun _ => rfl) rfl (by omega) rfl)) ?_
              | refine ow_v (x_load Try.underlying3 rfl (tmP rfl rfl) (cellV hS.ok 4 rfl rfl)) ?_
              | refine ow_v (x_load Try.underlying3 rfl (tmP rfl rfl) (cellV hS.ok 4 rfl (getm (by omega)))) ?_
              | refine ow_v (x_load Try.underlying3 rfl (tmP rfl rfl) (cellVs hS.ok 4 rfl (fun _ => rfl) rfl (by omega) rfl)) ?_
             refine hK _ _ ?_; clear hK K
             refine rg_step 15 rfl (by kernel_rfl) (want_0) (oks_drop hS 1 rfl) ?_; intro K hK
             first
              | refine ow_v (x_load Try.underlying3 rfl (tmP rfl rfl) (cellB hS.ok 1 rfl rfl)) ?_
              | refine ow_v (x_load Try.underlying3 rfl (tmP rfl rfl) (cellR hS.ok 0 rfl rfl)) ?_
              | refine ow_v (x_load Try.underlying3 rfl (tmP rfl rfl) (cellR hS.ok 0 rfl (getm (by omega)))) ?_
              | refine ow_v (x_load Try.underlying3 rfl (tmP rfl rfl) (cellRs hS.ok 0 rfl (fun _ => rfl) rfl (by omega) rfl)) ?_
              | refine ow_v (x_load Try.underlying3 rfl (tmP rfl rfl) (cellR hS.ok 2 rfl rfl)) ?_
              | refine ow_v (x_load Try.underlying3 rfl (tmP rfl rfl) (cellR hS.ok 2 rfl (getm (by omega)))) ?_
              | refine ow_v (x_load Try.underlying3 rfl (tmP rfl rfl) (cellRs hS.ok 2 rfl (fun _ => rfl) rfl (by omega) rfl)) ?_
              | refine ow_v (x_load Try.underlying3 rfl (tmP rfl rfl) (cellV hS.ok 4 rfl rfl)) ?_
              | refine ow_v (x_load Try.underlying3 rfl (tmP rfl rfl) (cellV hS.ok 4 rfl (getm (by omega)))) ?_
              | refine ow_v (x_load Try.underlying3 rfl (tmP rfl rfl) (cellVs hS.ok 4 rfl (fun _ => rfl) rfl (by omega) rfl)) ?_
             refine hK _ _ ?_; clear hK K
             first
              | refine rg_take 16 rfl rfl (by kernel_rfl) (by kernel_rfl) (by kernel_rfl) (want_0) (fun w hok => x_addN (tmI rfl rfl) (tmI rfl rfl) (fit_i64 (by omega))) ?_
              | refine rg_take 16 rfl rfl (by kernel_rfl) (by kernel_rfl) (by kernel_rfl) (want_0) (fun w hok => x_addI (tmI rfl rfl) (tmI rfl rfl) (IntWalk.i64_in _ (by omega))) ?_
              | refine rg_take 16 rfl rfl (by kernel_rfl) (by kernel_rfl) (by kernel_rfl) (want_0) (fun w hok => x_add (tmI rfl rfl) (tmI rfl rfl)) ?_
             refine rg_take 17 rfl rfl (by kernel_rfl) (by kernel_rfl) (by kernel_rfl) (want_0) (fun w hok => x_ixs Try.underlying25 ts_66 (tmS rfl rfl) (tmI rfl rfl) (by omega)) ?_
             refine rg_take 18 rfl rfl (by kernel_rfl) (by kernel_rfl) (by kernel_rfl) (want_0) (fun w hok => x_fa 2 Try.underlying66 rfl rfl ts_3 (tmP rfl rfl)) ?_
             refine rg_step 19 rfl (by kernel_rfl) (want_0) (oks_drop hS 1 rfl) ?_; intro K hK
             first
              | refine ow_store hS 0 rfl ts_3 (tmP rfl rfl) (tmI rfl rfl) rfl rfl ?_
              | refine ow_storeX hS 0 rfl ts_3 (tmP rfl rfl) (tmI rfl rfl) rfl (by simp; omega) ?_
              | refine ow_storeRs hS 0 rfl ts_3 (tmP rfl rfl) (tmI rfl rfl) rfl (by first | omega | (simp; omega)) ?_
              | refine ow_storeR hS 0 rfl ts_3 (tmP rfl rfl) (tmI rfl rfl) rfl (by first | omega | (simp; omega)) ?_
              | refine ow_store hS 1 rfl ts_3 (tmP rfl rfl) (tmI rfl rfl) rfl rfl ?_
              | refine ow_storeX hS 1 rfl ts_3 (tmP rfl rfl) (tmI rfl rfl) rfl (by simp; omega) ?_
              | refine ow_storeRs hS 1 rfl ts_3 (tmP rfl rfl) (tmI rfl rfl) rfl (by first | omega | (simp; omega)) ?_
              | refine ow_storeR hS 1 rfl ts_3 (tmP rfl rfl) (tmI rfl rfl) rfl (by first | omega | (simp; omega)) ?_
              | refine ow_store hS 2 rfl ts_3 (tmP rfl rfl) (tmI rfl rfl) rfl rfl ?_
              | refine ow_storeX hS 2 rfl ts_3 (tmP rfl rfl) (tmI rfl rfl) rfl (by simp; omega) ?_
              | refine ow_storeRs hS 2 rfl ts_3 (tmP rfl rfl) (tmI rfl rfl) rfl (by first | omega | (simp; omega)) ?_
              | refine ow_storeR hS 2 rfl ts_3 (tmP rfl rfl) (tmI rfl rfl) rfl (by first | omega | (simp; omega)) ?_
             clear hS; intro w hS
             refine hK _ _ ?_; clear hK K
             refine rg_done (oks_drop hS 1 rfl) (by kernel_rfl) ?_
             rw [flat_set (bump ((addP kr k).getD k default)) crV_len (by decide) (by omega) rfl, show (addP kr k).set k (bump ((addP kr k).getD k default)) = addP kr (k + 1) from rfl] at hS
             refine then_n (hK17 _ _ ?_); clear hK17 K17
             refine wp_seq_k ?_; intro K18 hK18
             refine wlit ?_
             refine wl_v (x_move (tmI rfl rfl)) ?_
             refine wl_v (x_move (tmP rfl rfl)) ?_
             refine wl_v (x_nil (A := none) (tmP rfl rfl)) ?_
             refine wl_v (x_fa 0 Try.underlying27 rfl rfl ts_25 (tmP rfl rfl)) ?_
             first
              | refine wl_v (x_load Try.underlying25 rfl (tmP rfl rfl) (cellB hS.ok 1 rfl rfl)) ?_
              | refine wl_v (x_load Try.underlying25 rfl (tmP rfl rfl) (cellR hS.ok 0 rfl rfl)) ?_
              | refine wl_v (x_load Try.underlying25 rfl (tmP rfl rfl) (cellR hS.ok 0 rfl (getm (by omega)))) ?_
              | refine wl_v (x_load Try.underlying25 rfl (tmP rfl rfl) (cellRs hS.ok 0 rfl (fun _ => rfl) rfl (by omega) rfl)) ?_
              | refine wl_v (x_load Try.underlying25 rfl (tmP rfl rfl) (cellR hS.ok 2 rfl rfl)) ?_
              | refine wl_v (x_load Try.underlying25 rfl (tmP rfl rfl) (cellR hS.ok 2 rfl (getm (by omega)))) ?_
              | refine wl_v (x_load Try.underlying25 rfl (tmP rfl rfl) (cellRs hS.ok 2 rfl (fun _ => rfl) rfl (by omega) rfl)) ?_
              | refine wl_v (x_load Try.underlying25 rfl (tmP rfl rfl) (cellV hS.ok 4 rfl rfl)) ?_
              | refine wl_v (x_load Try.underlying25 rfl (tmP rfl rfl) (cellV hS.ok 4 rfl (getm (by omega)))) ?_
              | refine wl_v (x_load Try.underlying25 rfl (tmP rfl rfl) (cellVs hS.ok 4 rfl (fun _ => rfl) rfl (by omega) rfl)) ?_
             refine wl_v (x_move (tmI rfl rfl)) ?_
             refine wl_v (x_ixs Try.underlying25 ts_66 (tmS rfl rfl) (tmI rfl rfl) (by omega)) ?_
             refine wl_v (x_fa 1 Try.underlying66 rfl rfl ts_3 (tmP rfl rfl)) ?_
             first
              | refine wl_v (x_load Try.underlying3 rfl (tmP rfl rfl) (cellB hS.ok 1 rfl rfl)) ?_
              | refine wl_v (x_load Try.underlying3 rfl (tmP rfl rfl) (cellR hS.ok 0 rfl rfl)) ?_
              | refine wl_v (x_load Try.underlying3 rfl (tmP rfl rfl) (cellR hS.ok 0 rfl (getm (by omega)))) ?_
              | refine wl_v (x_load Try.underlying3 rfl (tmP rfl rfl) (cellRs hS.ok 0 rfl (fun _ => rfl) rfl (by omega) rfl)) ?_
              | refine wl_v (x_load Try.underlying3 rfl (tmP rfl rfl) (cellR hS.ok 2 rfl rfl)) ?_
              | refine wl_v (x_load Try.underlying3 rfl (tmP rfl rfl) (cellR hS.ok 2 rfl (getm (by omega)))) ?_
              | refine wl_v (x_load Try.underlying3 rfl (tmP rfl rfl) (cellRs hS.ok 2 rfl (fun _ => rfl) rfl (by omega) rfl)) ?_
              | refine wl_v (x_load Try.underlying3 rfl (tmP rfl rfl) (cellV hS.ok 4 rfl rfl)) ?_
              | refine wl_v (x_load Try.underlying3 rfl (tmP rfl rfl) (cellV hS.ok 4 rfl (getm (by omega)))) ?_
              | refine wl_v (x_load Try.underlying3 rfl (tmP rfl rfl) (cellVs hS.ok 4 rfl (fun _ => rfl) rfl (by omega) rfl)) ?_
             first
              | refine wl_v (x_addN (tmI rfl rfl) (tmI rfl rfl) (fit_i64 (by omega))) ?_
              | refine wl_v (x_addI (tmI rfl rfl) (tmI rfl rfl) (IntWalk.i64_in _ (by omega))) ?_
              | refine wl_v (x_add (tmI rfl rfl) (tmI rfl rfl)) ?_
             refine wl_v (x_assign (tmI rfl rfl)) ?_
             refine wl_nil ?_
             refine then_n (hK18 _ _ ?_); clear hK18 K18
             refine wp_seq_k ?_; intro K19 hK19
             refine rg_startk 0 hS mixed_ ?_
             clear hS; intro w hS
             refine rg_take 0 rfl rfl (by kernel_rfl) (by kernel_rfl) (by kernel_rfl) (want_0) (fun w hok => x_move (tmP rfl rfl)) ?_
             refine rg_take 1 rfl rfl (by kernel_rfl) (by kernel_rfl) (by kernel_rfl) (want_0) (fun w hok => x_nil (A := none) (tmP rfl rfl)) ?_
             refine rg_take 2 rfl rfl (by kernel_rfl) (by kernel_rfl) (by kernel_rfl) (want_0) (fun w hok => x_fa 0 Try.underlying27 rfl rfl ts_25 (tmP rfl rfl)) ?_
             first
              | refine rg_take 3 rfl rfl (by kernel_rfl) (by kernel_rfl) (by kernel_rfl) (want_0) (fun w hok => x_load Try.underlying25 rfl (tmP rfl rfl) (cellB hok 1 rfl rfl)) ?_
              | refine rg_take 3 rfl rfl (by kernel_rfl) (by kernel_rfl) (by kernel_rfl) (want_0) (fun w hok => x_load Try.underlying25 rfl (tmP rfl rfl) (cellR hok 0 rfl rfl)) ?_
              | refine rg_take 3 rfl rfl (by kernel_rfl) (by kernel_rfl) (by kernel_rfl) (want_0) (fun w hok => x_load Try.underlying25 rfl (tmP rfl rfl) (cellR hok 0 rfl (getm (by omega)))) ?_
              | refine rg_take 3 rfl rfl (by kernel_rfl) (by kernel_rfl) (by kernel_rfl) (want_0) (fun w hok => x_load Try.underlying25 rfl (tmP rfl rfl) (cellRs hok 0 rfl (fun _ => rfl) rfl (by omega) rfl)) ?_
              | refine rg_take 3 rfl rfl (by kernel_rfl) (by kernel_rfl) (by kernel_rfl) (want_0) (fun w hok => x_load Try.underlying25 rfl (tmP rfl rfl) (cellR hok 2 rfl rfl)) ?_
              | refine rg_take 3 rfl rfl (by kernel_rfl) (by kernel_rfl) (by kernel_rfl) (want_0) (fun w hok => x_load Try.underlying25 rfl (tmP rfl rfl) (cellR hok 2 rfl (getm (by omega)))) ?_
              | refine rg_take 3 rfl rfl (by kernel_rfl) (by kernel_rfl) (by kernel_rfl) (want_0) (fun w hok => x_load Try.underlying25 rfl (tmP rfl rfl) (cellRs hok 2 rfl (fun _ => rfl) rfl (by omega) rfl)) ?_
              | refine rg_take 3 rfl rfl (by kernel_rfl) (by kernel_rfl) (by kernel_rfl) (want_0) (fun w hok => x_load Try.underlying25 rfl (tmP rfl rfl) (cellV hok 4 rfl rfl)) ?_
              | refine rg_take 3 rfl rfl (by kernel_rfl) (by kernel_rfl) (by kernel_rfl) (want_0) (fun w hok => x_load Try.underlying25 rfl (tmP rfl rfl) (cellV hok 4 rfl (getm (by omega)))) ?_
              | refine rg_take 3 rfl rfl (by kernel_rfl) (by kernel_rfl) (by kernel_rfl) (want_0) (fun w hok => x_load Try.underlying25 rfl (tmP rfl rfl) (cellVs hok 4 rfl (fun _ => rfl) rfl (by omega) rfl)) ?_
             refine rg_take 4 rfl rfl (by kernel_rfl) (by kernel_rfl) (by kernel_rfl) (want_0) (fun w hok => x_move (tmI rfl rfl)) ?_
             refine rg_take 5 rfl rfl (by kernel_rfl) (by kernel_rfl) (by kernel_rfl) (want_0) (fun w hok => x_ixs Try.underlying25 ts_66 (tmS rfl rfl) (tmI rfl rfl) (by omega)) ?_
             refine rg_take 6 rfl rfl (by kernel_rfl) (by kernel_rfl) (by kernel_rfl) (want_0) (fun w hok => x_fa 2 Try.underlying66 rfl rfl ts_3 (tmP rfl rfl)) ?_
             first
              | refine rg_take 7 rfl rfl (by kernel_rfl) (by kernel_rfl) (by kernel_rfl) (want_0) (fun w hok => x_load Try.underlying3 rfl (tmP rfl rfl) (cellB hok 1 rfl rfl)) ?_
              | refine rg_take 7 rfl rfl (by kernel_rfl) (by kernel_rfl) (by kernel_rfl) (want_0) (fun w hok => x_load Try.underlying3 rfl (tmP rfl rfl) (cellR hok 0 rfl rfl)) ?_
              | refine rg_take 7 rfl rfl (by kernel_rfl) (by kernel_rfl) (by kernel_rfl) (want_0) (fun w hok => x_load Try.underlying3 rfl (tmP rfl rfl) (cellR hok 0 rfl (getm (by omega)))) ?_
              | refine rg_take 7 rfl rfl (by kernel_rfl) (by kernel_rfl) (by kernel_rfl) (want_0) (fun w hok => x_load Try.underlying3 rfl (tmP rfl rfl) (cellRs hok 0 rfl (fun _ => rfl) rfl (by omega) rfl)) ?_
              | refine rg_take 7 rfl rfl (by kernel_rfl) (by kernel_rfl) (by kernel_rfl) (want_0) (fun w hok => x_load Try.underlying3 rfl (tmP rfl rfl) (cellR hok 2 rfl rfl)) ?_
              | refine rg_take 7 rfl rfl (by kernel_rfl) (by kernel_rfl) (by kernel_rfl) (want_0) (fun w hok => x_load Try.underlying3 rfl (tmP rfl rfl) (cellR hok 2 rfl (getm (by omega)))) ?_
              | refine rg_take 7 rfl rfl (by kernel_rfl) (by kernel_rfl) (by kernel_rfl) (want_0) (fun w hok => x_load Try.underlying3 rfl (tmP rfl rfl) (cellRs hok 2 rfl (fun _ => rfl) rfl (by omega) rfl)) ?_
              | refine rg_take 7 rfl rfl (by kernel_rfl) (by kernel_rfl) (by kernel_rfl) (want_0) (fun w hok => x_load Try.underlying3 rfl (tmP rfl rfl) (cellV hok 4 rfl rfl)) ?_
              | refine rg_take 7 rfl rfl (by kernel_rfl) (by kernel_rfl) (by kernel_rfl) (want_0) (fun w hok => x_load Try.underlying3 rfl (tmP rfl rfl) (cellV hok 4 rfl (getm (by omega)))) ?_
              | refine rg_take 7 rfl rfl (by kernel_rfl) (by kernel_rfl) (by kernel_rfl) (want_0) (fun w hok => x_load Try.underlying3 rfl (tmP rfl rfl) (cellVs hok 4 rfl (fun _ => rfl) rfl (by omega) rfl)) ?_
             refine rg_take 8 rfl rfl (by kernel_rfl) (by kernel_rfl) (by kernel_rfl) (want_0) (fun w hok => x_move (tmP rfl rfl)) ?_
             refine rg_take 9 rfl rfl (by kernel_rfl) (by kernel_rfl) (by kernel_rfl) (want_0) (fun w hok => x_nil (A := none) (tmP rfl rfl)) ?_
             refine rg_take 10 rfl rfl (by kernel_rfl) (by kernel_rfl) (by kernel_rfl) (want_0) (fun w hok => x_fa 0 Try.underlying27 rfl rfl ts_25 (tmP rfl rfl)) ?_
             first
              | refine rg_take 11 rfl rfl (by kernel_rfl) (by kernel_rfl) (by kernel_rfl) (want_0) (fun w hok => x_load Try.underlying25 rfl (tmP rfl rfl) (cellB hok 1 rfl rfl)) ?_
              | refine rg_take 11 rfl rfl (by kernel_rfl) (by kernel_rfl) (by kernel_rfl) (want_0) (fun w hok => x_load Try.underlying25 rfl (tmP rfl rfl) (cellR hok 0 rfl rfl)) ?_
              | refine rg_take 11 rfl rfl (by kernel_rfl) (by kernel_rfl) (by kernel_rfl) (want_0) (fun w hok => x_load Try.underlying25 rfl (tmP rfl rfl) (cellR hok 0 rfl (getm (by omega)))) ?_
              | refine rg_take 11 rfl rfl (by kernel_rfl) (by kernel_rfl) (by kernel_rfl) (want_0) (fun w hok => x_load Try.underlying25 rfl (tmP rfl rfl) (cellRs hok 0 rfl (fun _ => rfl) rfl (by omega) rfl)) ?_
              | refine rg_take 11 rfl rfl (by kernel_rfl) (by kernel_rfl) (by kernel_rfl) (want_0) (fun w hok => x_load Try.underlying25 rfl (tmP rfl rfl) (cellR hok 2 rfl rfl)) ?_
              | refine rg_take 11 rfl rfl (by kernel_rfl) (by kernel_rfl) (by kernel_rfl) (want_0) (fun w hok => x_load Try.underlying25 rfl (tmP rfl rfl) (cellR hok 2 rfl (getm (by omega)))) ?_
              | refine rg_take 11 rfl rfl (by kernel_rfl) (by kernel_rfl) (by kernel_rfl) (want_0) (fun w hok => x_load Try.underlying25 rfl (tmP rfl rfl) (cellRs hok 2 rfl (fun _ => rfl) rfl (by omega) rfl)) ?_
              | refine rg_take 11 rfl rfl (by kernel_rfl) (by kernel_rfl) (by kernel_rfl) (want_0) (fun w hok => x_load Try.underlying25 rfl (tmP rfl rfl) (cellV hok 4 rfl rfl)) ?_
              | refine rg_take 11 rfl rfl (by kernel_rfl) (by kernel_rfl) (by kernel_rfl) (want_0) (fun w hok => x_load Try.underlying25 rfl (tmP rfl rfl) (cellV hok 4 rfl (getm (by omega)))) ?_
              | refine rg_take 11 rfl rfl (by kernel_rfl) (by kernel_rfl) (by kernel_rfl) (want_0) (fun w hok => x_load Try.underlying25 rfl (tmP rfl rfl) (cellVs hok 4 rfl (fun _ => rfl) rfl (by omega) rfl)) ?_
             refine rg_take 12 rfl rfl (by kernel_rfl) (by kernel_rfl) (by kernel_rfl) (want_0) (fun w hok => x_move (tmI rfl rfl)) ?_
             refine rg_take 13 rfl rfl (by kernel_rfl) (by kernel_rfl) (by kernel_rfl) (want_0) (fun w hok => x_ixs Try.underlying25 ts_66 (tmS rfl rfl) (tmI rfl rfl) (by omega)) ?_
             refine rg_take 14 rfl rfl (by kernel_rfl) (by kernel_rfl) (by kernel_rfl) (want_0) (fun w hok => x_fa 2 Try.underlying66 rfl rfl ts_3 (tmP rfl rfl)) ?_
             first
              | refine rg_take 15 rfl rfl (by kernel_rfl) (by kernel_rfl) (by kernel_rfl) (want_0) (fun w hok => x_load Try.underlying3 rfl (tmP rfl rfl) (cellB hok 1 rfl rfl)) ?_
              | refine rg_take 15 rfl rfl (by kernel_rfl) (by kernel_rfl) (by kernel_rfl) (want_0) (fun w hok => x_load Try.underlying3 rfl (tmP rfl rfl) (cellR hok 0 rfl rfl)) ?_
              | refine rg_take 15 rfl rfl (by kernel_rfl) (by kernel_rfl) (by kernel_rfl) (want_0) (fun w hok => x_load Try.underlying3 rfl (tmP rfl rfl) (cellR hok 0 rfl (getm (by omega)))) ?_
              | refine rg_take 15 rfl rfl (by kernel_rfl) (by kernel_rfl) (by kernel_rfl) (want_0) (fun w hok => x_load Try.underlying3 rfl (tmP rfl rfl) (cellRs hok 0 rfl (fun _ => rfl) rfl (by omega) rfl)) ?_
              | refine rg_take 15 rfl rfl (by kernel_rfl) (by kernel_rfl) (by kernel_rfl) (want_0) (fun w hok => x_load Try.underlying3 rfl (tmP rfl rfl) (cellR hok 2 rfl rfl)) ?_
              | refine rg_take 15 rfl rfl (by kernel_rfl) (by kernel_rfl) (by kernel_rfl) (want_0) (fun w hok => x_load Try.underlying3 rfl (tmP rfl rfl) (cellR hok 2 rfl (getm (by omega)))) ?_
              | refine rg_take 15 rfl rfl (by kernel_rfl) (by kernel_rfl) (by kernel_rfl) (want_0) (fun w hok => x_load Try.underlying3 rfl (tmP rfl rfl) (cellRs hok 2 rfl (fun _ => rfl) rfl (by omega) rfl)) ?_
              | refine rg_take 15 rfl rfl (by kernel_rfl) (by kernel_rfl) (by kernel_rfl) (want_0) (fun w hok => x_load Try.underlying3 rfl (tmP rfl rfl) (cellV hok 4 rfl rfl)) ?_
              | refine rg_take 15 rfl rfl (by kernel_rfl) (by kernel_rfl) (by kernel_rfl) (want_0) (fun w hok => x_load Try.underlying3 rfl (tmP rfl rfl) (cellV hok 4 rfl (getm (by omega)))) ?_
              | refine rg_take 15 rfl rfl (by kernel_rfl) (by kernel_rfl) (by kernel_rfl) (want_0) (fun w hok => x_load Try.underlying3 rfl (tmP rfl rfl) (cellVs hok 4 rfl (fun _ => rfl) rfl (by omega) rfl)) ?_
             refine rg_take 16 rfl rfl (by kernel_rfl) (by kernel_rfl) (by kernel_rfl) (want_0) (fun w hok => x_gtr (tmI rfl rfl) (tmI rfl rfl)) ?_
             refine rg_done (oks_drop hS 0 rfl) (by kernel_rfl) ?_
             refine then_n (hK19 _ _ ?_); clear hK19 K19
             refine cnd (tm rfl) (fun hc3 => ?_) (fun hc3 => ?_)
             · try (exfalso; first | with_reducible exact absurd hc3 Bool.false_ne_true | with_reducible exact absurd hc3.symm Bool.false_ne_true | (simp only [nrm] at hc3; omega) | (simp at hc3; done))
               all_goals
                try simp only [nrm] at hc3
                have hb1 : besP kr (k + 1) = k := by simp only [besP]; rw [if_pos hc3]
                refine wlit ?_
                refine wl_v (x_move (tmI rfl rfl)) ?_
                refine wl_v (x_assign (tmI rfl rfl)) ?_
                refine wl_nil ?_
                refine inb_n ?_
                refine then_n (hK15 _ _ ?_); clear hK15 K15
                refine wlit ?_
                first
                 | refine wl_v (x_addN (tmI rfl rfl) (ev_cN 1) (fit_i64 (by omega))) ?_
                 | refine wl_v (x_addI (tmI rfl rfl) (ev_cN 1) (IntWalk.i64_in _ (by omega))) ?_
                 | refine wl_v (x_add (tmI rfl rfl) (ev_cN 1)) ?_
                refine wl_v (x_move (tmI rfl rfl)) ?_
                refine wl_nil ?_
                exact then_n ⟨_, _, rfl, (by show _ < _; omega), (by repeat (first | exact agree_self | exact agree_refl | refine agree_upd rfl ?_ | refine agree_mix rfl ?_)), k + 1, rfl, (by first | rfl | go_num | exact congrArg (Value.int _) (by first | omega | (simp; done) | (simp; omega))), (by first | rfl | go_num | exact congrArg (Value.int _) (by first | omega | (simp; done) | (simp; omega))), (by first | rfl | (rw [hb1]; done) | (rw [hb1]; rfl) | (rw [hb1]; go_num)), hS, (by omega)⟩
             try (exfalso; first | with_reducible exact absurd hc3 Bool.false_ne_true | with_reducible exact absurd hc3.symm Bool.false_ne_true | (simp only [nrm] at hc3; omega) | (simp at hc3; done))
             all_goals
              try simp only [nrm] at hc3
              have hb1 : besP kr (k + 1) = besP kr k := by simp only [besP]; rw [if_neg (by omega)]
              refine wp_skip ?_
              refine inb_n ?_
              refine then_n (hK15 _ _ ?_); clear hK15 K15
              refine wlit ?_
              first
               | refine wl_v (x_addN (tmI rfl rfl) (ev_cN 1) (fit_i64 (by omega))) ?_
               | refine wl_v (x_addI (tmI rfl rfl) (ev_cN 1) (IntWalk.i64_in _ (by omega))) ?_
               | refine wl_v (x_add (tmI rfl rfl) (ev_cN 1)) ?_
              refine wl_v (x_move (tmI rfl rfl)) ?_
              refine wl_nil ?_
              exact then_n ⟨_, _, rfl, (by show _ < _; omega), (by repeat (first | exact agree_self | exact agree_refl | refine agree_upd rfl ?_ | refine agree_mix rfl ?_)), k + 1, rfl, (by first | rfl | go_num | exact congrArg (Value.int _) (by first | omega | (simp; done) | (simp; omega))), (by first | rfl | go_num | exact congrArg (Value.int _) (by first | omega | (simp; done) | (simp; omega))), (by first | rfl | (rw [hb1]; done) | (rw [hb1]; rfl) | (rw [hb1]; go_num)), hS, (by omega)⟩
           · intro K hK
             first
              | refine ow_v (x_load Try.underlying3 rfl (tmP rfl rfl) (cellB hS.ok 1 rfl rfl)) ?_
              | refine ow_v (x_load Try.underlying3 rfl (tmP rfl rfl) (cellR hS.ok 0 rfl rfl)) ?_
              | refine ow_v (x_load Try.underlying3 rfl (tmP rfl rfl) (cellR hS.ok 0 rfl (getm (by omega)))) ?_
              | refine ow_v (x_load Try.underlying3 rfl (tmP rfl rfl) (cellRs hS.ok 0 rfl (fun _ => rfl) rfl (by omega) rfl)) ?_
              | refine ow_v (x_load Try.underlying3 rfl (tmP rfl rfl) (cellR hS.ok 2 rfl rfl)) ?_
              | refine ow_v (x_load Try.underlying3 rfl (tmP rfl rfl) (cellR hS.ok 2 rfl (getm (by omega)))) ?_
              | refine ow_v (x_load Try.underlying3 rfl (tmP rfl rfl) (cellRs hS.ok 2 rfl (fun _ => rfl) rfl (by omega) rfl)) ?_
              | refine ow_v (x_load Try.underlying3 rfl (tmP rfl rfl) (cellV hS.ok 4 rfl rfl)) ?_
              | refine ow_v (x_load Try.underlying3 rfl (tmP rfl rfl) (cellV hS.ok 4 rfl (getm (by omega)))) ?_
              | refine ow_v (x_load Try.underlying3 rfl (tmP rfl rfl) (cellVs hS.ok 4 rfl (fun _ => rfl) rfl (by omega) rfl)) ?_
             refine hK _ _ ?_; clear hK K
             refine rg_step 7 rfl (by kernel_rfl) (want_0) (oks_drop hS 1 rfl) ?_; intro K hK
             first
              | refine ow_v (x_load Try.underlying3 rfl (tmP rfl rfl) (cellB hS.ok 1 rfl rfl)) ?_
              | refine ow_v (x_load Try.underlying3 rfl (tmP rfl rfl) (cellR hS.ok 0 rfl rfl)) ?_
              | refine ow_v (x_load Try.underlying3 rfl (tmP rfl rfl) (cellR hS.ok 0 rfl (getm (by omega)))) ?_
              | refine ow_v (x_load Try.underlying3 rfl (tmP rfl rfl) (cellRs hS.ok 0 rfl (fun _ => rfl) rfl (by omega) rfl)) ?_
              | refine ow_v (x_load Try.underlying3 rfl (tmP rfl rfl) (cellR hS.ok 2 rfl rfl)) ?_
              | refine ow_v (x_load Try.underlying3 rfl (tmP rfl rfl) (cellR hS.ok 2 rfl (getm (by omega)))) ?_
              | refine ow_v (x_load Try.underlying3 rfl (tmP rfl rfl) (cellRs hS.ok 2 rfl (fun _ => rfl) rfl (by omega) rfl)) ?_
              | refine ow_v (x_load Try.underlying3 rfl (tmP rfl rfl) (cellV hS.ok 4 rfl rfl)) ?_
              | refine ow_v (x_load Try.underlying3 rfl (tmP rfl rfl) (cellV hS.ok 4 rfl (getm (by omega)))) ?_
              | refine ow_v (x_load Try.underlying3 rfl (tmP rfl rfl) (cellVs hS.ok 4 rfl (fun _ => rfl) rfl (by omega) rfl)) ?_
             refine hK _ _ ?_; clear hK K
             first
              | refine rg_take 16 rfl rfl (by kernel_rfl) (by kernel_rfl) (by kernel_rfl) (want_0) (fun w hok => x_addN (tmI rfl rfl) (tmI rfl rfl) (fit_i64 (by omega))) ?_
              | refine rg_take 16 rfl rfl (by kernel_rfl) (by kernel_rfl) (by kernel_rfl) (want_0) (fun w hok => x_addI (tmI rfl rfl) (tmI rfl rfl) (IntWalk.i64_in _ (by omega))) ?_
              | refine rg_take 16 rfl rfl (by kernel_rfl) (by kernel_rfl) (by kernel_rfl) (want_0) (fun w hok => x_add (tmI rfl rfl) (tmI rfl rfl)) ?_
             refine rg_take 17 rfl rfl (by kernel_rfl) (by kernel_rfl) (by kernel_rfl) (want_0) (fun w hok => x_ixs Try.underlying25 ts_66 (tmS rfl rfl) (tmI rfl rfl) (by omega)) ?_
             refine rg_take 18 rfl rfl (by kernel_rfl) (by kernel_rfl) (by kernel_rfl) (want_0) (fun w hok => x_fa 2 Try.underlying66 rfl rfl ts_3 (tmP rfl rfl)) ?_
             refine rg_step 19 rfl (by kernel_rfl) (want_0) (oks_drop hS 1 rfl) ?_; intro K hK
             first
              | refine ow_store hS 0 rfl ts_3 (tmP rfl rfl) (tmI rfl rfl) rfl rfl ?_
              | refine ow_storeX hS 0 rfl ts_3 (tmP rfl rfl) (tmI rfl rfl) rfl (by simp; omega) ?_
              | refine ow_storeRs hS 0 rfl ts_3 (tmP rfl rfl) (tmI rfl rfl) rfl (by first | omega | (simp; omega)) ?_
              | refine ow_storeR hS 0 rfl ts_3 (tmP rfl rfl) (tmI rfl rfl) rfl (by first | omega | (simp; omega)) ?_
              | refine ow_store hS 1 rfl ts_3 (tmP rfl rfl) (tmI rfl rfl) rfl rfl ?_
              | refine ow_storeX hS 1 rfl ts_3 (tmP rfl rfl) (tmI rfl rfl) rfl (by simp; omega) ?_
              | refine ow_storeRs hS 1 rfl ts_3 (tmP rfl rfl) (tmI rfl rfl) rfl (by first | omega | (simp; omega)) ?_
              | refine ow_storeR hS 1 rfl ts_3 (tmP rfl rfl) (tmI rfl rfl) rfl (by first | omega | (simp; omega)) ?_
              | refine ow_store hS 2 rfl ts_3 (tmP rfl rfl) (tmI rfl rfl) rfl rfl ?_
              | refine ow_storeX hS 2 rfl ts_3 (tmP rfl rfl) (tmI rfl rfl) rfl (by simp; omega) ?_
              | refine ow_storeRs hS 2 rfl ts_3 (tmP rfl rfl) (tmI rfl rfl) rfl (by first | omega | (simp; omega)) ?_
              | refine ow_storeR hS 2 rfl ts_3 (tmP rfl rfl) (tmI rfl rfl) rfl (by first | omega | (simp; omega)) ?_
             clear hS; intro w hS
             refine hK _ _ ?_; clear hK K
             refine rg_done (oks_drop hS 1 rfl) (by kernel_rfl) ?_
             rw [flat_set (bump ((addP kr k).getD k default)) crV_len (by decide) (by omega) rfl, show (addP kr k).set k (bump ((addP kr k).getD k default)) = addP kr (k + 1) from rfl] at hS
             refine then_n (hK17 _ _ ?_); clear hK17 K17
             refine wp_seq_k ?_; intro K20 hK20
             refine wlit ?_
             refine wl_v (x_move (tmI rfl rfl)) ?_
             refine wl_v (x_move (tmP rfl rfl)) ?_
             refine wl_v (x_nil (A := none) (tmP rfl rfl)) ?_
             refine wl_v (x_fa 0 Try.underlying27 rfl rfl ts_25 (tmP rfl rfl)) ?_
             first
              | refine wl_v (x_load Try.underlying25 rfl (tmP rfl rfl) (cellB hS.ok 1 rfl rfl)) ?_
              | refine wl_v (x_load Try.underlying25 rfl (tmP rfl rfl) (cellR hS.ok 0 rfl rfl)) ?_
              | refine wl_v (x_load Try.underlying25 rfl (tmP rfl rfl) (cellR hS.ok 0 rfl (getm (by omega)))) ?_
              | refine wl_v (x_load Try.underlying25 rfl (tmP rfl rfl) (cellRs hS.ok 0 rfl (fun _ => rfl) rfl (by omega) rfl)) ?_
              | refine wl_v (x_load Try.underlying25 rfl (tmP rfl rfl) (cellR hS.ok 2 rfl rfl)) ?_
              | refine wl_v (x_load Try.underlying25 rfl (tmP rfl rfl) (cellR hS.ok 2 rfl (getm (by omega)))) ?_
              | refine wl_v (x_load Try.underlying25 rfl (tmP rfl rfl) (cellRs hS.ok 2 rfl (fun _ => rfl) rfl (by omega) rfl)) ?_
              | refine wl_v (x_load Try.underlying25 rfl (tmP rfl rfl) (cellV hS.ok 4 rfl rfl)) ?_
              | refine wl_v (x_load Try.underlying25 rfl (tmP rfl rfl) (cellV hS.ok 4 rfl (getm (by omega)))) ?_
              | refine wl_v (x_load Try.underlying25 rfl (tmP rfl rfl) (cellVs hS.ok 4 rfl (fun _ => rfl) rfl (by omega) rfl)) ?_
             refine wl_v (x_move (tmI rfl rfl)) ?_
             refine wl_v (x_ixs Try.underlying25 ts_66 (tmS rfl rfl) (tmI rfl rfl) (by omega)) ?_
             refine wl_v (x_fa 1 Try.underlying66 rfl rfl ts_3 (tmP rfl rfl)) ?_
             first
              | refine wl_v (x_load Try.underlying3 rfl (tmP rfl rfl) (cellB hS.ok 1 rfl rfl)) ?_
              | refine wl_v (x_load Try.underlying3 rfl (tmP rfl rfl) (cellR hS.ok 0 rfl rfl)) ?_
              | refine wl_v (x_load Try.underlying3 rfl (tmP rfl rfl) (cellR hS.ok 0 rfl (getm (by omega)))) ?_
              | refine wl_v (x_load Try.underlying3 rfl (tmP rfl rfl) (cellRs hS.ok 0 rfl (fun _ => rfl) rfl (by omega) rfl)) ?_
              | refine wl_v (x_load Try.underlying3 rfl (tmP rfl rfl) (cellR hS.ok 2 rfl rfl)) ?_
              | refine wl_v (x_load Try.underlying3 rfl (tmP rfl rfl) (cellR hS.ok 2 rfl (getm (by omega)))) ?_
              | refine wl_v (x_load Try.underlying3 rfl (tmP rfl rfl) (cellRs hS.ok 2 rfl (fun _ => rfl) rfl (by omega) rfl)) ?_
              | refine wl_v (x_load Try.underlying3 rfl (tmP rfl rfl) (cellV hS.ok 4 rfl rfl)) ?_
              | refine wl_v (x_load Try.underlying3 rfl (tmP rfl rfl) (cellV hS.ok 4 rfl (getm (by omega)))) ?_
              | refine wl_v (x_load Try.underlying3 rfl (tmP rfl rfl) (cellVs hS.ok 4 rfl (fun _ => rfl) rfl (by omega) rfl)) ?_
             first
              | refine wl_v (x_addN (tmI rfl rfl) (tmI rfl rfl) (fit_i64 (by omega))) ?_
              | refine wl_v (x_addI (tmI rfl rfl) (tmI rfl rfl) (IntWalk.i64_in _ (by omega))) ?_
              | refine wl_v (x_add (tmI rfl rfl) (tmI rfl rfl)) ?_
             refine wl_v (x_assign (tmI rfl rfl)) ?_
             refine wl_nil ?_
             refine then_n (hK20 _ _ ?_); clear hK20 K20
             refine wp_seq_k ?_; intro K21 hK21
             refine rg_startk 0 hS mixed_ ?_
             clear hS; intro w hS
             refine rg_take 0 rfl rfl (by kernel_rfl) (by kernel_rfl) (by kernel_rfl) (want_0) (fun w hok => x_move (tmP rfl rfl)) ?_
             refine rg_take 1 rfl rfl (by kernel_rfl) (by kernel_rfl) (by kernel_rfl) (want_0) (fun w hok => x_nil (A := none) (tmP rfl rfl)) ?_
             refine rg_take 2 rfl rfl (by kernel_rfl) (by kernel_rfl) (by kernel_rfl) (want_0) (fun w hok => x_fa 0 Try.underlying27 rfl rfl ts_25 (tmP rfl rfl)) ?_
             first
              | refine rg_take 3 rfl rfl (by kernel_rfl) (by kernel_rfl) (by kernel_rfl) (want_0) (fun w hok => x_load Try.underlying25 rfl (tmP rfl rfl) (cellB hok 1 rfl rfl)) ?_
              | refine rg_take 3 rfl rfl (by kernel_rfl) (by kernel_rfl) (by kernel_rfl) (want_0) (fun w hok => x_load Try.underlying25 rfl (tmP rfl rfl) (cellR hok 0 rfl rfl)) ?_
              | refine rg_take 3 rfl rfl (by kernel_rfl) (by kernel_rfl) (by kernel_rfl) (want_0) (fun w hok => x_load Try.underlying25 rfl (tmP rfl rfl) (cellR hok 0 rfl (getm (by omega)))) ?_
              | refine rg_take 3 rfl rfl (by kernel_rfl) (by kernel_rfl) (by kernel_rfl) (want_0) (fun w hok => x_load Try.underlying25 rfl (tmP rfl rfl) (cellRs hok 0 rfl (fun _ => rfl) rfl (by omega) rfl)) ?_
              | refine rg_take 3 rfl rfl (by kernel_rfl) (by kernel_rfl) (by kernel_rfl) (want_0) (fun w hok => x_load Try.underlying25 rfl (tmP rfl rfl) (cellR hok 2 rfl rfl)) ?_
              | refine rg_take 3 rfl rfl (by kernel_rfl) (by kernel_rfl) (by kernel_rfl) (want_0) (fun w hok => x_load Try.underlying25 rfl (tmP rfl rfl) (cellR hok 2 rfl (getm (by omega)))) ?_
              | refine rg_take 3 rfl rfl (by kernel_rfl) (by kernel_rfl) (by kernel_rfl) (want_0) (fun w hok => x_load Try.underlying25 rfl (tmP rfl rfl) (cellRs hok 2 rfl (fun _ => rfl) rfl (by omega) rfl)) ?_
              | refine rg_take 3 rfl rfl (by kernel_rfl) (by kernel_rfl) (by kernel_rfl) (want_0) (fun w hok => x_load Try.underlying25 rfl (tmP rfl rfl) (cellV hok 4 rfl rfl)) ?_
              | refine rg_take 3 rfl rfl (by kernel_rfl) (by kernel_rfl) (by kernel_rfl) (want_0) (fun w hok => x_load Try.underlying25 rfl (tmP rfl rfl) (cellV hok 4 rfl (getm (by omega)))) ?_
              | refine rg_take 3 rfl rfl (by kernel_rfl) (by kernel_rfl) (by kernel_rfl) (want_0) (fun w hok => x_load Try.underlying25 rfl (tmP rfl rfl) (cellVs hok 4 rfl (fun _ => rfl) rfl (by omega) rfl)) ?_
             refine rg_take 4 rfl rfl (by kernel_rfl) (by kernel_rfl) (by kernel_rfl) (want_0) (fun w hok => x_move (tmI rfl rfl)) ?_
             refine rg_take 5 rfl rfl (by kernel_rfl) (by kernel_rfl) (by kernel_rfl) (want_0) (fun w hok => x_ixs Try.underlying25 ts_66 (tmS rfl rfl) (tmI rfl rfl) (by omega)) ?_
             refine rg_take 6 rfl rfl (by kernel_rfl) (by kernel_rfl) (by kernel_rfl) (want_0) (fun w hok => x_fa 2 Try.underlying66 rfl rfl ts_3 (tmP rfl rfl)) ?_
             first
              | refine rg_take 7 rfl rfl (by kernel_rfl) (by kernel_rfl) (by kernel_rfl) (want_0) (fun w hok => x_load Try.underlying3 rfl (tmP rfl rfl) (cellB hok 1 rfl rfl)) ?_
              | refine rg_take 7 rfl rfl (by kernel_rfl) (by kernel_rfl) (by kernel_rfl) (want_0) (fun w hok => x_load Try.underlying3 rfl (tmP rfl rfl) (cellR hok 0 rfl rfl)) ?_
              | refine rg_take 7 rfl rfl (by kernel_rfl) (by kernel_rfl) (by kernel_rfl) (want_0) (fun w hok => x_load Try.underlying3 rfl (tmP rfl rfl) (cellR hok 0 rfl (getm (by omega)))) ?_
              | refine rg_take 7 rfl rfl (by kernel_rfl) (by kernel_rfl) (by kernel_rfl) (want_0) (fun w hok => x_load Try.underlying3 rfl (tmP rfl rfl) (cellRs hok 0 rfl (fun _ => rfl) rfl (by omega) rfl)) ?_
              | refine rg_take 7 rfl rfl (by kernel_rfl) (by kernel_rfl) (by kernel_rfl) (want_0) (fun w hok => x_load Try.underlying3 rfl (tmP rfl rfl) (cellR hok 2 rfl rfl)) ?_
              | refine rg_take 7 rfl rfl (by kernel_rfl) (by kernel_rfl) (by kernel_rfl) (want_0) (fun w hok => x_load Try.underlying3 rfl (tmP rfl rfl) (cellR hok 2 rfl (getm (by omega)))) ?_
              | refine rg_take 7 rfl rfl (by kernel_rfl) (by kernel_rfl) (by kernel_rfl) (want_0) (fun w hok => x_load Try.underlying3 rfl (tmP rfl rfl) (cellRs hok 2 rfl (fun _ => rfl) rfl (by omega) rfl)) ?_
              | refine rg_take 7 rfl rfl (by kernel_rfl) (by kernel_rfl) (by kernel_rfl) (want_0) (fun w hok => x_load Try.underlying3 rfl (tmP rfl rfl) (cellV hok 4 rfl rfl)) ?_
              | refine rg_take 7 rfl rfl (by kernel_rfl) (by kernel_rfl) (by kernel_rfl) (want_0) (fun w hok => x_load Try.underlying3 rfl (tmP rfl rfl) (cellV hok 4 rfl (getm (by omega)))) ?_
              | refine rg_take 7 rfl rfl (by kernel_rfl) (by kernel_rfl) (by kernel_rfl) (want_0) (fun w hok => x_load Try.underlying3 rfl (tmP rfl rfl) (cellVs hok 4 rfl (fun _ => rfl) rfl (by omega) rfl)) ?_
             refine rg_take 8 rfl rfl (by kernel_rfl) (by kernel_rfl) (by kernel_rfl) (want_0) (fun w hok => x_move (tmP rfl rfl)) ?_
             refine rg_take 9 rfl rfl (by kernel_rfl) (by kernel_rfl) (by kernel_rfl) (want_0) (fun w hok => x_nil (A := none) (tmP rfl rfl)) ?_
             refine rg_take 10 rfl rfl (by kernel_rfl) (by kernel_rfl) (by kernel_rfl) (want_0) (fun w hok => x_fa 0 Try.underlying27 rfl rfl ts_25 (tmP rfl rfl)) ?_
             first
              | refine rg_take 11 rfl rfl (by kernel_rfl) (by kernel_rfl) (by kernel_rfl) (want_0) (fun w hok => x_load Try.underlying25 rfl (tmP rfl rfl) (cellB hok 1 rfl rfl)) ?_
              | refine rg_take 11 rfl rfl (by kernel_rfl) (by kernel_rfl) (by kernel_rfl) (want_0) (fun w hok => x_load Try.underlying25 rfl (tmP rfl rfl) (cellR hok 0 rfl rfl)) ?_
              | refine rg_take 11 rfl rfl (by kernel_rfl) (by kernel_rfl) (by kernel_rfl) (want_0) (fun w hok => x_load Try.underlying25 rfl (tmP rfl rfl) (cellR hok 0 rfl (getm (by omega)))) ?_
              | refine rg_take 11 rfl rfl (by kernel_rfl) (by kernel_rfl) (by kernel_rfl) (want_0) (fun w hok => x_load Try.underlying25 rfl (tmP rfl rfl) (cellRs hok 0 rfl (fun _ => rfl) rfl (by omega) rfl)) ?_
              | refine rg_take 11 rfl rfl (by kernel_rfl) (by kernel_rfl) (by kernel_rfl) (want_0) (fun w hok => x_load Try.underlying25 rfl (tmP rfl rfl) (cellR hok 2 rfl rfl)) ?_
              | refine rg_take 11 rfl rfl (by kernel_rfl) (by kernel_rfl) (by kernel_rfl) (want_0) (fun w hok => x_load Try.underlying25 rfl (tmP rfl rfl) (cellR hok 2 rfl (getm (by omega)))) ?_
              | refine rg_take 11 rfl rfl (by kernel_rfl) (by kernel_rfl) (by kernel_rfl) (want_0) (fun w hok => x_load Try.underlying25 rfl (tmP rfl rfl) (cellRs hok 2 rfl (fun _ => rfl) rfl (by omega) rfl)) ?_
              | refine rg_take 11 rfl rfl (by kernel_rfl) (by kernel_rfl) (by kernel_rfl) (want_0) (fun w hok => x_load Try.underlying25 rfl (tmP rfl rfl) (cellV hok 4 rfl rfl)) ?_
              | refine rg_take 11 rfl rfl (by kernel_rfl) (by kernel_rfl) (by kernel_rfl) (want_0) (fun w hok => x_load Try.underlying25 rfl (tmP rfl rfl) (cellV hok 4 rfl (getm (by omega)))) ?_
              | refine rg_take 11 rfl rfl (by kernel_rfl) (by kernel_rfl) (by kernel_rfl) (want_0) (fun w hok => x_load Try.underlying25 rfl (tmP rfl rfl) (cellVs hok 4 rfl (fun _ => rfl) rfl (by omega) rfl)) ?_
             refine rg_take 12 rfl rfl (by kernel_rfl) (by kernel_rfl) (by kernel_rfl) (want_0) (fun w hok => x_move (tmI rfl rfl)) ?_
             refine rg_take 13 rfl rfl (by kernel_rfl) (by kernel_rfl) (by kernel_rfl) (want_0) (fun w hok => x_ixs Try.underlying25 ts_66 (tmS rfl rfl) (tmI rfl rfl) (by omega)) ?_
             refine rg_take 14 rfl rfl (by kernel_rfl) (by kernel_rfl) (by kernel_rfl) (want_0) (fun w hok => x_fa 2 Try.underlying66 rfl rfl ts_3 (tmP rfl rfl)) ?_
             first
              | refine rg_take 15 rfl rfl (by kernel_rfl) (by kernel_rfl) (by kernel_rfl) (want_0) (fun w hok => x_load Try.underlying3 rfl (tmP rfl rfl) (cellB hok 1 rfl rfl)) ?_
              | refine rg_take 15 rfl rfl (by kernel_rfl) (by kernel_rfl) (by kernel_rfl) (want_0) (fun w hok => x_load Try.underlying3 rfl (tmP rfl rfl) (cellR hok 0 rfl rfl)) ?_
              | refine rg_take 15 rfl rfl (by kernel_rfl) (by kernel_rfl) (by kernel_rfl) (want_0) (fun w hok => x_load Try.underlying3 rfl (tmP rfl rfl) (cellR hok 0 rfl (getm (by omega)))) ?_
              | refine rg_take 15 rfl rfl (by kernel_rfl) (by kernel_rfl) (by kernel_rfl) (want_0) (fun w hok => x_load Try.underlying3 rfl (tmP rfl rfl) (cellRs hok 0 rfl (fun _ => rfl) rfl (by omega) rfl)) ?_
              | refine rg_take 15 rfl rfl (by kernel_rfl) (by kernel_rfl) (by kernel_rfl) (want_0) (fun w hok => x_load Try.underlying3 rfl (tmP rfl rfl) (cellR hok 2 rfl rfl)) ?_
              | refine rg_take 15 rfl rfl (by kernel_rfl) (by kernel_rfl) (by kernel_rfl) (want_0) (fun w hok => x_load Try.underlying3 rfl (tmP rfl rfl) (cellR hok 2 rfl (getm (by omega)))) ?_
              | refine rg_take 15 rfl rfl (by kernel_rfl) (by kernel_rfl) (by kernel_rfl) (want_0) (fun w hok => x_load Try.underlying3 rfl (tmP rfl rfl) (cellRs hok 2 rfl (fun _ => rfl) rfl (by omega) rfl)) ?_
              | refine rg_take 15 rfl rfl (by kernel_rfl) (by kernel_rfl) (by kernel_rfl) (want_0) (fun w hok => x_load Try.underlying3 rfl (tmP rfl rfl) (cellV hok 4 rfl rfl)) ?_
              | refine rg_take 15 rfl rfl (by kernel_rfl) (by kernel_rfl) (by kernel_rfl) (want_0) (fun w hok => x_load Try.underlying3 rfl (tmP rfl rfl) (cellV hok 4 rfl (getm (by omega)))) ?_
              | refine rg_take 15 rfl rfl (by kernel_rfl) (by kernel_rfl) (by kernel_rfl) (want_0) (fun w hok => x_load Try.underlying3 rfl (tmP rfl rfl) (cellVs hok 4 rfl (fun _ => rfl) rfl (by omega) rfl)) ?_
             refine rg_take 16 rfl rfl (by kernel_rfl) (by kernel_rfl) (by kernel_rfl) (want_0) (fun w hok => x_gtr (tmI rfl rfl) (tmI rfl rfl)) ?_
             refine rg_done (oks_drop hS 0 rfl) (by kernel_rfl) ?_
             refine then_n (hK21 _ _ ?_); clear hK21 K21
             refine cnd (tm rfl) (fun hc3 => ?_) (fun hc3 => ?_)
             · try (exfalso; first | with_reducible exact absurd hc3 Bool.false_ne_true | with_reducible exact absurd hc3.symm Bool.false_ne_true | (simp only [nrm] at hc3; omega) | (simp at hc3; done))
               all_goals
                try simp only [nrm] at hc3
                have hb1 : besP kr (k + 1) = k := by simp only [besP]; rw [if_pos hc3]
                refine wlit ?_
                refine wl_v (x_move (tmI rfl rfl)) ?_
                refine wl_v (x_assign (tmI rfl rfl)) ?_
                refine wl_nil ?_
                refine inb_n ?_
                refine then_n (hK15 _ _ ?_); clear hK15 K15
                refine wlit ?_
                first
                 | refine wl_v (x_addN (tmI rfl rfl) (ev_cN 1) (fit_i64 (by omega))) ?_
                 | refine wl_v (x_addI (tmI rfl rfl) (ev_cN 1) (IntWalk.i64_in _ (by omega))) ?_
                 | refine wl_v (x_add (tmI rfl rfl) (ev_cN 1)) ?_
                refine wl_v (x_move (tmI rfl rfl)) ?_
                refine wl_nil ?_
                exact then_n ⟨_, _, rfl, (by show _ < _; omega), (by repeat (first | exact agree_self | exact agree_refl | refine agree_upd rfl ?_ | refine agree_mix rfl ?_)), k + 1, rfl, (by first | rfl | go_num | exact congrArg (Value.int _) (by first | omega | (simp; done) | (simp; omega))), (by first | rfl | go_num | exact congrArg (Value.int _) (by first | omega | (simp; done) | (simp; omega))), (by first | rfl | (rw [hb1]; done) | (rw [hb1]; rfl) | (rw [hb1]; go_num)), hS, (by omega)⟩
             try (exfalso; first | with_reducible exact absurd hc3 Bool.false_ne_true | with_reducible exact absurd hc3.symm Bool.false_ne_true | (simp only [nrm] at hc3; omega) | (simp at hc3; done))
             all_goals
              try simp only [nrm] at hc3
              have hb1 : besP kr (k + 1) = besP kr k := by simp only [besP]; rw [if_neg (by omega)]
              refine wp_skip ?_
              refine inb_n ?_
              refine then_n (hK15 _ _ ?_); clear hK15 K15
              refine wlit ?_
              first
               | refine wl_v (x_addN (tmI rfl rfl) (ev_cN 1) (fit_i64 (by omega))) ?_
               | refine wl_v (x_addI (tmI rfl rfl) (ev_cN 1) (IntWalk.i64_in _ (by omega))) ?_
               | refine wl_v (x_add (tmI rfl rfl) (ev_cN 1)) ?_
              refine wl_v (x_move (tmI rfl rfl)) ?_
              refine wl_nil ?_
              exact then_n ⟨_, _, rfl, (by show _ < _; omega), (by repeat (first | exact agree_self | exact agree_refl | refine agree_upd rfl ?_ | refine agree_mix rfl ?_)), k + 1, rfl, (by first | rfl | go_num | exact congrArg (Value.int _) (by first | omega | (simp; done) | (simp; omega))), (by first | rfl | go_num | exact congrArg (Value.int _) (by first | omega | (simp; done) | (simp; omega))), (by first | rfl | (rw [hb1]; done) | (rw [hb1]; rfl) | (rw [hb1]; go_num)), hS, (by omega)⟩
        try (exfalso; first | with_reducible exact absurd hc2 Bool.false_ne_true | with_reducible exact absurd hc2.symm Bool.false_ne_true | (simp only [nrm] at hc2; omega) | (simp at hc2; done))
        all_goals
         try simp only [nrm] at hc2
         refine wp_exit ?_
         refine then_x ?_; clear hK14 K14
         refine then_x ?_
         refine inb_x ?_
         refine then_n (hK11 _ _ ?_); clear hK11 K11
         refine wp_seq_k ?_; intro K22 hK22
         have hke : k = wt.length := by omega
         subst hke
         obtain ⟨gk, rfl⟩ := row_some (hS.rowOk 0 rfl) (by omega)
         obtain ⟨g1, rfl⟩ := row_some (hS.rowOk 2 rfl) (by omega)
         have hb1 := besP_lt kr wt.length (by omega)
         have hl1 := addP_len kr wt.length
         have hfl : (flat crV (addP kr wt.length)).length = wt.length * 3 := by rw [flat_length crV_len, hl1, hkl]
         have htk := totP_bd kr hmild wt.length (by omega)
         have ho1 : ((addP kr wt.length).getD (besP kr wt.length) default).owed = (kr.getD (besP kr wt.length) default).owed + (kr.getD (besP kr wt.length) default).weight := by rw [addP_getD kr wt.length (by omega) _, if_pos hb1]; rfl
         have hmk := hmild (besP kr wt.length)
         refine wlit ?_
         refine wl_v (x_move (tmP rfl rfl)) ?_
         refine wl_v (x_nil (A := none) (tmP rfl rfl)) ?_
         refine wl_v (x_fa 0 Try.underlying27 rfl rfl ts_25 (tmP rfl rfl)) ?_
         first
          | refine wl_v (x_load Try.underlying25 rfl (tmP rfl rfl) (cellB hS.ok 1 rfl rfl)) ?_
          | refine wl_v (x_load Try.underlying25 rfl (tmP rfl rfl) (cellR hS.ok 0 rfl rfl)) ?_
          | refine wl_v (x_load Try.underlying25 rfl (tmP rfl rfl) (cellR hS.ok 0 rfl (getm (by omega)))) ?_
          | refine wl_v (x_load Try.underlying25 rfl (tmP rfl rfl) (cellRs hS.ok 0 rfl (fun _ => rfl) rfl (by omega) rfl)) ?_
          | refine wl_v (x_load Try.underlying25 rfl (tmP rfl rfl) (cellR hS.ok 2 rfl rfl)) ?_
          | refine wl_v (x_load Try.underlying25 rfl (tmP rfl rfl) (cellR hS.ok 2 rfl (getm (by omega)))) ?_
          | refine wl_v (x_load Try.underlying25 rfl (tmP rfl rfl) (cellRs hS.ok 2 rfl (fun _ => rfl) rfl (by omega) rfl)) ?_
          | refine wl_v (x_load Try.underlying25 rfl (tmP rfl rfl) (cellV hS.ok 4 rfl rfl)) ?_
          | refine wl_v (x_load Try.underlying25 rfl (tmP rfl rfl) (cellV hS.ok 4 rfl (getm (by omega)))) ?_
          | refine wl_v (x_load Try.underlying25 rfl (tmP rfl rfl) (cellVs hS.ok 4 rfl (fun _ => rfl) rfl (by omega) rfl)) ?_
         refine wl_v (x_move (tmI rfl rfl)) ?_
         refine wl_v (x_ixs Try.underlying25 ts_66 (tmS rfl rfl) (tmI rfl rfl) (by omega)) ?_
         refine wl_v (x_fa 2 Try.underlying66 rfl rfl ts_3 (tmP rfl rfl)) ?_
         first
          | refine wl_v (x_load Try.underlying3 rfl (tmP rfl rfl) (cellB hS.ok 1 rfl rfl)) ?_
          | refine wl_v (x_load Try.underlying3 rfl (tmP rfl rfl) (cellR hS.ok 0 rfl rfl)) ?_
          | refine wl_v (x_load Try.underlying3 rfl (tmP rfl rfl) (cellR hS.ok 0 rfl (getm (by omega)))) ?_
          | refine wl_v (x_load Try.underlying3 rfl (tmP rfl rfl) (cellRs hS.ok 0 rfl (fun _ => rfl) rfl (by omega) rfl)) ?_
          | refine wl_v (x_load Try.underlying3 rfl (tmP rfl rfl) (cellR hS.ok 2 rfl rfl)) ?_
          | refine wl_v (x_load Try.underlying3 rfl (tmP rfl rfl) (cellR hS.ok 2 rfl (getm (by omega)))) ?_
          | refine wl_v (x_load Try.underlying3 rfl (tmP rfl rfl) (cellRs hS.ok 2 rfl (fun _ => rfl) rfl (by omega) rfl)) ?_
          | refine wl_v (x_load Try.underlying3 rfl (tmP rfl rfl) (cellV hS.ok 4 rfl rfl)) ?_
          | refine wl_v (x_load Try.underlying3 rfl (tmP rfl rfl) (cellV hS.ok 4 rfl (getm (by omega)))) ?_
          | refine wl_v (x_load Try.underlying3 rfl (tmP rfl rfl) (cellVs hS.ok 4 rfl (fun _ => rfl) rfl (by omega) rfl)) ?_
         refine wl_v (x_move (tmI rfl rfl)) ?_
         first
          | refine wl_v (x_subN (tmI rfl rfl) (tmI rfl rfl) (fit_i64 (by omega)) (by omega)) ?_
          | refine wl_v (x_subI (tmI rfl rfl) (tmI rfl rfl) (IntWalk.i64_in _ (by omega))) ?_
          | refine wl_v (x_sub (tmI rfl rfl) (tmI rfl rfl)) ?_
         refine wl_v (x_ixs Try.underlying25 ts_66 (tmS rfl rfl) (tmI rfl rfl) (by omega)) ?_
         refine wl_v (x_fa 2 Try.underlying66 rfl rfl ts_3 (tmP rfl rfl)) ?_
         refine wl_e rfl ?_; intro K hK
         first
          | refine ow_store hS 0 rfl ts_3 (tmP rfl rfl) (tmI rfl rfl) rfl rfl ?_
          | refine ow_storeX hS 0 rfl ts_3 (tmP rfl rfl) (tmI rfl rfl) rfl (by simp; omega) ?_
          | refine ow_storeRs hS 0 rfl ts_3 (tmP rfl rfl) (tmI rfl rfl) rfl (by first | omega | (simp; omega)) ?_
          | refine ow_storeR hS 0 rfl ts_3 (tmP rfl rfl) (tmI rfl rfl) rfl (by first | omega | (simp; omega)) ?_
          | refine ow_store hS 1 rfl ts_3 (tmP rfl rfl) (tmI rfl rfl) rfl rfl ?_
          | refine ow_storeX hS 1 rfl ts_3 (tmP rfl rfl) (tmI rfl rfl) rfl (by simp; omega) ?_
          | refine ow_storeRs hS 1 rfl ts_3 (tmP rfl rfl) (tmI rfl rfl) rfl (by first | omega | (simp; omega)) ?_
          | refine ow_storeR hS 1 rfl ts_3 (tmP rfl rfl) (tmI rfl rfl) rfl (by first | omega | (simp; omega)) ?_
          | refine ow_store hS 2 rfl ts_3 (tmP rfl rfl) (tmI rfl rfl) rfl rfl ?_
          | refine ow_storeX hS 2 rfl ts_3 (tmP rfl rfl) (tmI rfl rfl) rfl (by simp; omega) ?_
          | refine ow_storeRs hS 2 rfl ts_3 (tmP rfl rfl) (tmI rfl rfl) rfl (by first | omega | (simp; omega)) ?_
          | refine ow_storeR hS 2 rfl ts_3 (tmP rfl rfl) (tmI rfl rfl) rfl (by first | omega | (simp; omega)) ?_
         clear hS; intro w hS
         refine hK _ _ ?_; clear hK K
         refine wl_nil ?_
         rw [flat_set (pay ((addP kr wt.length).getD (besP kr wt.length) default) (totP kr wt.length)) crV_len (by decide) (by omega) rfl] at hS
         refine then_n (hK22 _ _ ?_); clear hK22 K22
         refine wp_seq_k ?_; intro K23 hK23
         refine wlit ?_
         refine wl_v (x_move (tmS rfl rfl)) ?_
         refine wl_v (x_move (tmI rfl rfl)) ?_
         refine wl_v (x_ixs Try.underlying36 ts_33 (tmS rfl rfl) (tmI rfl rfl) (by omega)) ?_
         first
          | refine wl_v (x_loadA (cs := [_, _, _, _]) Try.underlying33 rfl ts_33 (tmP rfl rfl) (rangeB hS.ok 1 rfl rfl)) ?_
          | refine wl_v (x_loadA Try.underlying33 rfl (by exact ts_33) (tmP rfl rfl) (rangeRs hS.ok 0 rfl (fun _ => rfl) (by omega))) ?_
          | refine wl_v (x_loadA Try.underlying33 rfl (by exact ts_33) (tmP rfl rfl) (rangeRs hS.ok 2 rfl (fun _ => rfl) (by omega))) ?_
          | refine wl_v (x_loadA Try.underlying33 rfl (by exact ts_33) (tmP rfl rfl) (rangeVs hS.ok 4 rfl (fun _ => rfl) (by omega))) ?_
         refine wl_e rfl ?_; intro K hK
         refine ow_storeA hS 3 rfl ts_33 (tmP rfl rfl) (tmA rfl rfl) rfl rfl rfl ?_
         clear hS; intro w hS
         try replace hS := St.nm (M' := [.row _ _ _ _ _, _, .row _ _ _ _ _, .blk _ _ [_, _, _, _], .vw _ _]) hS rfl
         refine hK _ _ ?_; clear hK K
         refine wl_v (x_assign ev_c) ?_
         refine wl_nil ?_
         refine then_n (hK23 _ _ ?_); clear hK23 K23
         refine wp_ret ?_
         refine ret2 rfl (.cell rfl rfl (load_rowB (cs := [_, _, _, _]) hS.ok 3 rfl Try.underlying33 rfl ts_33 rfl)) (.tmp rfl (show _ = Value.bool _ from rfl)) ?_
         refine ⟨some ⟨gk, 0, none⟩, c2, rfl, ?_⟩
         unfold payP
         rw [hkl]
         exact hS.pick [0, 1, 4] rfl rfl
set_option maxRecDepth 100000 in
set_option maxHeartbeats 4000000 in
theorem i_pick_none_c (gs : Nat) (n : Nat) (A : Option Addr) (c : Nat) (l : List Cn) (w0 : World) (hv : View w0 w0.heap.size A (flat cnV l))
    (hl : l.length = n) (hn4 : n ≤ 1000) (hq0 : (wfT l n).length = 0) :
    Calls Try.prog 8 #[.pointer (some ⟨gs, 1, none⟩), .slice A n c] w0 fun e w' =>
      e = .returned (.tuple #[.agg (cnV default).toArray, .bool false]) ∧ Kp [] w0 w' := by
  have hS := (St.sv w0).vcons rfl hv
  refine ent (n := 98) Try.func8 rfl rfl ?_
  refine wp_seq_k ?_; intro K1 hK1
  refine wlit ?_
  refine wl_e rfl ?_; intro K hK
  refine ow_alloc hS tz_33 rfl ?_
  clear hS; intro g0_0 w hg0_0 hS
  refine hK _ _ ?_; clear hK K
  refine wl_v (x_assign ev_c) ?_
  refine wl_nil ?_
  refine then_n (hK1 _ _ ?_); clear hK1 K1
  refine wp_seq_k ?_; intro K2 hK2
  refine wlit ?_
  refine wl_v (x_move (tmS rfl rfl)) ?_
  refine wl_e rfl ?_; intro K hK
  refine ow_call Try.func19 rfl rfl (evs_cons (tmS rfl rfl) <| evs_nil) (weighing_c n A c l _ (viewV hS.ok 1 rfl) hl (by omega)) ?_
  rintro e w ⟨q1, A1, c1, rfl, hq1, hn1, hk1⟩
  refine ⟨_, rfl, ?_⟩
  replace hS := hS.kept hk1
  clear hn1 hk1
  refine hK _ _ ?_; clear hK K
  refine wl_v (x_assign (tmS rfl rfl)) ?_
  refine wl_nil ?_
  refine then_n (hK2 _ _ ?_); clear hK2 K2
  refine wp_seq_k ?_; intro K3 hK3
  refine wp_seq_k ?_; intro K4 hK4
  refine wlit ?_
  refine wl_v (x_move (tmP rfl rfl)) ?_
  first
   | refine wl_v (x_peql Try.underlying24 (tmP rfl rfl) ev_c) ?_
   | refine wl_v (x_peqln Try.underlying24 (tmP rfl rfl) ev_c) ?_
  refine wl_v (x_move (tmB rfl rfl)) ?_
  refine gs_wl (tm (t := 13) rfl) (fun hg2_2 => ?_) (fun hg2_2 => ?_)
  · have hg2_2' := hg2_2; (try simp only [nrm] at hg2_2'); try (exfalso; first | with_reducible exact absurd hg2_2 Bool.false_ne_true | with_reducible exact absurd hg2_2.symm Bool.false_ne_true | omega | (simp at hg2_2; done))
    all_goals
     refine wl_s rfl (want_n rfl rfl rfl rfl (by rw [hg2_2]; rfl)) ?_
     refine wl_s rfl (want_n rfl rfl rfl rfl (by rw [hg2_2]; rfl)) ?_
     refine wl_s rfl (want_n rfl rfl rfl rfl (by rw [hg2_2]; rfl)) ?_
     refine wl_v (x_pickT (tmB rfl rfl) hg2_2 ev_c) ?_
     refine wl_nil ?_
     refine then_n (hK4 _ _ ?_); clear hK4 K4
     refine cnd_t (tmB rfl rfl) rfl ?_
     refine wp_seq_k ?_; intro K5 hK5
     refine wlit ?_
     refine wl_v (x_build (bc_skip (.int .i64 0) <| bc_skip (.int .i64 0) <| bc_skip (.int .i64 0) <| bc_skip (.int .u32 0) <| bc_nil) (by kernel_rfl)) ?_
     refine wl_e rfl ?_; intro K hK
     refine ow_storeA hS 0 rfl ts_33 (tmP rfl rfl) (tmA rfl rfl) rfl rfl rfl ?_
     clear hS; intro w hS
     try replace hS := St.nm (M' := [.blk _ _ [_, _, _, _], .vw _ _]) hS rfl
     refine hK _ _ ?_; clear hK K
     refine wl_v (x_assign ev_c) ?_
     refine wl_nil ?_
     refine then_n (hK5 _ _ ?_); clear hK5 K5
     refine wp_ret ?_
     refine then_r ?_
     refine ret2 rfl (.cell rfl rfl (load_rowB (cs := [_, _, _, _]) hS.ok 0 rfl Try.underlying33 rfl ts_33 rfl)) (.tmp rfl (show _ = Value.bool _ from rfl)) ?_
     exact ⟨rfl, hS.kp⟩
  have hg2_2' := hg2_2; (try simp only [nrm] at hg2_2'); try (exfalso; first | with_reducible exact absurd hg2_2 Bool.false_ne_true | with_reducible exact absurd hg2_2.symm Bool.false_ne_true | omega | (simp at hg2_2; done))
  all_goals
   refine wl_gv (want_y rfl rfl rfl rfl (by rw [hg2_2]; rfl)) (x_move (tmS rfl rfl)) ?_
   refine wl_gv (want_y rfl rfl rfl rfl (by rw [hg2_2]; rfl)) (x_len Try.underlying36 (tmS rfl rfl)) ?_
   refine wl_gv (want_y rfl rfl rfl rfl (by rw [hg2_2]; rfl)) (x_eql (tmI rfl rfl) (ev_cN 0)) ?_
   refine wl_v (x_pickF (tmB rfl rfl) hg2_2 (tmB rfl rfl)) ?_
   refine wl_nil ?_
   refine then_n (hK4 _ _ ?_); clear hK4 K4
   refine cnds (tm rfl) (fun hc0 => ?_) (fun hc0 => ?_)
   · exfalso
     simp only [nrm] at hc0; omega
   try (exfalso; first | with_reducible exact absurd hc0 Bool.false_ne_true | with_reducible exact absurd hc0.symm Bool.false_ne_true | (simp only [nrm] at hc0; omega) | (simp at hc0; done))
   all_goals
    try simp only [nrm] at hc0
    refine wp_seq_k ?_; intro K7 hK7
    refine wlit ?_
    refine wl_v (x_build (bc_skip (.int .i64 0) <| bc_skip (.int .i64 0) <| bc_skip (.int .i64 0) <| bc_skip (.int .u32 0) <| bc_nil) (by kernel_rfl)) ?_
    refine wl_e rfl ?_; intro K hK
    refine ow_storeA hS 0 rfl ts_33 (tmP rfl rfl) (tmA rfl rfl) rfl rfl rfl ?_
    clear hS; intro w hS
    try replace hS := St.nm (M' := [.blk _ _ [_, _, _, _], .vw _ _]) hS rfl
    refine hK _ _ ?_; clear hK K
    refine wl_v (x_assign ev_c) ?_
    refine wl_nil ?_
    refine then_n (hK7 _ _ ?_); clear hK7 K7
    refine wp_ret ?_
    refine then_r ?_
    refine ret2 rfl (.cell rfl rfl (load_rowB (cs := [_, _, _, _]) hS.ok 0 rfl Try.underlying33 rfl ts_33 rfl)) (.tmp rfl (show _ = Value.bool _ from rfl)) ?_
    exact ⟨rfl, hS.kp⟩
end Go.Proofs.Yteocdobepgbnkaa
