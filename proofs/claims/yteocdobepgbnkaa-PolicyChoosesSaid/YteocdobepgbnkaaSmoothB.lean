
/- smooth: learn by contract. Conditions: none but bounds. -/
import Derived.Test.YteocdobepgbnkaaSmooth
namespace Go.Proofs.Yteocdobepgbnkaa
open Go.RowKit

def fresh (p : Cn) : Cr := ⟨p.backend, p.weight, 0⟩

set_option maxRecDepth 100000 in
set_option maxHeartbeats 4000000 in
theorem learn_c (F : List Nat) (gs : Nat) (v0 : Value) (n : Nat) (A : Option Addr) (c : Nat) (l : List Cn) (w0 : World) (hS : St F w0 [.blk gs 27 [v0], .vw A (flat cnV l)] w0) (hl : l.length = n) (hn4 : n ≤ 1000000) :
    Calls Try.prog 21 #[.pointer (some ⟨gs, 0, none⟩), .slice A n c] w0 fun e w' => ∃ K' c', e = .returned (.tuple #[]) ∧ St F w0 [.row (.slice K' n c') 66 3 n (flat crV (l.map fresh)), .blk gs 27 [.slice K' n c'], .vw A (flat cnV l)] w' := by
  refine ent (n := 30) Try.func21 rfl rfl ?_
  refine wp_seq_k ?_; intro K1 hK1
  refine wlit ?_
  refine wl_v (x_move (tmP rfl rfl)) ?_
  refine wl_v (x_nil (A := none) (tmP rfl rfl)) ?_
  refine wl_v (x_fa 0 Try.underlying27 rfl rfl ts_25 (tmP rfl rfl)) ?_
  refine wl_e rfl ?_; intro K hK
  first
   | refine ow_store hS 0 rfl ts_25 (tmP rfl rfl) ev_c rfl rfl ?_
   | refine ow_storeX hS 0 rfl ts_25 (tmP rfl rfl) ev_c rfl (by simp; omega) ?_
   | refine ow_storeRs hS 0 rfl ts_25 (tmP rfl rfl) ev_c rfl (by first | omega | (simp; omega)) ?_
   | refine ow_storeR hS 0 rfl ts_25 (tmP rfl rfl) ev_c rfl (by first | omega | (simp; omega)) ?_
   | refine ow_store hS 1 rfl ts_25 (tmP rfl rfl) ev_c rfl rfl ?_
   | refine ow_storeX hS 1 rfl ts_25 (tmP rfl rfl) ev_c rfl (by simp; omega) ?_
   | refine ow_storeRs hS 1 rfl ts_25 (tmP rfl rfl) ev_c rfl (by first | omega | (simp; omega)) ?_
   | refine ow_storeR hS 1 rfl ts_25 (tmP rfl rfl) ev_c rfl (by first | omega | (simp; omega)) ?_
  clear hS; intro w hS
  refine hK _ _ ?_; clear hK K
  refine wl_nil ?_
  refine then_n (hK1 _ _ ?_); clear hK1 K1
  refine wp_seq_k ?_; intro K2 hK2
  refine wlit ?_
  refine wl_v (x_move (tmS rfl rfl)) ?_
  refine wl_v (x_len Try.underlying36 (tmS rfl rfl)) ?_
  refine wl_v (x_move (ev_cN 0)) ?_
  refine wl_nil ?_
  refine then_n (hK2 _ _ ?_); clear hK2 K2
  refine wp_block ?_
  have hS := hS.nilrow 66 3
  refine lp [5, 11, 12, 13, 14, 15, 16, 17, 18, 19, 20, 21, 22, 23, 24, 25, 26, 27, 28, 29] (fun mz g w => ∃ (k : Nat), ∃ (K' : Option Addr), ∃ (c' : Nat), mz = n - k ∧ g 11 = .int .i64 (k : Int) ∧ St F w0 [.row (.slice K' k c') 66 3 k (flat crV ((l.take k).map fresh)), .blk gs 27 [.slice K' k c'], .vw A (flat cnV l)] w ∧ (k ≤ n)) ?_ ?_
  · exact ⟨_, 0, none, 0, rfl, (by first | rfl | go_num | exact congrArg (Value.int _) (by first | omega | (simp; done) | (simp; omega))), hS, (by omega)⟩
  · clear hS; intro mz g w hI
    obtain ⟨k, K', c', rfl, hs11, hS, hk⟩ := hI
    refine fr_know (d := 11) hs11 ?_; clear hs11
    refine wp_seq_k ?_; intro K3 hK3
    refine wlit ?_
    refine wl_v (x_lss (tmI rfl rfl) (tmI rfl rfl)) ?_
    refine wl_nil ?_
    refine then_n (hK3 _ _ ?_); clear hK3 K3
    refine wp_seq_k ?_; intro K4 hK4
    refine cnd (tm rfl) (fun hc0 => ?_) (fun hc0 => ?_)
    · try (exfalso; first | with_reducible exact absurd hc0 Bool.false_ne_true | with_reducible exact absurd hc0.symm Bool.false_ne_true | (simp only [nrm] at hc0; omega) | (simp at hc0; done))
      all_goals
       try simp only [nrm] at hc0
       obtain ⟨b4, o4, rfl⟩ := view_some (viewV hS.ok 2 rfl) (by rw [flat_length cnV_len]; omega)
       refine wp_skip ?_
       refine then_n (hK4 _ _ ?_); clear hK4 K4
       refine wp_seq_k ?_; intro K5 hK5
       refine wp_block ?_
       refine wp_seq_k ?_; intro K6 hK6
       refine wlit ?_
       refine wl_v (x_ixs Try.underlying36 ts_33 (tmS rfl rfl) (tmI rfl rfl) (by omega)) ?_
       first
        | refine wl_v (x_loadA (cs := [_, _, _, _]) Try.underlying33 rfl ts_33 (tmP rfl rfl) (rangeB hS.ok 1 rfl rfl)) ?_
        | refine wl_v (x_loadA Try.underlying33 rfl (by exact ts_33) (tmP rfl rfl) (rangeRs hS.ok 0 rfl (fun _ => rfl) (by omega))) ?_
        | refine wl_v (x_loadA Try.underlying33 rfl (by exact ts_33) (tmP rfl rfl) (rangeVs hS.ok 2 rfl (fun _ => rfl) (by omega))) ?_
       refine wl_e rfl ?_; intro K hK
       refine ow_alloc hS tz_33 rfl ?_
       clear hS; intro g3_2 w hg3_2 hS
       refine hK _ _ ?_; clear hK K
       refine wl_e rfl ?_; intro K hK
       refine ow_storeA hS 0 rfl ts_33 (tmP rfl rfl) (tmA rfl rfl) rfl rfl rfl ?_
       clear hS; intro w hS
       try replace hS := St.nm (M' := [.blk _ _ [_, _, _, _], .row _ _ _ _ _, _, .vw _ _]) hS rfl
       refine hK _ _ ?_; clear hK K
       refine wl_nil ?_
       refine then_n (hK6 _ _ ?_); clear hK6 K6
       --ents row,gs,g3_2,vw
       replace hS := hS.pick [1, 2, 0, 3] rfl rfl
       try replace hS := St.nm (M' := [.row _ _ _ _ _, _, .blk _ _ [_, _, _, _], .vw _ _]) hS rfl
       refine rg_startk 2 hS mixed_ ?_
       clear hS; intro w hS
       refine rg_take 0 rfl rfl (by kernel_rfl) (by kernel_rfl) (by kernel_rfl) (want_0) (fun w hok => x_move (tmP rfl rfl)) ?_
       refine rg_take 1 rfl rfl (by kernel_rfl) (by kernel_rfl) (by kernel_rfl) (want_0) (fun w hok => x_move (tmP rfl rfl)) ?_
       refine rg_take 2 rfl rfl (by kernel_rfl) (by kernel_rfl) (by kernel_rfl) (want_0) (fun w hok => x_nil (A := none) (tmP rfl rfl)) ?_
       refine rg_take 3 rfl rfl (by kernel_rfl) (by kernel_rfl) (by kernel_rfl) (want_0) (fun w hok => x_fa 0 Try.underlying27 rfl rfl ts_25 (tmP rfl rfl)) ?_
       refine rg_take 5 rfl rfl (by kernel_rfl) (by kernel_rfl) (by kernel_rfl) (want_0) (fun w hok => x_fa 1 Try.underlying33 rfl rfl ts_3 (tmP rfl rfl)) ?_
       first
        | refine rg_take 6 rfl rfl (by kernel_rfl) (by kernel_rfl) (by kernel_rfl) (want_0) (fun w hok => x_load Try.underlying3 rfl (tmP rfl rfl) (cellB hok 0 rfl rfl)) ?_
        | refine rg_take 6 rfl rfl (by kernel_rfl) (by kernel_rfl) (by kernel_rfl) (want_0) (fun w hok => x_load Try.underlying3 rfl (tmP rfl rfl) (cellB hok 0 rfl (getm (by omega)))) ?_
       refine rg_take 7 rfl rfl (by kernel_rfl) (by kernel_rfl) (by kernel_rfl) (want_0) (fun w hok => x_fa 2 Try.underlying33 rfl rfl ts_3 (tmP rfl rfl)) ?_
       first
        | refine rg_take 8 rfl rfl (by kernel_rfl) (by kernel_rfl) (by kernel_rfl) (want_0) (fun w hok => x_load Try.underlying3 rfl (tmP rfl rfl) (cellB hok 0 rfl rfl)) ?_
        | refine rg_take 8 rfl rfl (by kernel_rfl) (by kernel_rfl) (by kernel_rfl) (want_0) (fun w hok => x_load Try.underlying3 rfl (tmP rfl rfl) (cellB hok 0 rfl (getm (by omega)))) ?_
       refine rg_take 9 rfl rfl (by kernel_rfl) (by kernel_rfl) (by kernel_rfl) (want_0) (fun w hok => x_build (bc_take (tmI rfl rfl) <| bc_take (tmI rfl rfl) <| bc_skip (.int .i64 0) <| bc_nil) (by kernel_rfl)) ?_
       refine rg_step2 4 10 rfl rfl (by kernel_rfl) (want_0) (want_0) (oks_drop hS 2 rfl) ?_ ?_
       · intro K hK
         first
          | refine ow_v (x_load Try.underlying25 rfl (tmP rfl rfl) (cellB hS.ok 1 rfl rfl)) ?_
          | refine ow_v (x_load Try.underlying25 rfl (tmP rfl rfl) (cellR hS.ok 0 rfl rfl)) ?_
          | refine ow_v (x_load Try.underlying25 rfl (tmP rfl rfl) (cellR hS.ok 0 rfl (getm (by omega)))) ?_
          | refine ow_v (x_load Try.underlying25 rfl (tmP rfl rfl) (cellRs hS.ok 0 rfl (fun _ => rfl) rfl (by omega) rfl)) ?_
          | refine ow_v (x_load Try.underlying25 rfl (tmP rfl rfl) (cellV hS.ok 3 rfl rfl)) ?_
          | refine ow_v (x_load Try.underlying25 rfl (tmP rfl rfl) (cellV hS.ok 3 rfl (getm (by omega)))) ?_
          | refine ow_v (x_load Try.underlying25 rfl (tmP rfl rfl) (cellVs hS.ok 3 rfl (fun _ => rfl) rfl (by omega) rfl)) ?_
         refine hK _ _ ?_; clear hK K
         refine rg_step 10 rfl (by kernel_rfl) (want_0) (oks_drop hS 2 rfl) ?_; intro K hK
         refine ow_build hS Try.underlying25 tz_66 (bc_takeL (tmA rfl rfl) <| bc_nil) rfl rfl (by kernel_rfl) ?_
         clear hS; intro g4_10 w hg4_10 hS
         refine hK _ _ ?_; clear hK K
         refine rg_step 11 rfl (by kernel_rfl) (want_0) (oks_drop hS 3 rfl) ?_; intro K hK
         (refine ow_append hS 1 0 rfl rfl Try.underlying25 tz_66 rfl (tmS rfl rfl) (tmS rfl rfl) rfl ⟨by decide, by decide, rfl⟩ (by simp only [maxLen]; omega) (by omega) ?_; clear hS; intro g4_11 cg4_11 w hS)
         refine hK _ _ ?_; clear hK K
         refine rg_take 12 rfl rfl (by kernel_rfl) (by kernel_rfl) (by kernel_rfl) (want_0) (fun w hok => x_nil (A := none) (tmP rfl rfl)) ?_
         refine rg_take 13 rfl rfl (by kernel_rfl) (by kernel_rfl) (by kernel_rfl) (want_0) (fun w hok => x_fa 0 Try.underlying27 rfl rfl ts_25 (tmP rfl rfl)) ?_
         refine rg_step 14 rfl (by kernel_rfl) (want_0) (oks_drop hS 3 rfl) ?_; intro K hK
         first
          | refine ow_store hS 1 rfl ts_25 (tmP rfl rfl) (tmS rfl rfl) rfl rfl ?_
          | refine ow_storeX hS 1 rfl ts_25 (tmP rfl rfl) (tmS rfl rfl) rfl (by simp; omega) ?_
          | refine ow_storeRs hS 1 rfl ts_25 (tmP rfl rfl) (tmS rfl rfl) rfl (by first | omega | (simp; omega)) ?_
          | refine ow_storeR hS 1 rfl ts_25 (tmP rfl rfl) (tmS rfl rfl) rfl (by first | omega | (simp; omega)) ?_
          | refine ow_store hS 2 rfl ts_25 (tmP rfl rfl) (tmS rfl rfl) rfl rfl ?_
          | refine ow_storeX hS 2 rfl ts_25 (tmP rfl rfl) (tmS rfl rfl) rfl (by simp; omega) ?_
          | refine ow_storeRs hS 2 rfl ts_25 (tmP rfl rfl) (tmS rfl rfl) rfl (by first | omega | (simp; omega)) ?_
          | refine ow_storeR hS 2 rfl ts_25 (tmP rfl rfl) (tmS rfl rfl) rfl (by first | omega | (simp; omega)) ?_
         clear hS; intro w hS
         refine hK _ _ ?_; clear hK K
         refine rg_done (oks_drop hS 3 rfl) (by kernel_rfl) ?_
         refine inb_n ?_
         refine then_n (hK5 _ _ ?_); clear hK5 K5
         refine wlit ?_
         first
          | refine wl_v (x_addN (tmI rfl rfl) (ev_cN 1) (fit_i64 (by omega))) ?_
          | refine wl_v (x_addI (tmI rfl rfl) (ev_cN 1) (IntWalk.i64_in _ (by omega))) ?_
          | refine wl_v (x_add (tmI rfl rfl) (ev_cN 1)) ?_
         refine wl_v (x_move (tmI rfl rfl)) ?_
         refine wl_nil ?_
         have hx : flat crV ((l.take (k + 1)).map fresh) = flat crV ((l.take k).map fresh) ++ crV (fresh (l.getD k default)) := by rw [List.take_succ_eq_append_getElem (by omega), List.map_append, List.map_singleton, flat_snoc, List.getD_eq_getElem?_getD, List.getElem?_eq_getElem (by omega)]; rfl
         exact then_n ⟨_, _, rfl, (by show _ < _; omega), (by repeat (first | exact agree_self | exact agree_refl | refine agree_upd rfl ?_ | refine agree_mix rfl ?_)), k + 1, _, _, rfl, (by first | rfl | go_num | exact congrArg (Value.int _) (by first | omega | (simp; done) | (simp; omega))), (by rw [hx]; exact hS.pick [1, 2, 4] rfl rfl), (by omega)⟩
       · intro K hK
         refine ow_build hS Try.underlying25 tz_66 (bc_takeL (tmA rfl rfl) <| bc_nil) rfl rfl (by kernel_rfl) ?_
         clear hS; intro g4_10 w hg4_10 hS
         refine hK _ _ ?_; clear hK K
         refine rg_step 4 rfl (by kernel_rfl) (want_0) (oks_drop hS 3 rfl) ?_; intro K hK
         first
          | refine ow_v (x_load Try.underlying25 rfl (tmP rfl rfl) (cellB hS.ok 0 rfl rfl)) ?_
          | refine ow_v (x_load Try.underlying25 rfl (tmP rfl rfl) (cellB hS.ok 2 rfl rfl)) ?_
          | refine ow_v (x_load Try.underlying25 rfl (tmP rfl rfl) (cellR hS.ok 1 rfl rfl)) ?_
          | refine ow_v (x_load Try.underlying25 rfl (tmP rfl rfl) (cellR hS.ok 1 rfl (getm (by omega)))) ?_
          | refine ow_v (x_load Try.underlying25 rfl (tmP rfl rfl) (cellRs hS.ok 1 rfl (fun _ => rfl) rfl (by omega) rfl)) ?_
          | refine ow_v (x_load Try.underlying25 rfl (tmP rfl rfl) (cellV hS.ok 4 rfl rfl)) ?_
          | refine ow_v (x_load Try.underlying25 rfl (tmP rfl rfl) (cellV hS.ok 4 rfl (getm (by omega)))) ?_
          | refine ow_v (x_load Try.underlying25 rfl (tmP rfl rfl) (cellVs hS.ok 4 rfl (fun _ => rfl) rfl (by omega) rfl)) ?_
         refine hK _ _ ?_; clear hK K
         refine rg_step 11 rfl (by kernel_rfl) (want_0) (oks_drop hS 3 rfl) ?_; intro K hK
         (refine ow_append hS 1 0 rfl rfl Try.underlying25 tz_66 rfl (tmS rfl rfl) (tmS rfl rfl) rfl ⟨by decide, by decide, rfl⟩ (by simp only [maxLen]; omega) (by omega) ?_; clear hS; intro g4_11 cg4_11 w hS)
         refine hK _ _ ?_; clear hK K
         refine rg_take 12 rfl rfl (by kernel_rfl) (by kernel_rfl) (by kernel_rfl) (want_0) (fun w hok => x_nil (A := none) (tmP rfl rfl)) ?_
         refine rg_take 13 rfl rfl (by kernel_rfl) (by kernel_rfl) (by kernel_rfl) (want_0) (fun w hok => x_fa 0 Try.underlying27 rfl rfl ts_25 (tmP rfl rfl)) ?_
         refine rg_step 14 rfl (by kernel_rfl) (want_0) (oks_drop hS 3 rfl) ?_; intro K hK
         first
          | refine ow_store hS 1 rfl ts_25 (tmP rfl rfl) (tmS rfl rfl) rfl rfl ?_
          | refine ow_storeX hS 1 rfl ts_25 (tmP rfl rfl) (tmS rfl rfl) rfl (by simp; omega) ?_
          | refine ow_storeRs hS 1 rfl ts_25 (tmP rfl rfl) (tmS rfl rfl) rfl (by first | omega | (simp; omega)) ?_
          | refine ow_storeR hS 1 rfl ts_25 (tmP rfl rfl) (tmS rfl rfl) rfl (by first | omega | (simp; omega)) ?_
          | refine ow_store hS 2 rfl ts_25 (tmP rfl rfl) (tmS rfl rfl) rfl rfl ?_
          | refine ow_storeX hS 2 rfl ts_25 (tmP rfl rfl) (tmS rfl rfl) rfl (by simp; omega) ?_
          | refine ow_storeRs hS 2 rfl ts_25 (tmP rfl rfl) (tmS rfl rfl) rfl (by first | omega | (simp; omega)) ?_
          | refine ow_storeR hS 2 rfl ts_25 (tmP rfl rfl) (tmS rfl rfl) rfl (by first | omega | (simp; omega)) ?_
         clear hS; intro w hS
         refine hK _ _ ?_; clear hK K
         refine rg_done (oks_drop hS 3 rfl) (by kernel_rfl) ?_
         refine inb_n ?_
         refine then_n (hK5 _ _ ?_); clear hK5 K5
         refine wlit ?_
         first
          | refine wl_v (x_addN (tmI rfl rfl) (ev_cN 1) (fit_i64 (by omega))) ?_
          | refine wl_v (x_addI (tmI rfl rfl) (ev_cN 1) (IntWalk.i64_in _ (by omega))) ?_
          | refine wl_v (x_add (tmI rfl rfl) (ev_cN 1)) ?_
         refine wl_v (x_move (tmI rfl rfl)) ?_
         refine wl_nil ?_
         have hx : flat crV ((l.take (k + 1)).map fresh) = flat crV ((l.take k).map fresh) ++ crV (fresh (l.getD k default)) := by rw [List.take_succ_eq_append_getElem (by omega), List.map_append, List.map_singleton, flat_snoc, List.getD_eq_getElem?_getD, List.getElem?_eq_getElem (by omega)]; rfl
         exact then_n ⟨_, _, rfl, (by show _ < _; omega), (by repeat (first | exact agree_self | exact agree_refl | refine agree_upd rfl ?_ | refine agree_mix rfl ?_)), k + 1, _, _, rfl, (by first | rfl | go_num | exact congrArg (Value.int _) (by first | omega | (simp; done) | (simp; omega))), (by rw [hx]; exact hS.pick [1, 2, 4] rfl rfl), (by omega)⟩
    try (exfalso; first | with_reducible exact absurd hc0 Bool.false_ne_true | with_reducible exact absurd hc0.symm Bool.false_ne_true | (simp only [nrm] at hc0; omega) | (simp at hc0; done))
    all_goals
     try simp only [nrm] at hc0
     refine wp_exit ?_
     refine then_x ?_; clear hK4 K4
     refine then_x ?_
     refine inb_x ?_
     refine end_n ?_
     refine ret0 rfl ?_
     obtain rfl : n = k := by omega
     rw [List.take_of_length_le (by omega)] at hS
     exact ⟨_, _, rfl, hS⟩
end Go.Proofs.Yteocdobepgbnkaa
