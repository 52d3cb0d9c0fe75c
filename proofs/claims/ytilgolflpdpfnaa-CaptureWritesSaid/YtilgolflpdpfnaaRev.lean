
/- slices.Reverse of bytes, by contract. Conditions: none but bounds. -/
import Derived.Test.YtilgolflpdpfnaaOct
import Derived.Test.YtilgolflpdpfnaaJF
namespace Go.Proofs.Ytilgolflpdpfnaa
open Go.RowKit
def revP (l : List Nat) (k : Nat) : List Nat := (List.range l.length).map fun i => if i < k ∨ l.length ≤ i + k then nth l (l.length - 1 - i) else nth l i
theorem revP_len (l : List Nat) (k : Nat) : (revP l k).length = l.length := by simp [revP]
theorem revP_get {l : List Nat} {k i : Nat} (h : i < l.length) : (revP l k)[i]? = some (if i < k ∨ l.length ≤ i + k then nth l (l.length - 1 - i) else nth l i) := by
  unfold revP
  rw [List.getElem?_map, List.getElem?_range h]
  rfl
theorem revP_zero (l : List Nat) : revP l 0 = l := by
  apply List.ext_getElem? 
  intro i
  by_cases h : i < l.length
  · rw [revP_get h, if_neg (by omega), nth_get h]
  · rw [List.getElem?_eq_none (by rw [revP_len]; omega), List.getElem?_eq_none (by omega)]
theorem revP_all {l : List Nat} {k : Nat} (hk : l.length ≤ 2 * k + 1) : revP l k = l.reverse := by
  apply List.ext_getElem? 
  intro i
  by_cases h : i < l.length
  · rw [revP_get h, List.getElem?_reverse h, nth_get (by omega)]
    split
    · rfl
    · rw [show l.length - 1 - i = i by omega]
  · rw [List.getElem?_eq_none (by rw [revP_len]; omega), List.getElem?_eq_none (by simp; omega)]
theorem revP_step {l : List Nat} {k : Nat} (hk : 2 * k + 1 < l.length) : ((revP l k).set k (nth l (l.length - 1 - k))).set (l.length - 1 - k) (nth l k) = revP l (k + 1) := by
  apply List.ext_getElem? 
  intro i
  by_cases h : i < l.length
  · rw [revP_get h, List.getElem?_set, List.getElem?_set]
    simp only [List.length_set, revP_len]
    by_cases h1 : l.length - 1 - k = i
    · rw [if_pos h1, if_pos (by omega), if_pos (by omega), show l.length - 1 - i = k by omega]
    · rw [if_neg h1]
      by_cases h2 : k = i
      · rw [if_pos h2, if_pos (by omega), if_pos (by omega), h2]
      · rw [if_neg h2, revP_get h]
        by_cases h3 : i < k ∨ l.length ≤ i + k
        · rw [if_pos h3, if_pos (by omega)]
        · rw [if_neg h3, if_neg (by omega)]
  · rw [List.getElem?_eq_none (by simp [revP_len]; omega), List.getElem?_eq_none (by rw [revP_len]; omega)]
theorem rowg_some {w : World} {A : Option Addr} {e : TypeId} {sz m c : Nat} {xs : List Value} (h : w.ownsRow 0 e sz (.slice A m c) m xs) (hn : 0 < m) : ∃ g, A = some ⟨g, 0, none⟩ := row_some h hn
set_option maxRecDepth 100000 in
set_option maxHeartbeats 4000000 in
theorem reverse_c (A : Option Addr) (n c : Nat) (l : List Nat) (F : List Nat) (w0 : World) (hS : St F w0 [.row (.slice A n c) 5 1 n (l.map u8v)] w0) (hl : l.length = n) (hn4 : n ≤ 1000000) :
    Calls Try.prog 147 #[.slice A n c] w0 fun e w' => e = .returned (.tuple #[]) ∧ St F w0 [.row (.slice A n c) 5 1 n (l.reverse.map u8v)] w' := by
  refine ent (n := 28) Try.func147 rfl rfl ?_
  refine wp_seq_k ?_; intro K1 hK1
  refine wlit ?_
  refine wl_v (x_move (tmS rfl rfl)) ?_
  refine wl_v (x_len Try.underlying22 (tmS rfl rfl)) ?_
  first
   | refine wl_v (x_subN (tmI rfl rfl) (ev_cN 1) (fit_i64 (by omega)) (by omega)) ?_
   | refine wl_v (x_subI (tmI rfl rfl) (ev_cN 1) (IntWalk.i64_in _ (by omega))) ?_
   | refine wl_v (x_sub (tmI rfl rfl) (ev_cN 1)) ?_
  refine wl_v (x_assign (ev_cN 0)) ?_
  refine wl_v (x_assign (tmI rfl rfl)) ?_
  refine wl_nil ?_
  refine then_n (hK1 _ _ ?_); clear hK1 K1
  refine wp_block ?_
  refine lp [2, 3, 7, 8, 9, 10, 11, 12, 13, 14, 15, 16, 17, 18, 19, 20, 21, 22, 23, 24, 25, 26, 27] (fun mz g w => ∃ (k : Nat), mz = n - k ∧ g 2 = .int .i64 (k : Int) ∧ g 3 = .int .i64 ((n : Int) - 1 - (k : Int)) ∧ St F w0 [.row (.slice A n c) 5 1 n ((revP l k).map u8v)] w ∧ (2 * k ≤ n)) ?_ ?_
  · exact ⟨_, 0, rfl, (by first | rfl | go_num | exact congrArg (Value.int _) (by first | omega | (simp; done) | (simp; omega))), (by first | rfl | go_num | exact congrArg (Value.int _) (by first | omega | (simp; done) | (simp; omega))), (by rw [revP_zero]; exact hS), (by omega)⟩
  · clear hS; intro mz g w hI
    obtain ⟨k, rfl, hs2, hs3, hS, hk⟩ := hI
    refine fr_know (d := 2) hs2 ?_; clear hs2
    refine fr_know (d := 3) hs3 ?_; clear hs3
    refine wp_seq_k ?_; intro K2 hK2
    refine wp_seq_k ?_; intro K3 hK3
    refine wlit ?_
    refine wl_v (x_move (tmI rfl rfl)) ?_
    refine wl_v (x_move (tmI rfl rfl)) ?_
    refine wl_v (x_lss (tmI rfl rfl) (tmI rfl rfl)) ?_
    refine wl_nil ?_
    refine then_n (hK3 _ _ ?_); clear hK3 K3
    refine cnd (tm rfl) (fun hc0 => ?_) (fun hc0 => ?_)
    · try (exfalso; first | with_reducible exact absurd hc0 Bool.false_ne_true | with_reducible exact absurd hc0.symm Bool.false_ne_true | (simp only [nrm] at hc0; omega) | (simp at hc0; done))
      all_goals
       try simp only [nrm] at hc0
       have hlt : 2 * k + 1 < n := by omega
       have hix : (n : Int) - 1 - (k : Int) = ((n - 1 - k : Nat) : Int) := by omega
       obtain ⟨ga, rfl⟩ := row_some (hS.rowOk 0 rfl) (by omega)
       have hrl := revP_len l k
       have hv1 : ((revP l k).map u8v)[n - 1 - k]? = some (u8v (nth l (n - 1 - k))) := by
         rw [List.getElem?_map, revP_get (by omega), if_neg (by omega)]; rfl
       have hv2 : ((revP l k).map u8v)[k]? = some (u8v (nth l k)) := by
         rw [List.getElem?_map, revP_get (by omega), if_neg (by omega)]; rfl
       have hx : (((revP l k).map u8v).set k (u8v (nth l (n - 1 - k)))).set (n - 1 - k) (u8v (nth l k)) = (revP l (k + 1)).map u8v := by
         rw [← revP_step (by omega), hl, List.map_set, List.map_set]
       refine wp_skip ?_
       refine then_n (hK2 _ _ ?_); clear hK2 K2
       refine wp_seq_k ?_; intro K4 hK4
       refine wp_block ?_
       refine rg_startk 1 hS mixed_ ?_
       clear hS; intro w hS
       refine rg_take 0 rfl rfl (by kernel_rfl) (by kernel_rfl) (by kernel_rfl) (want_0) (fun w hok => x_move (tmS rfl rfl)) ?_
       refine rg_take 1 rfl rfl (by kernel_rfl) (by kernel_rfl) (by kernel_rfl) (want_0) (fun w hok => x_move (tmI rfl rfl)) ?_
       refine rg_take 2 rfl rfl (by kernel_rfl) (by kernel_rfl) (by kernel_rfl) (want_0) (fun w hok => x_move (tmS rfl rfl)) ?_
       refine rg_take 3 rfl rfl (by kernel_rfl) (by kernel_rfl) (by kernel_rfl) (want_0) (fun w hok => x_move (tmI rfl rfl)) ?_
       refine rg_take 4 rfl rfl (by kernel_rfl) (by kernel_rfl) (by kernel_rfl) (want_0) (fun w hok => x_move (tmS rfl rfl)) ?_
       refine rg_take 5 rfl rfl (by kernel_rfl) (by kernel_rfl) (by kernel_rfl) (want_0) (fun w hok => x_move (tmI rfl rfl)) ?_
       refine rg_take 6 rfl rfl (by kernel_rfl) (by kernel_rfl) (by kernel_rfl) (want_0) (fun w hok => x_ixs1 Try.underlying22 ts_5 (tmS rfl rfl) (tmI rfl (congrArg (Value.int .i64) hix)) (by omega)) ?_
       refine rg_take 8 rfl rfl (by kernel_rfl) (by kernel_rfl) (by kernel_rfl) (want_0) (fun w hok => x_move (tmS rfl rfl)) ?_
       refine rg_take 9 rfl rfl (by kernel_rfl) (by kernel_rfl) (by kernel_rfl) (want_0) (fun w hok => x_move (tmI rfl rfl)) ?_
       refine rg_take 10 rfl rfl (by kernel_rfl) (by kernel_rfl) (by kernel_rfl) (want_0) (fun w hok => x_ixs1 Try.underlying22 ts_5 (tmS rfl rfl) (tmI rfl rfl) (by omega)) ?_
       refine rg_step2 7 11 rfl rfl (by kernel_rfl) (want_0) (want_0) (oks_drop hS 1 rfl) ?_ ?_
       · intro K hK
         first
          | refine ow_v (x_load Try.underlying5 rfl (tmP rfl rfl) (cellR hS.ok 0 rfl hv1)) ?_
         refine hK _ _ ?_; clear hK K
         refine rg_step 11 rfl (by kernel_rfl) (want_0) (oks_drop hS 1 rfl) ?_; intro K hK
         refine ow_v (x_load Try.underlying5 rfl (tmP rfl rfl) (cellR hS.ok 0 rfl hv2)) ?_
         refine hK _ _ ?_; clear hK K
         refine rg_take 12 rfl rfl (by kernel_rfl) (by kernel_rfl) (by kernel_rfl) (want_0) (fun w hok => x_ixs1 Try.underlying22 ts_5 (tmS rfl rfl) (tmI rfl rfl) (by omega)) ?_
         refine rg_step 13 rfl (by kernel_rfl) (want_0) (oks_drop hS 1 rfl) ?_; intro K hK
         first
          | refine ow_store hS 0 rfl ts_5 (tmP rfl rfl) (tmI rfl rfl) rfl rfl ?_
          | refine ow_storeX hS 0 rfl ts_5 (tmP rfl rfl) (tmI rfl rfl) rfl (by simp; omega) ?_
          | refine ow_storeRs hS 0 rfl ts_5 (tmP rfl rfl) (tmI rfl rfl) rfl (by first | omega | (simp; omega)) ?_
          | refine ow_storeR hS 0 rfl ts_5 (tmP rfl rfl) (tmI rfl rfl) rfl (by first | omega | (simp; omega)) ?_
         clear hS; intro w hS
         refine hK _ _ ?_; clear hK K
         refine rg_take 14 rfl rfl (by kernel_rfl) (by kernel_rfl) (by kernel_rfl) (want_0) (fun w hok => x_ixs1 Try.underlying22 ts_5 (tmS rfl rfl) (tmI rfl (congrArg (Value.int .i64) hix)) (by omega)) ?_
         refine rg_step 15 rfl (by kernel_rfl) (want_0) (oks_drop hS 1 rfl) ?_; intro K hK
         first
          | refine ow_store hS 0 rfl ts_5 (tmP rfl rfl) (tmI rfl rfl) rfl rfl ?_
          | refine ow_storeX hS 0 rfl ts_5 (tmP rfl rfl) (tmI rfl rfl) rfl (by simp; omega) ?_
          | refine ow_storeRs hS 0 rfl ts_5 (tmP rfl rfl) (tmI rfl rfl) rfl (by first | omega | (simp; omega)) ?_
          | refine ow_storeR hS 0 rfl ts_5 (tmP rfl rfl) (tmI rfl rfl) rfl (by first | omega | (simp; omega)) ?_
         clear hS; intro w hS
         refine hK _ _ ?_; clear hK K
         refine rg_done (oks_drop hS 1 rfl) (by kernel_rfl) ?_
         refine inb_n ?_
         refine then_n (hK4 _ _ ?_); clear hK4 K4
         refine wlit ?_
         refine wl_v (x_move (tmI rfl rfl)) ?_
         first
          | refine wl_v (x_addN (tmI rfl rfl) (ev_cN 1) (fit_i64 (by omega))) ?_
          | refine wl_v (x_addI (tmI rfl rfl) (ev_cN 1) (IntWalk.i64_in _ (by omega))) ?_
          | refine wl_v (x_add (tmI rfl rfl) (ev_cN 1)) ?_
         refine wl_v (x_move (tmI rfl rfl)) ?_
         first
          | refine wl_v (x_subN (tmI rfl rfl) (ev_cN 1) (fit_i64 (by omega)) (by omega)) ?_
          | refine wl_v (x_subI (tmI rfl rfl) (ev_cN 1) (IntWalk.i64_in _ (by omega))) ?_
          | refine wl_v (x_sub (tmI rfl rfl) (ev_cN 1)) ?_
         refine wl_v (x_assign (tmI rfl rfl)) ?_
         refine wl_v (x_assign (tmI rfl rfl)) ?_
         refine wl_nil ?_
         exact then_n ⟨_, _, rfl, (by show _ < _; omega), (by repeat (first | exact agree_self | exact agree_refl | refine agree_upd rfl ?_ | refine agree_mix rfl ?_)), k + 1, rfl, (by first | rfl | go_num | exact congrArg (Value.int _) (by first | omega | (simp; done) | (simp; omega))), (by first | rfl | go_num | exact congrArg (Value.int _) (by first | omega | (simp; done) | (simp; omega))), (by rw [← hx]; exact hS), (by omega)⟩
       · intro K hK
         first
          | refine ow_v (x_load Try.underlying5 rfl (tmP rfl rfl) (cellR hS.ok 0 rfl hv2)) ?_
         refine hK _ _ ?_; clear hK K
         refine rg_step 7 rfl (by kernel_rfl) (want_0) (oks_drop hS 1 rfl) ?_; intro K hK
         refine ow_v (x_load Try.underlying5 rfl (tmP rfl rfl) (cellR hS.ok 0 rfl hv1)) ?_
         refine hK _ _ ?_; clear hK K
         refine rg_take 12 rfl rfl (by kernel_rfl) (by kernel_rfl) (by kernel_rfl) (want_0) (fun w hok => x_ixs1 Try.underlying22 ts_5 (tmS rfl rfl) (tmI rfl rfl) (by omega)) ?_
         refine rg_step 13 rfl (by kernel_rfl) (want_0) (oks_drop hS 1 rfl) ?_; intro K hK
         first
          | refine ow_store hS 0 rfl ts_5 (tmP rfl rfl) (tmI rfl rfl) rfl rfl ?_
          | refine ow_storeX hS 0 rfl ts_5 (tmP rfl rfl) (tmI rfl rfl) rfl (by simp; omega) ?_
          | refine ow_storeRs hS 0 rfl ts_5 (tmP rfl rfl) (tmI rfl rfl) rfl (by first | omega | (simp; omega)) ?_
          | refine ow_storeR hS 0 rfl ts_5 (tmP rfl rfl) (tmI rfl rfl) rfl (by first | omega | (simp; omega)) ?_
         clear hS; intro w hS
         refine hK _ _ ?_; clear hK K
         refine rg_take 14 rfl rfl (by kernel_rfl) (by kernel_rfl) (by kernel_rfl) (want_0) (fun w hok => x_ixs1 Try.underlying22 ts_5 (tmS rfl rfl) (tmI rfl (congrArg (Value.int .i64) hix)) (by omega)) ?_
         refine rg_step 15 rfl (by kernel_rfl) (want_0) (oks_drop hS 1 rfl) ?_; intro K hK
         first
          | refine ow_store hS 0 rfl ts_5 (tmP rfl rfl) (tmI rfl rfl) rfl rfl ?_
          | refine ow_storeX hS 0 rfl ts_5 (tmP rfl rfl) (tmI rfl rfl) rfl (by simp; omega) ?_
          | refine ow_storeRs hS 0 rfl ts_5 (tmP rfl rfl) (tmI rfl rfl) rfl (by first | omega | (simp; omega)) ?_
          | refine ow_storeR hS 0 rfl ts_5 (tmP rfl rfl) (tmI rfl rfl) rfl (by first | omega | (simp; omega)) ?_
         clear hS; intro w hS
         refine hK _ _ ?_; clear hK K
         refine rg_done (oks_drop hS 1 rfl) (by kernel_rfl) ?_
         refine inb_n ?_
         refine then_n (hK4 _ _ ?_); clear hK4 K4
         refine wlit ?_
         refine wl_v (x_move (tmI rfl rfl)) ?_
         first
          | refine wl_v (x_addN (tmI rfl rfl) (ev_cN 1) (fit_i64 (by omega))) ?_
          | refine wl_v (x_addI (tmI rfl rfl) (ev_cN 1) (IntWalk.i64_in _ (by omega))) ?_
          | refine wl_v (x_add (tmI rfl rfl) (ev_cN 1)) ?_
         refine wl_v (x_move (tmI rfl rfl)) ?_
         first
          | refine wl_v (x_subN (tmI rfl rfl) (ev_cN 1) (fit_i64 (by omega)) (by omega)) ?_
          | refine wl_v (x_subI (tmI rfl rfl) (ev_cN 1) (IntWalk.i64_in _ (by omega))) ?_
          | refine wl_v (x_sub (tmI rfl rfl) (ev_cN 1)) ?_
         refine wl_v (x_assign (tmI rfl rfl)) ?_
         refine wl_v (x_assign (tmI rfl rfl)) ?_
         refine wl_nil ?_
         exact then_n ⟨_, _, rfl, (by show _ < _; omega), (by repeat (first | exact agree_self | exact agree_refl | refine agree_upd rfl ?_ | refine agree_mix rfl ?_)), k + 1, rfl, (by first | rfl | go_num | exact congrArg (Value.int _) (by first | omega | (simp; done) | (simp; omega))), (by first | rfl | go_num | exact congrArg (Value.int _) (by first | omega | (simp; done) | (simp; omega))), (by rw [← hx]; exact hS), (by omega)⟩
    try (exfalso; first | with_reducible exact absurd hc0 Bool.false_ne_true | with_reducible exact absurd hc0.symm Bool.false_ne_true | (simp only [nrm] at hc0; omega) | (simp at hc0; done))
    all_goals
     try simp only [nrm] at hc0
     refine wp_exit ?_
     refine then_x ?_; clear hK2 K2
     refine then_x ?_
     refine inb_x ?_
     refine end_n ?_
     refine ret0 rfl ?_
     rw [revP_all (by omega)] at hS
     exact ⟨rfl, hS⟩
end Go.Proofs.Ytilgolflpdpfnaa
