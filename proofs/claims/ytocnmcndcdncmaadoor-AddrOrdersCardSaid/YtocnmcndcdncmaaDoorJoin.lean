
/- The reference's Bytes and Join, by contract. Conditions: none but bounds. -/
import Derived.Test.YtocnmcndcdncmaaDoorOct
namespace Go.Proofs.YtocnmcndcdncmaaDoor
open Go.RowKit

set_option maxRecDepth 100000 in
set_option maxHeartbeats 4000000 in
theorem rbytes_c (N sz : Nat) (w0 : World) (hN : N ≤ 18446744073709551615) (hz : sz ≤ 8) :
    Calls Tryd.prog 21 #[.int .u64 (N : Int), .int .i64 (sz : Int)] w0 fun e w' => ∃ g, e = .returned (.slice (some ⟨g, 0, none⟩) sz sz) ∧ New w0 w' (.row (.slice (some ⟨g, 0, none⟩) sz sz) 5 1 sz ((be N sz).map u8v)) ∧ Kp [] w0 w' := by
  have hS := St.sv w0
  refine ent (n := 28) Tryd.func21 rfl rfl ?_
  refine wp_seq_k ?_; intro K1 hK1
  refine wlit ?_
  refine wl_v (x_assign ev_c) ?_
  refine wl_nil ?_
  refine then_n (hK1 _ _ ?_); clear hK1 K1
  refine wp_seq_k ?_; intro K2 hK2
  refine wp_seq_k ?_; intro K3 hK3
  refine wlit ?_
  refine wl_v (x_move (tmI rfl rfl)) ?_
  refine wl_v (x_lss (tmI rfl rfl) (ev_cN 0)) ?_
  refine wl_nil ?_
  refine then_n (hK3 _ _ ?_); clear hK3 K3
  refine cnd (tm rfl) (fun hc0 => ?_) (fun hc0 => ?_)
  · exfalso
    simp at hc0
    omega
  try (exfalso; first | with_reducible exact absurd hc0 Bool.false_ne_true | with_reducible exact absurd hc0.symm Bool.false_ne_true | (simp only [nrm] at hc0; omega) | (simp at hc0; done))
  all_goals
   try simp only [nrm] at hc0
   refine wp_skip ?_
   refine then_n (hK2 _ _ ?_); clear hK2 K2
   refine wp_seq_k ?_; intro K4 hK4
   refine wp_seq_k ?_; intro K5 hK5
   refine wlit ?_
   refine wl_v (x_move (tmI rfl rfl)) ?_
   refine wl_v (x_gtr (tmI rfl rfl) (ev_cN 8)) ?_
   refine wl_nil ?_
   refine then_n (hK5 _ _ ?_); clear hK5 K5
   refine cnd (tm rfl) (fun hc1 => ?_) (fun hc1 => ?_)
   · exfalso
     simp at hc1
     omega
   try (exfalso; first | with_reducible exact absurd hc1 Bool.false_ne_true | with_reducible exact absurd hc1.symm Bool.false_ne_true | (simp only [nrm] at hc1; omega) | (simp at hc1; done))
   all_goals
    try simp only [nrm] at hc1
    refine wp_skip ?_
    refine then_n (hK4 _ _ ?_); clear hK4 K4
    refine wp_seq_k ?_; intro K6 hK6
    refine wlit ?_
    refine wl_v (x_move (tmI rfl rfl)) ?_
    refine wl_e rfl ?_; intro K hK
    refine ow_make hS Tryd.underlying33 tz_5 rfl (tmI rfl rfl) (tmI rfl rfl) rfl (by omega) (by simp only [maxLen]; omega) ?_
    clear hS; intro g5_1 w hg5_1 hS
    refine hK _ _ ?_; clear hK K
    refine wl_v (x_assign (tmS rfl rfl)) ?_
    refine wl_nil ?_
    refine then_n (hK6 _ _ ?_); clear hK6 K6
    refine wp_seq_k ?_; intro K7 hK7
    refine wp_seq_k ?_; intro K8 hK8
    refine wlit ?_
    refine wl_v (x_move (tmI rfl rfl)) ?_
    first
     | refine wl_v (x_subN (tmI rfl rfl) (ev_cN 1) (fit_i64 (by omega)) (by omega)) ?_
     | refine wl_v (x_subI (tmI rfl rfl) (ev_cN 1) (IntWalk.i64_in _ (by omega))) ?_
     | refine wl_v (x_sub (tmI rfl rfl) (ev_cN 1)) ?_
    refine wl_v (x_assign (tmI rfl rfl)) ?_
    refine wl_nil ?_
    refine then_n (hK8 _ _ ?_); clear hK8 K8
    refine wp_block ?_
    refine lp [0, 6, 15, 16, 17, 18, 19, 20, 21, 22, 23, 24, 25, 26] (fun mz g w => ∃ (k : Nat), mz = sz - k ∧ g 6 = .int .i64 ((sz : Int) - 1 - (k : Int)) ∧ g 0 = .int .u64 ((N / 256 ^ k : Nat) : Int) ∧ St [] w0 [.row (.slice (some ⟨g5_1, 0, none⟩) sz sz) 5 1 sz ((filledDown (be N sz) (sz - k)).map u8v)] w ∧ (k ≤ sz)) ?_ ?_
    · exact ⟨_, 0, rfl, (by first | rfl | go_num | exact congrArg (Value.int _) (by first | omega | (simp; done) | (simp; omega))), (by first | rfl | go_num | exact congrArg (Value.int _) (by first | omega | (simp; done) | (simp; omega))), (by have h := filledDown_all (be N sz); rw [be_length] at h; rw [Nat.sub_zero, h]; simpa [u8v] using hS), (by omega)⟩
    · clear hS; intro mz g w hI
      obtain ⟨k, rfl, hs6, hs0, hS, hk⟩ := hI
      refine fr_know (d := 6) hs6 ?_; clear hs6
      refine fr_know (d := 0) hs0 ?_; clear hs0
      refine wp_seq_k ?_; intro K9 hK9
      refine wp_seq_k ?_; intro K10 hK10
      refine wlit ?_
      refine wl_v (x_move (tmI rfl rfl)) ?_
      refine wl_v (x_geq (tmI rfl rfl) (ev_cN 0)) ?_
      refine wl_nil ?_
      refine then_n (hK10 _ _ ?_); clear hK10 K10
      refine cnd (tm rfl) (fun hc2 => ?_) (fun hc2 => ?_)
      · try (exfalso; first | with_reducible exact absurd hc2 Bool.false_ne_true | with_reducible exact absurd hc2.symm Bool.false_ne_true | (simp only [nrm] at hc2; omega) | (simp at hc2; done))
        all_goals
         try simp only [nrm] at hc2
         have hix : (sz : Int) - 1 - (k : Int) = ((sz - 1 - k : Nat) : Int) := by omega
         have hfl : (filledDown (be N sz) (sz - k)).length = sz := by rw [filledDown_length _ _ (by rw [be_length]; omega), be_length]
         have hx : N / 256 ^ (k + 1) = N / 256 ^ k / 256 := by rw [Nat.div_div_eq_div_mul, Nat.pow_succ]
         have hNk : N / 256 ^ k ≤ N := Nat.div_le_self _ _
         have hm : ((filledDown (be N sz) (sz - k)).map u8v).set (sz - 1 - k) (.int .u8 ((N / 256 ^ k % 256 : Nat) : Int)) = (filledDown (be N sz) (sz - (k + 1))).map u8v := by
           have h1 := filledDown_set (be N sz) (sz - 1 - k) (by rw [be_length]; omega)
           rw [be_nth N sz _ (by omega), show sz - 1 - (sz - 1 - k) = k by omega, show sz - 1 - k + 1 = sz - k by omega] at h1
           rw [show sz - (k + 1) = sz - 1 - k by omega, ← h1, ← map_set_u8v]; rfl
         refine wp_skip ?_
         refine then_n (hK9 _ _ ?_); clear hK9 K9
         refine wp_seq_k ?_; intro K11 hK11
         refine wp_block ?_
         refine wp_seq_k ?_; intro K12 hK12
         refine wlit ?_
         refine wl_v (x_move (tmS rfl rfl)) ?_
         refine wl_v (x_move (tmI rfl rfl)) ?_
         refine wl_v (x_move (tmI rfl rfl)) ?_
         first
          | refine wl_v (x_remN (tmI rfl rfl) (ev_cN 256) (by omega)) ?_
          | refine wl_v (x_rem (tmI rfl rfl) (ev_cN 256) (by omega)) ?_
         first
          | refine wl_v (x_convN Tryd.underlying22 Tryd.underlying5 (tmI rfl rfl) (fit_u8 (by omega))) ?_
          | refine wl_v (x_convU Tryd.underlying22 Tryd.underlying5 (tmI rfl rfl) rfl) ?_
          | refine wl_v (x_conv Tryd.underlying22 Tryd.underlying5 (tmI rfl rfl)) ?_
         refine wl_v (x_ixs1 Tryd.underlying33 ts_5 (tmS rfl rfl) (tmI rfl (congrArg (Value.int .i64) hix)) (by omega)) ?_
         refine wl_e rfl ?_; intro K hK
         first
          | refine ow_store hS 0 rfl ts_5 (tmP rfl rfl) (tmI rfl rfl) rfl rfl ?_
          | refine ow_storeX hS 0 rfl ts_5 (tmP rfl rfl) (tmI rfl rfl) rfl (by simp; omega) ?_
          | refine ow_storeRs hS 0 rfl ts_5 (tmP rfl rfl) (tmI rfl rfl) rfl (by first | omega | (simp; omega)) ?_
          | refine ow_storeR hS 0 rfl ts_5 (tmP rfl rfl) (tmI rfl rfl) rfl (by first | omega | (simp; omega)) ?_
         clear hS; intro w hS
         refine hK _ _ ?_; clear hK K
         refine wl_nil ?_
         refine then_n (hK12 _ _ ?_); clear hK12 K12
         refine wlit ?_
         refine wl_v (x_move (tmI rfl rfl)) ?_
         first
          | refine wl_v (x_quoN (tmI rfl rfl) (ev_cN 256) (by omega) (fit_u64 (by omega))) ?_
          | refine wl_v (x_quo (tmI rfl rfl) (ev_cN 256) (by omega)) ?_
         refine wl_v (x_assign (tmI rfl rfl)) ?_
         refine wl_nil ?_
         refine inb_n ?_
         refine then_n (hK11 _ _ ?_); clear hK11 K11
         refine wlit ?_
         refine wl_v (x_move (tmI rfl rfl)) ?_
         first
          | refine wl_v (x_subN (tmI rfl rfl) (ev_cN 1) (fit_i64 (by omega)) (by omega)) ?_
          | refine wl_v (x_subI (tmI rfl rfl) (ev_cN 1) (IntWalk.i64_in _ (by omega))) ?_
          | refine wl_v (x_sub (tmI rfl rfl) (ev_cN 1)) ?_
         refine wl_v (x_assign (tmI rfl rfl)) ?_
         refine wl_nil ?_
         exact then_n ⟨_, _, rfl, (by show _ < _; omega), (by repeat (first | exact agree_self | exact agree_refl | refine agree_upd rfl ?_ | refine agree_mix rfl ?_)), k + 1, rfl, (by first | rfl | go_num | exact congrArg (Value.int _) (by first | omega | (simp; done) | (simp; omega))), (by first | rfl | (rw [hx]; done) | (rw [hx]; rfl) | (rw [hx]; go_num)), (by rw [← hm]; exact hS), (by omega)⟩
      try (exfalso; first | with_reducible exact absurd hc2 Bool.false_ne_true | with_reducible exact absurd hc2.symm Bool.false_ne_true | (simp only [nrm] at hc2; omega) | (simp at hc2; done))
      all_goals
       try simp only [nrm] at hc2
       refine wp_exit ?_
       refine then_x ?_; clear hK9 K9
       refine then_x ?_
       refine inb_x ?_
       refine then_n (hK7 _ _ ?_); clear hK7 K7
       refine wp_seq_k ?_; intro K13 hK13
       refine wlit ?_
       refine wl_v (x_move (tmS rfl rfl)) ?_
       refine wl_v (x_assign (tmS rfl rfl)) ?_
       refine wl_nil ?_
       refine then_n (hK13 _ _ ?_); clear hK13 K13
       refine wp_ret ?_
       refine ret1 rfl (.tmp rfl (show _ = Value.slice _ _ _ from rfl)) ?_
       obtain rfl : k = sz := by omega
       rw [Nat.sub_self, filledDown_zero] at hS
       exact ⟨_, rfl, hS.new 0 rfl rfl, hS.kp⟩

def rowV (r : Option Addr × List Nat × Nat) : Value := .slice r.1 r.2.1.length r.2.2
def joined (rows : List (Option Addr × List Nat × Nat)) : List Nat := (rows.map fun r => r.2.1).flatten
instance : Inhabited (Option Addr × List Nat × Nat) := ⟨(none, [], 0)⟩
theorem joined_snoc (rows : List (Option Addr × List Nat × Nat)) (k : Nat) (h : k < rows.length) : joined (rows.take (k + 1)) = joined (rows.take k) ++ (rows.getD k default).2.1 := by
  unfold joined
  rw [List.take_succ_eq_append_getElem h, List.map_append, List.flatten_append, List.getD_eq_getElem?_getD, List.getElem?_eq_getElem h]
  simp
theorem joined_le (rows : List (Option Addr × List Nat × Nat)) (k : Nat) : (joined (rows.take k)).length ≤ (joined rows).length := by
  conv => rhs; rw [← List.take_append_drop k rows]
  unfold joined
  rw [List.map_append, List.flatten_append, List.length_append]
  omega
def SeenRows (w : World) (rows : List (Option Addr × List Nat × Nat)) : Prop := ∀ k, k < rows.length → View w w.heap.size (rows.getD k default).1 ((rows.getD k default).2.1.map u8v)
theorem SeenRows.kept {w w' : World} {rows : List (Option Addr × List Nat × Nat)} (h : SeenRows w rows) (hk : Kp [] w w') : SeenRows w' rows := fun k hlt => ((h k hlt).below hk.below).more hk.size
theorem seen_nil {w : World} : SeenRows w [] := fun k hk => by simp at hk
theorem seen_cons {w : World} {A : Option Addr} {l : List Nat} {c : Nat} {rows : List (Option Addr × List Nat × Nat)} (h : View w w.heap.size A (l.map u8v)) (hs : SeenRows w rows) : SeenRows w ((A, l, c) :: rows) := fun k hk => by
  cases k with
  | zero => exact h
  | succ k => exact hs k (by simpa using hk)
set_option maxRecDepth 100000 in
set_option maxHeartbeats 4000000 in
theorem join_c (n : Nat) (A : Option Addr) (c : Nat) (rows : List (Option Addr × List Nat × Nat)) (w0 : World) (hv : View w0 w0.heap.size A (rows.map rowV)) (hr : SeenRows w0 rows) (hl : rows.length = n) (hn4 : n ≤ 1000000) (hj4 : (joined rows).length ≤ 1000000) :
    Calls Tryd.prog 19 #[.slice A n c] w0 fun e w' => ∃ A' m c', m = (joined rows).length ∧ e = .returned (.slice A' m c') ∧ New w0 w' (.row (.slice A' m c') 5 1 m ((joined rows).map u8v)) ∧ Kp [] w0 w' := by
  have hS := (St.sv w0).vcons rfl hv
  refine ent (n := 18) Tryd.func19 rfl rfl ?_
  refine wp_seq_k ?_; intro K1 hK1
  refine wlit ?_
  refine wl_v (x_assign ev_c) ?_
  refine wl_nil ?_
  refine then_n (hK1 _ _ ?_); clear hK1 K1
  refine wp_seq_k ?_; intro K2 hK2
  refine wlit ?_
  refine wl_v (x_assign ev_c) ?_
  refine wl_nil ?_
  refine then_n (hK2 _ _ ?_); clear hK2 K2
  refine wp_seq_k ?_; intro K3 hK3
  refine wp_seq_k ?_; intro K4 hK4
  refine wlit ?_
  refine wl_v (x_assign (ev_cN 0)) ?_
  refine wl_nil ?_
  refine then_n (hK4 _ _ ?_); clear hK4 K4
  refine wp_block ?_
  have hS := hS.nilrow 5 1
  refine lp [3, 4, 5, 6, 7, 8, 9, 10, 11, 12, 13, 14, 15, 16] (fun mz g w => ∃ (k : Nat), ∃ (A' : Option Addr), ∃ (m : Nat), ∃ (c' : Nat), mz = n - k ∧ g 4 = .int .i64 (k : Int) ∧ g 3 = .slice A' m c' ∧ St [] w0 [.row (.slice A' m c') 5 1 m ((joined (rows.take k)).map u8v), .vw A (rows.map rowV)] w ∧ (k ≤ n) ∧ (m = (joined (rows.take k)).length)) ?_ ?_
  · exact ⟨_, 0, none, 0, 0, rfl, (by first | rfl | go_num | exact congrArg (Value.int _) (by first | omega | (simp; done) | (simp; omega))), (by first | rfl | go_num | exact congrArg (Value.int _) (by first | omega | (simp; done) | (simp; omega))), hS, (by omega), (by first | rfl | (rw [hx, List.length_append, ← hm]))⟩
  · clear hS; intro mz g w hI
    obtain ⟨k, A', m, c', rfl, hs4, hs3, hS, hk, hm⟩ := hI
    refine fr_know (d := 4) hs4 ?_; clear hs4
    refine fr_know (d := 3) hs3 ?_; clear hs3
    refine wp_seq_k ?_; intro K5 hK5
    refine wp_seq_k ?_; intro K6 hK6
    refine wlit ?_
    refine wl_v (x_move (tmI rfl rfl)) ?_
    refine wl_v (x_move (tmS rfl rfl)) ?_
    refine wl_v (x_len Tryd.underlying47 (tmS rfl rfl)) ?_
    refine wl_v (x_lss (tmI rfl rfl) (tmI rfl rfl)) ?_
    refine wl_nil ?_
    refine then_n (hK6 _ _ ?_); clear hK6 K6
    refine cnd (tm rfl) (fun hc0 => ?_) (fun hc0 => ?_)
    · try (exfalso; first | with_reducible exact absurd hc0 Bool.false_ne_true | with_reducible exact absurd hc0.symm Bool.false_ne_true | (simp only [nrm] at hc0; omega) | (simp at hc0; done))
      all_goals
       try simp only [nrm] at hc0
       obtain ⟨b4, o4, rfl⟩ := view_some hv (by rw [List.length_map]; omega)
       have hvk := hr.kept hS.kp k (by omega)
       have hx := joined_snoc rows k (by omega)
       have hle := joined_le rows (k + 1)
       rw [hx, List.length_append, ← hm] at hle
       have hrow : (rows.map rowV)[0 + k]? = some (.slice (rows.getD k default).1 (rows.getD k default).2.1.length (rows.getD k default).2.2) := by
         rw [Nat.zero_add, List.getElem?_map, List.getD_eq_getElem?_getD, List.getElem?_eq_getElem (by omega)]; rfl
       generalize rows.getD k default = r at *
       refine wp_skip ?_
       refine then_n (hK5 _ _ ?_); clear hK5 K5
       refine wp_seq_k ?_; intro K7 hK7
       refine wp_block ?_
       refine wlit ?_
       refine wl_v (x_move (tmS rfl rfl)) ?_
       refine wl_v (x_move (tmS rfl rfl)) ?_
       refine wl_v (x_move (tmI rfl rfl)) ?_
       refine wl_v (x_ixs1 Tryd.underlying47 ts_33 (tmS rfl rfl) (tmI rfl rfl) (by omega)) ?_
       refine wl_v (x_load Tryd.underlying33 rfl (tmP rfl rfl) (cellV hS.ok 1 rfl (by rw [← hrow, Nat.zero_add]))) ?_
       refine wl_e rfl ?_; intro K hK
       refine ow_appendV hS 0 rfl hvk Tryd.underlying33 tz_5 rfl (tmS rfl rfl) (tmS rfl rfl) (u8v_one _) ⟨by decide, by simp⟩ (by simp only [maxLen]; omega) (by omega) ?_
       clear hS; intro g5_5 cg5_5 w hA hC hS
       refine hK _ _ ?_; clear hK K
       refine wl_v (x_assign (tmS rfl rfl)) ?_
       refine wl_nil ?_
       refine inb_n ?_
       refine then_n (hK7 _ _ ?_); clear hK7 K7
       refine wlit ?_
       refine wl_v (x_move (tmI rfl rfl)) ?_
       first
        | refine wl_v (x_addN (tmI rfl rfl) (ev_cN 1) (fit_i64 (by omega))) ?_
        | refine wl_v (x_addI (tmI rfl rfl) (ev_cN 1) (IntWalk.i64_in _ (by omega))) ?_
        | refine wl_v (x_add (tmI rfl rfl) (ev_cN 1)) ?_
       refine wl_v (x_assign (tmI rfl rfl)) ?_
       refine wl_nil ?_
       exact then_n ⟨_, _, rfl, (by show _ < _; omega), (by repeat (first | exact agree_self | exact agree_refl | refine agree_upd rfl ?_ | refine agree_mix rfl ?_)), k + 1, _, _, _, rfl, (by first | rfl | go_num | exact congrArg (Value.int _) (by first | omega | (simp; done) | (simp; omega))), (by first | rfl | go_num | exact congrArg (Value.int _) (by first | omega | (simp; done) | (simp; omega))), (by rw [hx, List.map_append]; exact hS), (by omega), (by first | rfl | (rw [hx, List.length_append, ← hm]))⟩
    try (exfalso; first | with_reducible exact absurd hc0 Bool.false_ne_true | with_reducible exact absurd hc0.symm Bool.false_ne_true | (simp only [nrm] at hc0; omega) | (simp at hc0; done))
    all_goals
     try simp only [nrm] at hc0
     refine wp_exit ?_
     refine then_x ?_; clear hK5 K5
     refine then_x ?_
     refine inb_x ?_
     refine then_n (hK3 _ _ ?_); clear hK3 K3
     refine wp_seq_k ?_; intro K8 hK8
     refine wlit ?_
     refine wl_v (x_move (tmS rfl rfl)) ?_
     refine wl_v (x_assign (tmS rfl rfl)) ?_
     refine wl_nil ?_
     refine then_n (hK8 _ _ ?_); clear hK8 K8
     refine wp_ret ?_
     refine ret1 rfl (.tmp rfl (show _ = Value.slice _ _ _ from rfl)) ?_
     obtain rfl : k = n := by omega
     rw [List.take_of_length_le (by omega)] at hS hm
     exact ⟨_, _, _, hm, rfl, hS.new 0 rfl rfl, hS.kp⟩
end Go.Proofs.YtocnmcndcdncmaaDoor
