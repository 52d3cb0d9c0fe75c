
/- octet's Put and the reference's Bytes; bytes.Clone, by contract. Conditions: none but bounds. -/
import Derived.Test.YtocnmcndcdncmaaDoorNum
import Derived.Test.YtocnmcndcdncmaaDoorTy
namespace Go.Proofs.YtocnmcndcdncmaaDoor
open Go.RowKit

set_option maxRecDepth 100000 in
set_option maxHeartbeats 4000000 in
theorem put_c (n : Nat) (A : Option Addr) (c : Nat) (l : List Nat) (N sz : Nat) (w0 : World) (hv : View w0 w0.heap.size A (l.map u8v)) (hl : l.length = n) (hn4 : n ≤ 1000000) (hN : N ≤ 18446744073709551615) (hz : sz ≤ 8) :
    Calls Tryd.prog 18 #[.slice A n c, .int .u64 (N : Int), .int .i64 (sz : Int)] w0 fun e w' => ∃ g, e = .returned (.slice (some ⟨g, 0, none⟩) (n + sz) (n + sz)) ∧ New w0 w' (.row (.slice (some ⟨g, 0, none⟩) (n + sz) (n + sz)) 5 1 (n + sz) ((l ++ be N sz).map u8v)) ∧ Kp [] w0 w' := by
  have hS := (St.sv w0).vcons rfl hv
  have hm1 : max sz 0 = sz := by omega
  have hm2 : min sz 8 = sz := by omega
  refine ent (n := 40) Tryd.func18 rfl rfl ?_
  refine wp_seq_k ?_; intro K1 hK1
  refine wlit ?_
  refine wl_v (x_assign ev_c) ?_
  refine wl_nil ?_
  refine then_n (hK1 _ _ ?_); clear hK1 K1
  refine wp_seq_k ?_; intro K2 hK2
  refine wlit ?_
  refine wl_v (x_move (tmI rfl rfl)) ?_
  refine wl_v (x_max (n := 0) (tmI rfl rfl) (ev_cN 0)) ?_
  refine wl_v (x_min (n := 8) (tmI rfl (congrArg (fun q : Nat => Value.int .i64 (q : Int)) hm1)) (ev_cN 8)) ?_
  refine wl_v (x_assign (tmI rfl (congrArg (fun q : Nat => Value.int .i64 (q : Int)) hm2))) ?_
  refine wl_nil ?_
  refine then_n (hK2 _ _ ?_); clear hK2 K2
  refine wp_seq_k ?_; intro K3 hK3
  refine wlit ?_
  refine wl_v (x_move (tmS rfl rfl)) ?_
  refine wl_v (x_len Tryd.underlying33 (tmS rfl rfl)) ?_
  refine wl_v (x_move (tmI rfl rfl)) ?_
  first
   | refine wl_v (x_addN (tmI rfl rfl) (tmI rfl rfl) (fit_i64 (by omega))) ?_
   | refine wl_v (x_addI (tmI rfl rfl) (tmI rfl rfl) (IntWalk.i64_in _ (by omega))) ?_
   | refine wl_v (x_add (tmI rfl rfl) (tmI rfl rfl)) ?_
  refine wl_e rfl ?_; intro K hK
  refine ow_make hS Tryd.underlying33 tz_5 rfl (tmI rfl rfl) (tmI rfl rfl) rfl (by omega) (by simp only [maxLen]; omega) ?_
  clear hS; intro g2_4 w hg2_4 hS
  refine hK _ _ ?_; clear hK K
  refine wl_v (x_assign (tmS rfl rfl)) ?_
  refine wl_nil ?_
  refine then_n (hK3 _ _ ?_); clear hK3 K3
  refine wp_seq_k ?_; intro K4 hK4
  refine wlit ?_
  refine wl_v (x_move (tmS rfl rfl)) ?_
  refine wl_v (x_move (tmS rfl rfl)) ?_
  refine wl_e rfl ?_; intro K hK
  first
   | refine ow_copyR (o := 0) hS 0 rfl Tryd.underlying33 ts_5 (tmS rfl rfl) (tmS rfl rfl) (viewR hS.ok 0 rfl) (by first | rfl | (simp; done) | (simp; omega) | omega) (fun _ => by first | rfl | assumption | (simp only [Nat.add_zero]; rfl)) (by first | (simp; done) | (simp; omega) | omega) (u8v_one _) ?_
   | refine ow_copyR (o := 0) hS 0 rfl Tryd.underlying33 ts_5 (tmS rfl rfl) (tmS rfl rfl) (viewV hS.ok 1 rfl) (by first | rfl | (simp; done) | (simp; omega) | omega) (fun _ => by first | rfl | assumption | (simp only [Nat.add_zero]; rfl)) (by first | (simp; done) | (simp; omega) | omega) (u8v_one _) ?_
   | refine ow_copyR (o := 0) hS 0 rfl Tryd.underlying33 ts_5 (tmS rfl rfl) (tmS rfl rfl) View.nil_ (by first | rfl | (simp; done) | (simp; omega) | omega) (fun _ => by first | rfl | assumption | (simp only [Nat.add_zero]; rfl)) (by first | (simp; done) | (simp; omega) | omega) (u8v_one _) ?_
  clear hS; intro w hS
  refine hK _ _ ?_; clear hK K
  refine wl_nil ?_
  rw [← hl, splice_fill l (be N sz) sz (be_length _ _).symm] at hS
  refine then_n (hK4 _ _ ?_); clear hK4 K4
  refine wp_seq_k ?_; intro K5 hK5
  refine wp_seq_k ?_; intro K6 hK6
  refine wlit ?_
  refine wl_v (x_move (tmI rfl rfl)) ?_
  refine wl_v (x_move (ev_cN 0)) ?_
  refine wl_nil ?_
  refine then_n (hK6 _ _ ?_); clear hK6 K6
  refine wp_block ?_
  refine lp [8, 21, 22, 23, 24, 25, 26, 27, 28, 29, 30, 31, 32, 33, 34, 35, 36, 37, 38] (fun mz g w => ∃ (k : Nat), mz = sz - k ∧ g 21 = .int .i64 (k : Int) ∧ St [] w0 [.row (.slice (some ⟨g2_4, 0, none⟩) (n + sz) (n + sz)) 5 1 (n + sz) ((filled l (be N sz) k).map u8v), .vw A (l.map u8v)] w ∧ (k ≤ sz)) ?_ ?_
  · exact ⟨_, 0, rfl, (by first | rfl | go_num | exact congrArg (Value.int _) (by first | omega | (simp; done) | (simp; omega))), (by rw [hl] at hS; exact hS), (by omega)⟩
  · clear hS; intro mz g w hI
    obtain ⟨k, rfl, hs21, hS, hk⟩ := hI
    refine fr_know (d := 21) hs21 ?_; clear hs21
    refine wp_seq_k ?_; intro K7 hK7
    refine wlit ?_
    refine wl_v (x_lss (tmI rfl rfl) (tmI rfl rfl)) ?_
    refine wl_nil ?_
    refine then_n (hK7 _ _ ?_); clear hK7 K7
    refine wp_seq_k ?_; intro K8 hK8
    refine cnd (tm rfl) (fun hc0 => ?_) (fun hc0 => ?_)
    · try (exfalso; first | with_reducible exact absurd hc0 Bool.false_ne_true | with_reducible exact absurd hc0.symm Bool.false_ne_true | (simp only [nrm] at hc0; omega) | (simp at hc0; done))
      all_goals
       try simp only [nrm] at hc0
       have hfl : (filled l (be N sz) k).length = n + sz := by rw [filled_length l (be N sz) k (by rw [be_length]; omega), be_length, hl]
       refine wp_skip ?_
       refine then_n (hK8 _ _ ?_); clear hK8 K8
       refine wp_seq_k ?_; intro K9 hK9
       refine wp_block ?_
       refine wp_seq_k ?_; intro K10 hK10
       refine wlit ?_
       refine wl_v (x_move (tmI rfl rfl)) ?_
       refine wl_v (x_assign (tmI rfl rfl)) ?_
       refine wl_nil ?_
       refine then_n (hK10 _ _ ?_); clear hK10 K10
       refine wlit ?_
       refine wl_v (x_move (tmS rfl rfl)) ?_
       refine wl_v (x_move (tmS rfl rfl)) ?_
       refine wl_v (x_len Tryd.underlying33 (tmS rfl rfl)) ?_
       refine wl_v (x_move (tmI rfl rfl)) ?_
       first
        | refine wl_v (x_addN (tmI rfl rfl) (tmI rfl rfl) (fit_i64 (by omega))) ?_
        | refine wl_v (x_addI (tmI rfl rfl) (tmI rfl rfl) (IntWalk.i64_in _ (by omega))) ?_
        | refine wl_v (x_add (tmI rfl rfl) (tmI rfl rfl)) ?_
       refine wl_v (x_move (tmI rfl rfl)) ?_
       refine wl_v (x_move (tmI rfl rfl)) ?_
       first
        | refine wl_v (x_subN (tmI rfl rfl) (ev_cN 1) (fit_i64 (by omega)) (by omega)) ?_
        | refine wl_v (x_subI (tmI rfl rfl) (ev_cN 1) (IntWalk.i64_in _ (by omega))) ?_
        | refine wl_v (x_sub (tmI rfl rfl) (ev_cN 1)) ?_
       refine wl_v (x_move (tmI rfl rfl)) ?_
       first
        | refine wl_v (x_subN (tmI rfl rfl) (tmI rfl rfl) (fit_i64 (by omega)) (by omega)) ?_
        | refine wl_v (x_subI (tmI rfl rfl) (tmI rfl rfl) (IntWalk.i64_in _ (by omega))) ?_
        | refine wl_v (x_sub (tmI rfl rfl) (tmI rfl rfl)) ?_
       first
        | refine wl_v (x_mulN (ev_cN 8) (tmI rfl rfl) (fit_i64 (by omega))) ?_
        | refine wl_v (x_mulI (ev_cN 8) (tmI rfl rfl) (IntWalk.i64_in _ (by omega))) ?_
        | refine wl_v (x_mul (ev_cN 8) (tmI rfl rfl)) ?_
       refine wl_v (x_shrN (tmI rfl rfl) (tmI rfl rfl) (fit_u64 (by omega))) ?_
       first
        | refine wl_v (x_convN Tryd.underlying22 Tryd.underlying5 (tmI rfl rfl) (fit_u8 (by omega))) ?_
        | refine wl_v (x_convU Tryd.underlying22 Tryd.underlying5 (tmI rfl rfl) rfl) ?_
        | refine wl_v (x_conv Tryd.underlying22 Tryd.underlying5 (tmI rfl rfl)) ?_
       refine wl_v (x_ixs1 Tryd.underlying33 ts_5 (tmS rfl rfl) (tmI rfl rfl) (by omega)) ?_
       refine wl_e rfl ?_; intro K hK
       first
        | refine ow_store hS 0 rfl ts_5 (tmP rfl rfl) (tmI rfl rfl) rfl rfl ?_
        | refine ow_storeX hS 0 rfl ts_5 (tmP rfl rfl) (tmI rfl rfl) rfl (by simp; omega) ?_
        | refine ow_storeRs hS 0 rfl ts_5 (tmP rfl rfl) (tmI rfl rfl) rfl (by first | omega | (simp; omega)) ?_
        | refine ow_storeR hS 0 rfl ts_5 (tmP rfl rfl) (tmI rfl rfl) rfl (by first | omega | (simp; omega)) ?_
       clear hS; intro w hS
       refine hK _ _ ?_; clear hK K
       refine wl_nil ?_
       refine inb_n ?_
       refine then_n (hK9 _ _ ?_); clear hK9 K9
       refine wlit ?_
       first
        | refine wl_v (x_addN (tmI rfl rfl) (ev_cN 1) (fit_i64 (by omega))) ?_
        | refine wl_v (x_addI (tmI rfl rfl) (ev_cN 1) (IntWalk.i64_in _ (by omega))) ?_
        | refine wl_v (x_add (tmI rfl rfl) (ev_cN 1)) ?_
       refine wl_v (x_move (tmI rfl rfl)) ?_
       refine wl_nil ?_
       have hx : ((filled l (be N sz) k).map u8v).set (n + k) (.int .u8 ((N / 2 ^ (8 * (sz - 1 - k)) % 2 ^ 8 : Nat) : Int)) = (filled l (be N sz) (k + 1)).map u8v := by rw [pow256, ← hl, ← filled_set l (be N sz) k (by rw [be_length]; omega), be_nth N sz k (by omega), ← map_set_u8v]; rfl
       exact then_n ⟨_, _, rfl, (by show _ < _; omega), (by repeat (first | exact agree_self | exact agree_refl | refine agree_upd rfl ?_ | refine agree_mix rfl ?_)), k + 1, rfl, (by first | rfl | go_num | exact congrArg (Value.int _) (by first | omega | (simp; done) | (simp; omega))), (by rw [← hx]; exact hS), (by omega)⟩
    try (exfalso; first | with_reducible exact absurd hc0 Bool.false_ne_true | with_reducible exact absurd hc0.symm Bool.false_ne_true | (simp only [nrm] at hc0; omega) | (simp at hc0; done))
    all_goals
     try simp only [nrm] at hc0
     refine wp_exit ?_
     refine then_x ?_; clear hK8 K8
     refine then_x ?_
     refine inb_x ?_
     refine then_n (hK5 _ _ ?_); clear hK5 K5
     refine wp_seq_k ?_; intro K11 hK11
     refine wlit ?_
     refine wl_v (x_move (tmS rfl rfl)) ?_
     refine wl_v (x_assign (tmS rfl rfl)) ?_
     refine wl_nil ?_
     refine then_n (hK11 _ _ ?_); clear hK11 K11
     refine wp_ret ?_
     refine ret1 rfl (.tmp rfl (show _ = Value.slice _ _ _ from rfl)) ?_
     obtain rfl : sz = k := by omega
     have hf := filled_all l (be N sz)
     rw [be_length] at hf
     rw [hf] at hS
     exact ⟨_, rfl, hS.new 0 rfl rfl, hS.kp⟩

end Go.Proofs.YtocnmcndcdncmaaDoor
