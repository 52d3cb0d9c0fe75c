
/- octet's Reader, and the reference's Num and Get, by contract. Conditions: none but bounds. -/
import Derived.Test.YtocnmcndcdncmaaDoorOct
namespace Go.Proofs.YtocnmcndcdncmaaDoor
open Go.RowKit

def rdV (A : Option Addr) (n c : Nat) (bad : Bool) : List Value := [.slice A n c, .bool bad]
theorem or_low {x y : Nat} (h : y < 256) : x * 2 ^ 8 ||| y = x * 256 + y := by
  have := Nat.shiftLeft_add_eq_or_of_lt (i := 8) (b := y) (by omega) x
  rw [Nat.shiftLeft_eq] at this
  rw [← this]

set_option maxRecDepth 100000 in
set_option maxHeartbeats 4000000 in
theorem read_c (n : Nat) (A : Option Addr) (c : Nat) (l : List Nat) (w0 : World) (hv : View w0 w0.heap.size A (l.map u8v)) (hl : l.length = n) (hn4 : n ≤ 1000000) :
    Calls Tryd.prog 25 #[.slice A n c] w0 fun e w' => ∃ g A', e = .returned (.pointer (some ⟨g, 0, none⟩)) ∧ St [] w0 [.blk g 67 (rdV A' n n false), .row (.slice A' n n) 5 1 n (l.map u8v)] w' := by
  have hS := (St.sv w0).vcons rfl hv
  refine ent (n := 13) Tryd.func25 rfl rfl ?_
  refine wp_seq_k ?_; intro K1 hK1
  refine wlit ?_
  refine wl_v (x_assign ev_c) ?_
  refine wl_nil ?_
  refine then_n (hK1 _ _ ?_); clear hK1 K1
  refine wp_seq_k ?_; intro K2 hK2
  refine wlit ?_
  refine wl_v (x_move (tmS rfl rfl)) ?_
  refine wl_v (x_len Tryd.underlying33 (tmS rfl rfl)) ?_
  refine wl_e rfl ?_; intro K hK
  refine ow_make hS Tryd.underlying33 tz_5 rfl (tmI rfl rfl) (tmI rfl rfl) rfl (by omega) (by simp only [maxLen]; omega) ?_
  clear hS; intro g1_2 w hg1_2 hS
  refine hK _ _ ?_; clear hK K
  refine wl_v (x_assign (tmS rfl rfl)) ?_
  refine wl_nil ?_
  refine then_n (hK2 _ _ ?_); clear hK2 K2
  refine wp_seq_k ?_; intro K3 hK3
  refine wlit ?_
  refine wl_v (x_move (tmS rfl rfl)) ?_
  refine wl_v (x_move (tmS rfl rfl)) ?_
  refine wl_e rfl ?_; intro K hK
  first
   | refine ow_copyR (o := 0) hS 0 rfl Tryd.underlying33 ts_5 (tmS rfl rfl) (tmS rfl rfl) (viewR hS.ok 0 rfl) (by first | rfl | (simp; done) | (simp; omega) | omega) (fun _ => by first | rfl | assumption | (simp only [Nat.add_zero]; rfl)) (by first | (simp; done) | (simp; omega) | omega) (u8v_one _) ?_
   | refine ow_copyR (o := 0) hS 0 rfl Tryd.underlying33 ts_5 (tmS rfl rfl) (tmS rfl rfl) (viewV hS.ok 1 rfl) (by first | rfl | (simp; done) | (simp; omega) | omega) (fun _ => by first | rfl | assumption | (simp only [Nat.add_zero]; rfl)) (by first | (simp; done) | (simp; omega) | omega) (u8v_one _) ?_
   | refine ow_copyR (o := 0) hS 0 rfl Tryd.underlying33 ts_5 (tmS rfl rfl) (tmS rfl rfl) View.nil_ (by first | rfl | (simp; done) | (simp; omega) | omega) (fun _ => by first | rfl | assumption | (simp only [Nat.add_zero]; rfl)) (by first | (simp; done) | (simp; omega) | omega) (u8v_one _) ?_
  clear hS; intro w hS
  refine hK _ _ ?_; clear hK K
  refine wl_nil ?_
  rw [show List.replicate n (Value.int .u8 0) = List.replicate (l.length + 0) (Value.int .u8 0) by rw [hl]; rfl, splice_fill l [] 0 rfl, filled_zero, List.length_nil, List.replicate_zero, List.append_nil] at hS
  refine then_n (hK3 _ _ ?_); clear hK3 K3
  refine wp_seq_k ?_; intro K4 hK4
  refine wlit ?_
  refine wl_v (x_move (tmS rfl rfl)) ?_
  refine wl_v (x_build (bc_take (tmS rfl rfl) <| bc_skip (.bool false) <| bc_nil) (by kernel_rfl)) ?_
  refine wl_e rfl ?_; intro K hK
  refine ow_box hS (tmA rfl rfl) rfl ?_
  clear hS; intro g3_2 w hg3_2 hS
  refine hK _ _ ?_; clear hK K
  refine wl_v (x_assign (tmP rfl rfl)) ?_
  refine wl_nil ?_
  refine then_n (hK4 _ _ ?_); clear hK4 K4
  refine wp_ret ?_
  refine ret1 rfl (.tmp rfl (show _ = Value.pointer _ from rfl)) ?_
  exact ⟨_, _, rfl, hS.pick [0, 1] rfl rfl⟩

set_option maxRecDepth 100000 in
set_option maxHeartbeats 4000000 in
theorem take_c (gr : Nat) (A0 A : Option Addr) (p k n c : Nat) (l : List Nat) (bad : Bool) (F : List Nat) (w0 : World)
    (hS : St F w0 [.blk gr 67 (rdV A (n - p) c bad), .vw A0 (l.map u8v)] w0) (hA : Off A0 p n A) (hp : p + k ≤ n) (hc : n - p ≤ c) :
    Calls Tryd.prog 36 #[.pointer (some ⟨gr, 0, none⟩), .int .i64 (k : Int)] w0 fun e w' => ∃ A' c', e = .returned (.slice A k k) ∧
      St F w0 [.blk gr 67 (rdV A' (n - (p + k)) c' bad)] w' ∧ Off A0 (p + k) n A' ∧ n - (p + k) ≤ c' := by
  refine ent (n := 42) Tryd.func36 rfl rfl ?_
  refine wp_seq_k ?_; intro K1 hK1
  refine wlit ?_
  refine wl_v (x_assign ev_c) ?_
  refine wl_nil ?_
  refine then_n (hK1 _ _ ?_); clear hK1 K1
  refine wp_seq_k ?_; intro K2 hK2
  refine wp_seq_k ?_; intro K3 hK3
  refine wlit ?_
  refine wl_v (x_move (tmP rfl rfl)) ?_
  first
   | refine wl_v (x_peql Tryd.underlying52 (tmP rfl rfl) ev_c) ?_
   | refine wl_v (x_peqln Tryd.underlying52 (tmP rfl rfl) ev_c) ?_
  refine wl_nil ?_
  refine then_n (hK3 _ _ ?_); clear hK3 K3
  refine cnd (tm rfl) (fun hc0 => ?_) (fun hc0 => ?_)
  · exfalso
    simp at hc0
  try (exfalso; first | with_reducible exact absurd hc0 Bool.false_ne_true | with_reducible exact absurd hc0.symm Bool.false_ne_true | (simp only [nrm] at hc0; omega) | (simp at hc0; done))
  all_goals
   try simp only [nrm] at hc0
   refine wp_skip ?_
   refine then_n (hK2 _ _ ?_); clear hK2 K2
   refine wp_seq_k ?_; intro K4 hK4
   refine wp_seq_k ?_; intro K5 hK5
   refine wlit ?_
   refine wl_v (x_move (tmI rfl rfl)) ?_
   refine wl_v (x_lss (tmI rfl rfl) (ev_cN 0)) ?_
   refine wl_v (x_move (tmB rfl rfl)) ?_
   refine gs_wl (tm (t := 10) rfl) (fun hg3_2 => ?_) (fun hg3_2 => ?_)
   · have hg3_2' := hg3_2; (try simp only [nrm] at hg3_2'); try (exfalso; first | with_reducible exact absurd hg3_2 Bool.false_ne_true | with_reducible exact absurd hg3_2.symm Bool.false_ne_true | omega | (simp at hg3_2; done))
     all_goals
      refine wl_s rfl (want_n rfl rfl rfl rfl (by rw [hg3_2]; rfl)) ?_
      refine wl_s rfl (want_n rfl rfl rfl rfl (by rw [hg3_2]; rfl)) ?_
      refine wl_s rfl (want_n rfl rfl rfl rfl (by rw [hg3_2]; rfl)) ?_
      refine wl_s rfl (want_n rfl rfl rfl rfl (by rw [hg3_2]; rfl)) ?_
      refine wl_s rfl (want_n rfl rfl rfl rfl (by rw [hg3_2]; rfl)) ?_
      refine wl_s rfl (want_n rfl rfl rfl rfl (by rw [hg3_2]; rfl)) ?_
      refine wl_s rfl (want_n rfl rfl rfl rfl (by rw [hg3_2]; rfl)) ?_
      refine wl_v (x_pickT (tmB rfl rfl) hg3_2 ev_c) ?_
      refine wl_nil ?_
      refine then_n (hK5 _ _ ?_); clear hK5 K5
      refine cnd_t (tmB rfl rfl) rfl ?_
      refine wp_seq_k ?_; intro K6 hK6
      refine wlit ?_
      refine wl_v (x_move (tmP rfl rfl)) ?_
      refine wl_v (x_move (tmP rfl rfl)) ?_
      refine wl_v (x_nil (A := none) (tmP rfl rfl)) ?_
      refine wl_v (x_fa 0 Tryd.underlying67 rfl rfl ts_33 (tmP rfl rfl)) ?_
      refine wl_e rfl ?_; intro K hK
      first
       | refine ow_store hS 0 rfl ts_33 (tmP rfl rfl) ev_c rfl rfl ?_
       | refine ow_storeX hS 0 rfl ts_33 (tmP rfl rfl) ev_c rfl (by simp; omega) ?_
       | refine ow_storeRs hS 0 rfl ts_33 (tmP rfl rfl) ev_c rfl (by first | omega | (simp; omega)) ?_
       | refine ow_storeR hS 0 rfl ts_33 (tmP rfl rfl) ev_c rfl (by first | omega | (simp; omega)) ?_
       | refine ow_store hS 1 rfl ts_33 (tmP rfl rfl) ev_c rfl rfl ?_
       | refine ow_storeX hS 1 rfl ts_33 (tmP rfl rfl) ev_c rfl (by simp; omega) ?_
       | refine ow_storeRs hS 1 rfl ts_33 (tmP rfl rfl) ev_c rfl (by first | omega | (simp; omega)) ?_
       | refine ow_storeR hS 1 rfl ts_33 (tmP rfl rfl) ev_c rfl (by first | omega | (simp; omega)) ?_
      clear hS; intro w hS
      refine hK _ _ ?_; clear hK K
      refine wl_v (x_nil (A := none) (tmP rfl rfl)) ?_
      refine wl_v (x_fa 1 Tryd.underlying67 rfl rfl ts_4 (tmP rfl rfl)) ?_
      refine wl_e rfl ?_; intro K hK
      first
       | refine ow_store hS 0 rfl ts_4 (tmP rfl rfl) ev_c rfl rfl ?_
       | refine ow_storeX hS 0 rfl ts_4 (tmP rfl rfl) ev_c rfl (by simp; omega) ?_
       | refine ow_storeRs hS 0 rfl ts_4 (tmP rfl rfl) ev_c rfl (by first | omega | (simp; omega)) ?_
       | refine ow_storeR hS 0 rfl ts_4 (tmP rfl rfl) ev_c rfl (by first | omega | (simp; omega)) ?_
       | refine ow_store hS 1 rfl ts_4 (tmP rfl rfl) ev_c rfl rfl ?_
       | refine ow_storeX hS 1 rfl ts_4 (tmP rfl rfl) ev_c rfl (by simp; omega) ?_
       | refine ow_storeRs hS 1 rfl ts_4 (tmP rfl rfl) ev_c rfl (by first | omega | (simp; omega)) ?_
       | refine ow_storeR hS 1 rfl ts_4 (tmP rfl rfl) ev_c rfl (by first | omega | (simp; omega)) ?_
      clear hS; intro w hS
      refine hK _ _ ?_; clear hK K
      refine wl_nil ?_
      refine then_n (hK6 _ _ ?_); clear hK6 K6
      refine wp_seq_k ?_; intro K7 hK7
      refine wlit ?_
      refine wl_v (x_assign ev_c) ?_
      refine wl_nil ?_
      refine then_n (hK7 _ _ ?_); clear hK7 K7
      refine wp_ret ?_
      refine then_r ?_
      refine ret1 rfl (.tmp rfl (show _ = Value.slice _ _ _ from rfl)) ?_
      refine ⟨cutA A k c 1, c - k, rfl, ?_, off_cut hA hc, by omega⟩
      rw [← Nat.sub_sub]
      exact hS.pick [0] rfl rfl
   have hg3_2' := hg3_2; (try simp only [nrm] at hg3_2'); try (exfalso; first | with_reducible exact absurd hg3_2 Bool.false_ne_true | with_reducible exact absurd hg3_2.symm Bool.false_ne_true | omega | (simp at hg3_2; done))
   all_goals
    refine wl_gv (want_y rfl rfl rfl rfl (by rw [hg3_2]; rfl)) (x_move (tmI rfl rfl)) ?_
    refine wl_gv (want_y rfl rfl rfl rfl (by rw [hg3_2]; rfl)) (x_move (tmP rfl rfl)) ?_
    refine wl_gv (want_y rfl rfl rfl rfl (by rw [hg3_2]; rfl)) (x_nil (A := none) (tmP rfl rfl)) ?_
    refine wl_gv (want_y rfl rfl rfl rfl (by rw [hg3_2]; rfl)) (x_fa 0 Tryd.underlying67 rfl rfl ts_33 (tmP rfl rfl)) ?_
    first
     | refine wl_gv (want_y rfl rfl rfl rfl (by rw [hg3_2]; rfl)) (x_load Tryd.underlying33 rfl (tmP rfl rfl) (cellB hS.ok 0 rfl rfl)) ?_
     | refine wl_gv (want_y rfl rfl rfl rfl (by rw [hg3_2]; rfl)) (x_load Tryd.underlying33 rfl (tmP rfl rfl) (cellV hS.ok 1 rfl rfl)) ?_
     | refine wl_gv (want_y rfl rfl rfl rfl (by rw [hg3_2]; rfl)) (x_load Tryd.underlying33 rfl (tmP rfl rfl) (cellV hS.ok 1 rfl (getm (by omega)))) ?_
     | refine wl_gv (want_y rfl rfl rfl rfl (by rw [hg3_2]; rfl)) (x_load Tryd.underlying33 rfl (tmP rfl rfl) (cellVs hS.ok 1 rfl (fun _ => rfl) rfl (by omega) rfl)) ?_
    refine wl_gv (want_y rfl rfl rfl rfl (by rw [hg3_2]; rfl)) (x_len Tryd.underlying33 (tmS rfl rfl)) ?_
    refine wl_gv (want_y rfl rfl rfl rfl (by rw [hg3_2]; rfl)) (x_gtr (tmI rfl rfl) (tmI rfl rfl)) ?_
    refine wl_v (x_pickF (tmB rfl rfl) hg3_2 (tmB rfl rfl)) ?_
    refine wl_nil ?_
    refine then_n (hK5 _ _ ?_); clear hK5 K5
    refine cnd (tm rfl) (fun hc1 => ?_) (fun hc1 => ?_)
    · exfalso
      simp at hc1
      omega
    try (exfalso; first | with_reducible exact absurd hc1 Bool.false_ne_true | with_reducible exact absurd hc1.symm Bool.false_ne_true | (simp only [nrm] at hc1; omega) | (simp at hc1; done))
    all_goals
     try simp only [nrm] at hc1
     refine wp_skip ?_
     refine then_n (hK4 _ _ ?_); clear hK4 K4
     refine wp_seq_k ?_; intro K8 hK8
     refine wlit ?_
     refine wl_v (x_move (tmP rfl rfl)) ?_
     refine wl_v (x_nil (A := none) (tmP rfl rfl)) ?_
     refine wl_v (x_fa 0 Tryd.underlying67 rfl rfl ts_33 (tmP rfl rfl)) ?_
     first
      | refine wl_v (x_load Tryd.underlying33 rfl (tmP rfl rfl) (cellB hS.ok 0 rfl rfl)) ?_
      | refine wl_v (x_load Tryd.underlying33 rfl (tmP rfl rfl) (cellV hS.ok 1 rfl rfl)) ?_
      | refine wl_v (x_load Tryd.underlying33 rfl (tmP rfl rfl) (cellV hS.ok 1 rfl (getm (by omega)))) ?_
      | refine wl_v (x_load Tryd.underlying33 rfl (tmP rfl rfl) (cellVs hS.ok 1 rfl (fun _ => rfl) rfl (by omega) rfl)) ?_
     refine wl_v (x_move (tmI rfl rfl)) ?_
     refine wl_v (x_move (tmI rfl rfl)) ?_
     refine wl_v (x_sliceHM Tryd.underlying33 ts_5 (tmS rfl rfl) (tmI rfl rfl) (tmI rfl rfl) (by omega)) ?_
     refine wl_v (x_assign (tmS rfl rfl)) ?_
     refine wl_nil ?_
     refine then_n (hK8 _ _ ?_); clear hK8 K8
     refine wp_seq_k ?_; intro K9 hK9
     refine wlit ?_
     refine wl_v (x_move (tmP rfl rfl)) ?_
     refine wl_v (x_move (tmP rfl rfl)) ?_
     refine wl_v (x_nil (A := none) (tmP rfl rfl)) ?_
     refine wl_v (x_fa 0 Tryd.underlying67 rfl rfl ts_33 (tmP rfl rfl)) ?_
     first
      | refine wl_v (x_load Tryd.underlying33 rfl (tmP rfl rfl) (cellB hS.ok 0 rfl rfl)) ?_
      | refine wl_v (x_load Tryd.underlying33 rfl (tmP rfl rfl) (cellV hS.ok 1 rfl rfl)) ?_
      | refine wl_v (x_load Tryd.underlying33 rfl (tmP rfl rfl) (cellV hS.ok 1 rfl (getm (by omega)))) ?_
      | refine wl_v (x_load Tryd.underlying33 rfl (tmP rfl rfl) (cellVs hS.ok 1 rfl (fun _ => rfl) rfl (by omega) rfl)) ?_
     refine wl_v (x_move (tmI rfl rfl)) ?_
     refine wl_v (x_sliceL Tryd.underlying33 ts_5 (tmS rfl rfl) (tmI rfl rfl) (by omega)) ?_
     refine wl_v (x_nil (A := none) (tmP rfl rfl)) ?_
     refine wl_v (x_fa 0 Tryd.underlying67 rfl rfl ts_33 (tmP rfl rfl)) ?_
     refine wl_e rfl ?_; intro K hK
     first
      | refine ow_store hS 0 rfl ts_33 (tmP rfl rfl) (tmS rfl rfl) rfl rfl ?_
      | refine ow_storeX hS 0 rfl ts_33 (tmP rfl rfl) (tmS rfl rfl) rfl (by simp; omega) ?_
      | refine ow_storeRs hS 0 rfl ts_33 (tmP rfl rfl) (tmS rfl rfl) rfl (by first | omega | (simp; omega)) ?_
      | refine ow_storeR hS 0 rfl ts_33 (tmP rfl rfl) (tmS rfl rfl) rfl (by first | omega | (simp; omega)) ?_
      | refine ow_store hS 1 rfl ts_33 (tmP rfl rfl) (tmS rfl rfl) rfl rfl ?_
      | refine ow_storeX hS 1 rfl ts_33 (tmP rfl rfl) (tmS rfl rfl) rfl (by simp; omega) ?_
      | refine ow_storeRs hS 1 rfl ts_33 (tmP rfl rfl) (tmS rfl rfl) rfl (by first | omega | (simp; omega)) ?_
      | refine ow_storeR hS 1 rfl ts_33 (tmP rfl rfl) (tmS rfl rfl) rfl (by first | omega | (simp; omega)) ?_
     clear hS; intro w hS
     refine hK _ _ ?_; clear hK K
     refine wl_nil ?_
     refine then_n (hK9 _ _ ?_); clear hK9 K9
     refine wp_seq_k ?_; intro K10 hK10
     refine wlit ?_
     refine wl_v (x_move (tmS rfl rfl)) ?_
     refine wl_v (x_assign (tmS rfl rfl)) ?_
     refine wl_nil ?_
     refine then_n (hK10 _ _ ?_); clear hK10 K10
     refine wp_ret ?_
     refine ret1 rfl (.tmp rfl (show _ = Value.slice _ _ _ from rfl)) ?_
     refine ⟨cutA A k c 1, c - k, rfl, ?_, off_cut hA hc, by omega⟩
     rw [← Nat.sub_sub]
     exact hS.pick [0] rfl rfl

set_option maxRecDepth 100000 in
set_option maxHeartbeats 4000000 in
theorem num_c (gr : Nat) (A0 A : Option Addr) (p k n c : Nat) (l : List Nat) (bad : Bool) (F : List Nat) (w0 : World)
    (hS : St F w0 [.blk gr 67 (rdV A (n - p) c bad), .vw A0 (l.map u8v)] w0) (hA : Off A0 p n A) (hp : p + k ≤ n) (hc : n - p ≤ c) (hl : l.length = n) (hb : Bytes l) (h8 : k ≤ 8) :
    Calls Tryd.prog 28 #[.pointer (some ⟨gr, 0, none⟩), .int .i64 (k : Int)] w0 fun e w' => ∃ A' c', e = .returned (.int .u64 ((numBE ((l.drop p).take k) : Nat) : Int)) ∧
      St F w0 [.blk gr 67 (rdV A' (n - (p + k)) c' bad)] w' ∧ Off A0 (p + k) n A' ∧ n - (p + k) ≤ c' := by
  have hlk : ((l.drop p).take k).length = k := by rw [List.length_take, List.length_drop]; omega
  have hbk : Bytes ((l.drop p).take k) := (hb.drop p).take k
  refine ent (n := 25) Tryd.func28 rfl rfl ?_
  refine wp_seq_k ?_; intro K1 hK1
  refine wlit ?_
  refine wl_v (x_assign (ev_cN 0)) ?_
  refine wl_nil ?_
  refine then_n (hK1 _ _ ?_); clear hK1 K1
  refine wp_seq_k ?_; intro K2 hK2
  refine wp_seq_k ?_; intro K3 hK3
  refine wlit ?_
  refine wl_v (x_move (tmI rfl rfl)) ?_
  refine wl_v (x_gtr (tmI rfl rfl) (ev_cN 8)) ?_
  refine wl_nil ?_
  refine then_n (hK3 _ _ ?_); clear hK3 K3
  refine cnd (tm rfl) (fun hc0 => ?_) (fun hc0 => ?_)
  · exfalso
    simp at hc0
    omega
  try (exfalso; first | with_reducible exact absurd hc0 Bool.false_ne_true | with_reducible exact absurd hc0.symm Bool.false_ne_true | (simp only [nrm] at hc0; omega) | (simp at hc0; done))
  all_goals
   try simp only [nrm] at hc0
   refine wp_skip ?_
   refine then_n (hK2 _ _ ?_); clear hK2 K2
   refine wp_seq_k ?_; intro K4 hK4
   refine wlit ?_
   refine wl_v (x_assign (ev_cN 0)) ?_
   refine wl_nil ?_
   refine then_n (hK4 _ _ ?_); clear hK4 K4
   refine wp_seq_k ?_; intro K5 hK5
   refine wp_seq_k ?_; intro K6 hK6
   refine wlit ?_
   refine wl_v (x_move (tmP rfl rfl)) ?_
   refine wl_v (x_move (tmI rfl rfl)) ?_
   refine wl_e rfl ?_; intro K hK
   refine ow_call Tryd.func36 rfl rfl (evs_cons (tmP rfl rfl) <| evs_cons (tmI rfl rfl) <| evs_nil) (take_c gr A0 A p k n c l bad _ _ (hS.enter [0] [1] rfl rfl) hA hp hc) ?_
   rintro e w ⟨A', c', rfl, hS2, hA2, hc2⟩
   refine ⟨_, rfl, ?_⟩
   replace hS := hS.leave [0] [1] rfl rfl rfl hS2 rfl
   clear hS2
   replace hS := hS.offb 1 k rfl hl hA -- +1
   try replace hS := St.nm (M' := [_, _, .vw _ _]) hS rfl
   refine hK _ _ ?_; clear hK K
   refine wl_v (x_len Tryd.underlying33 (tmS rfl rfl)) ?_
   refine wl_v (x_move (ev_cN 0)) ?_
   refine wl_nil ?_
   refine then_n (hK6 _ _ ?_); clear hK6 K6
   refine wp_block ?_
   refine lp [5, 7, 14, 15, 16, 17, 18, 19, 20, 21, 22, 23] (fun mz g w => ∃ (j : Nat), mz = k - j ∧ g 14 = .int .i64 (j : Int) ∧ g 5 = .int .u64 ((numBE (((l.drop p).take k).take j) : Nat) : Int) ∧ St F w0 [.vw A (((l.drop p).take k).map u8v), .blk gr 67 (rdV A' (n - (p + k)) c' bad), .vw A0 (l.map u8v)] w ∧ (j ≤ k)) ?_ ?_
   · exact ⟨_, 0, rfl, (by first | rfl | go_num | exact congrArg (Value.int _) (by first | omega | (simp; done) | (simp; omega))), (by first | rfl | go_num | exact congrArg (Value.int _) (by first | omega | (simp; done) | (simp; omega))), hS, (by omega)⟩
   · clear hS; intro mz g w hI
     obtain ⟨j, rfl, hs14, hs5, hS, hj⟩ := hI
     refine fr_know (d := 14) hs14 ?_; clear hs14
     refine fr_know (d := 5) hs5 ?_; clear hs5
     refine wp_seq_k ?_; intro K7 hK7
     refine wlit ?_
     refine wl_v (x_lss (tmI rfl rfl) (tmI rfl rfl)) ?_
     refine wl_nil ?_
     refine then_n (hK7 _ _ ?_); clear hK7 K7
     refine wp_seq_k ?_; intro K8 hK8
     refine cnd (tm rfl) (fun hc1 => ?_) (fun hc1 => ?_)
     · try (exfalso; first | with_reducible exact absurd hc1 Bool.false_ne_true | with_reducible exact absurd hc1.symm Bool.false_ne_true | (simp only [nrm] at hc1; omega) | (simp at hc1; done))
       all_goals
        try simp only [nrm] at hc1
        obtain ⟨b4, o4, rfl⟩ := view_some (viewV hS.ok 0 rfl) (by rw [List.length_map]; omega)
        have hbj := nth_lt hbk j
        have hbj' : ((l.drop p).take k).getD j 0 < 256 := hbj
        have hnl := numBE_lt hbk j (by omega)
        have hnl2 : numBE (((l.drop p).take k).take j) < 256 ^ 7 := Nat.lt_of_lt_of_le hnl (Nat.pow_le_pow_right (by omega) (by omega))
        have hx : numBE (((l.drop p).take k).take (j + 1)) = numBE (((l.drop p).take k).take j) * 2 ^ 8 ||| ((l.drop p).take k).getD j 0 := by
          rw [numBE_snoc _ j (by omega), or_low hbj']; rfl
        generalize hq : numBE (((l.drop p).take k).take j) = q at *
        refine wp_skip ?_
        refine then_n (hK8 _ _ ?_); clear hK8 K8
        refine wp_seq_k ?_; intro K9 hK9
        refine wp_block ?_
        refine wp_seq_k ?_; intro K10 hK10
        refine wlit ?_
        refine wl_v (x_ixs1 Tryd.underlying33 ts_5 (tmS rfl rfl) (tmI rfl rfl) (by omega)) ?_
        first
         | refine wl_v (x_load Tryd.underlying5 rfl (tmP rfl rfl) (cellB hS.ok 1 rfl rfl)) ?_
         | refine wl_v (x_load Tryd.underlying5 rfl (tmP rfl rfl) (cellV hS.ok 0 rfl rfl)) ?_
         | refine wl_v (x_load Tryd.underlying5 rfl (tmP rfl rfl) (cellV hS.ok 0 rfl (getm (by omega)))) ?_
         | refine wl_v (x_load Tryd.underlying5 rfl (tmP rfl rfl) (cellVs hS.ok 0 rfl (fun _ => rfl) rfl (by omega) rfl)) ?_
         | refine wl_v (x_load Tryd.underlying5 rfl (tmP rfl rfl) (cellV hS.ok 2 rfl rfl)) ?_
         | refine wl_v (x_load Tryd.underlying5 rfl (tmP rfl rfl) (cellV hS.ok 2 rfl (getm (by omega)))) ?_
         | refine wl_v (x_load Tryd.underlying5 rfl (tmP rfl rfl) (cellVs hS.ok 2 rfl (fun _ => rfl) rfl (by omega) rfl)) ?_
        refine wl_v (x_assign (tmI rfl rfl)) ?_
        refine wl_nil ?_
        refine then_n (hK10 _ _ ?_); clear hK10 K10
        refine wlit ?_
        refine wl_v (x_move (tmI rfl rfl)) ?_
        first
         | refine wl_v (x_shlN (tmI rfl rfl) (ev_cN 8) (by decide) (fit_u64 (by omega))) ?_
         | refine wl_v (x_shlN (tmI rfl rfl) (ev_cN 8) (by have : IntKind.bits .u64 = 64 := rfl; omega) (fit_u64 (by omega))) ?_
         | refine wl_v (x_shlU (tmI rfl rfl) (ev_cN 8) rfl) ?_
        refine wl_v (x_move (tmI rfl rfl)) ?_
        first
         | refine wl_v (x_convN Tryd.underlying5 Tryd.underlying22 (tmI rfl rfl) (fit_u64 (by omega))) ?_
         | refine wl_v (x_convU Tryd.underlying5 Tryd.underlying22 (tmI rfl rfl) rfl) ?_
         | refine wl_v (x_conv Tryd.underlying5 Tryd.underlying22 (tmI rfl rfl)) ?_
        refine wl_v (x_orN (tmI rfl rfl) (tmI rfl rfl) (fit_u64 (by omega)) (fit_u64 (by omega))) ?_
        refine wl_v (x_assign (tmI rfl rfl)) ?_
        refine wl_nil ?_
        refine inb_n ?_
        refine then_n (hK9 _ _ ?_); clear hK9 K9
        refine wlit ?_
        first
         | refine wl_v (x_addN (tmI rfl rfl) (ev_cN 1) (fit_i64 (by omega))) ?_
         | refine wl_v (x_addI (tmI rfl rfl) (ev_cN 1) (IntWalk.i64_in _ (by omega))) ?_
         | refine wl_v (x_add (tmI rfl rfl) (ev_cN 1)) ?_
        refine wl_v (x_move (tmI rfl rfl)) ?_
        refine wl_nil ?_
        exact then_n ⟨_, _, rfl, (by show _ < _; omega), (by repeat (first | exact agree_self | exact agree_refl | refine agree_upd rfl ?_ | refine agree_mix rfl ?_)), j + 1, rfl, (by first | rfl | go_num | exact congrArg (Value.int _) (by first | omega | (simp; done) | (simp; omega))), (by first | rfl | (rw [hx]; done) | (rw [hx]; rfl) | (rw [hx]; go_num)), hS, (by omega)⟩
     try (exfalso; first | with_reducible exact absurd hc1 Bool.false_ne_true | with_reducible exact absurd hc1.symm Bool.false_ne_true | (simp only [nrm] at hc1; omega) | (simp at hc1; done))
     all_goals
      try simp only [nrm] at hc1
      refine wp_exit ?_
      refine then_x ?_; clear hK8 K8
      refine then_x ?_
      refine inb_x ?_
      refine then_n (hK5 _ _ ?_); clear hK5 K5
      refine wp_seq_k ?_; intro K11 hK11
      refine wlit ?_
      refine wl_v (x_move (tmI rfl rfl)) ?_
      refine wl_v (x_assign (tmI rfl rfl)) ?_
      refine wl_nil ?_
      refine then_n (hK11 _ _ ?_); clear hK11 K11
      refine wp_ret ?_
      refine ret1 rfl (.tmp rfl (show _ = Value.int _ _ from rfl)) ?_
      obtain rfl : k = j := by omega
      rw [List.take_take, Nat.min_self]
      exact ⟨A', c', rfl, hS.pick [1] rfl rfl, hA2, hc2⟩
def getN (l : List Nat) (p k : Nat) : Nat := numBE ((l.drop p).take k)
theorem getN_lt {l : List Nat} (hb : Bytes l) (p k : Nat) : getN l p k < 256 ^ k := by
  have h := numBE_lt' ((hb.drop p).take k)
  have h2 : ((l.drop p).take k).length ≤ k := by rw [List.length_take]; omega
  exact Nat.lt_of_lt_of_le h (Nat.pow_le_pow_right (by omega) h2)
theorem getN_one {l : List Nat} {p : Nat} (h : p < l.length) : getN l p 1 = nth l p := by
  unfold getN
  rw [List.drop_eq_getElem_cons h, List.take_succ_cons, List.take_zero, nth_eq h]
  simp [numBE]

set_option maxRecDepth 100000 in
set_option maxHeartbeats 4000000 in
theorem byte_c (gr : Nat) (A0 A : Option Addr) (p n c : Nat) (l : List Nat) (bad : Bool) (F : List Nat) (w0 : World)
    (hS : St F w0 [.blk gr 67 (rdV A (n - p) c bad), .vw A0 (l.map u8v)] w0) (hA : Off A0 p n A) (hp : p + 1 ≤ n) (hc : n - p ≤ c) (hl : l.length = n) (hb : Bytes l) :
    Calls Tryd.prog 30 #[.pointer (some ⟨gr, 0, none⟩)] w0 fun e w' => ∃ A' c', e = .returned (.int .u8 ((getN l p 1 : Nat) : Int)) ∧
      St F w0 [.blk gr 67 (rdV A' (n - (p + 1)) c' bad)] w' ∧ Off A0 (p + 1) n A' ∧ n - (p + 1) ≤ c' := by
  have hbd : numBE ((l.drop p).take 1) < 256 ^ 1 := getN_lt hb p 1
  refine ent (n := 6) Tryd.func30 rfl rfl ?_
  refine wp_seq_k ?_; intro K1 hK1
  refine wlit ?_
  refine wl_v (x_assign (ev_cN 0)) ?_
  refine wl_nil ?_
  refine then_n (hK1 _ _ ?_); clear hK1 K1
  refine wp_seq_k ?_; intro K2 hK2
  refine wlit ?_
  refine wl_v (x_move (tmP rfl rfl)) ?_
  refine wl_e rfl ?_; intro K hK
  refine ow_call Tryd.func28 rfl rfl (evs_cons (tmP rfl rfl) <| evs_cons (ev_cN 1) <| evs_nil) (num_c gr A0 A p 1 n c l bad _ _ (hS.enter [0] [1] rfl rfl) hA hp hc hl hb (by omega)) ?_
  rintro e w ⟨A', c', rfl, hS2, hA2, hc2⟩
  refine ⟨_, rfl, ?_⟩
  replace hS := hS.leave [0] [1] rfl rfl rfl hS2 rfl
  clear hS2
  try replace hS := St.nm (M' := [_, .vw _ _]) hS rfl
  refine hK _ _ ?_; clear hK K
  first
   | refine wl_v (x_convN Tryd.underlying22 Tryd.underlying5 (tmI rfl rfl) (fit_u8 (by omega))) ?_
   | refine wl_v (x_convU Tryd.underlying22 Tryd.underlying5 (tmI rfl rfl) rfl) ?_
   | refine wl_v (x_conv Tryd.underlying22 Tryd.underlying5 (tmI rfl rfl)) ?_
  refine wl_v (x_assign (tmI rfl rfl)) ?_
  refine wl_nil ?_
  refine then_n (hK2 _ _ ?_); clear hK2 K2
  refine wp_ret ?_
  refine ret1 rfl (.tmp rfl (show _ = Value.int _ _ from rfl)) ?_
  exact ⟨A', c', rfl, hS.pick [0] rfl rfl, hA2, hc2⟩
set_option maxRecDepth 100000 in
set_option maxHeartbeats 4000000 in
theorem left_c (gr : Nat) (A : Option Addr) (n c : Nat) (bad : Bool) (w0 : World) (hv : View w0 w0.heap.size (some ⟨gr, 0, none⟩) (rdV A n c bad)) :
    Calls Tryd.prog 26 #[.pointer (some ⟨gr, 0, none⟩)] w0 fun e w' => e = .returned (.int .i64 (n : Int)) ∧ Kp [] w0 w' := by
  have hS := (St.sv w0).vcons rfl hv
  refine ent (n := 10) Tryd.func26 rfl rfl ?_
  refine wp_seq_k ?_; intro K1 hK1
  refine wlit ?_
  refine wl_v (x_assign (ev_cN 0)) ?_
  refine wl_nil ?_
  refine then_n (hK1 _ _ ?_); clear hK1 K1
  refine wp_seq_k ?_; intro K2 hK2
  refine wp_seq_k ?_; intro K3 hK3
  refine wlit ?_
  refine wl_v (x_move (tmP rfl rfl)) ?_
  first
   | refine wl_v (x_peql Tryd.underlying52 (tmP rfl rfl) ev_c) ?_
   | refine wl_v (x_peqln Tryd.underlying52 (tmP rfl rfl) ev_c) ?_
  refine wl_nil ?_
  refine then_n (hK3 _ _ ?_); clear hK3 K3
  refine cnd (tm rfl) (fun hc0 => ?_) (fun hc0 => ?_)
  · exfalso
    simp at hc0
  try (exfalso; first | with_reducible exact absurd hc0 Bool.false_ne_true | with_reducible exact absurd hc0.symm Bool.false_ne_true | (simp only [nrm] at hc0; omega) | (simp at hc0; done))
  all_goals
   try simp only [nrm] at hc0
   refine wp_skip ?_
   refine then_n (hK2 _ _ ?_); clear hK2 K2
   refine wp_seq_k ?_; intro K4 hK4
   refine wlit ?_
   refine wl_v (x_move (tmP rfl rfl)) ?_
   refine wl_v (x_nil (A := none) (tmP rfl rfl)) ?_
   refine wl_v (x_fa 0 Tryd.underlying67 rfl rfl ts_33 (tmP rfl rfl)) ?_
   first
    | refine wl_v (x_load Tryd.underlying33 rfl (tmP rfl rfl) (cellV hS.ok 0 rfl rfl)) ?_
    | refine wl_v (x_load Tryd.underlying33 rfl (tmP rfl rfl) (cellV hS.ok 0 rfl (getm (by omega)))) ?_
    | refine wl_v (x_load Tryd.underlying33 rfl (tmP rfl rfl) (cellVs hS.ok 0 rfl (fun _ => rfl) rfl (by omega) rfl)) ?_
   refine wl_v (x_len Tryd.underlying33 (tmS rfl rfl)) ?_
   refine wl_v (x_assign (tmI rfl rfl)) ?_
   refine wl_nil ?_
   refine then_n (hK4 _ _ ?_); clear hK4 K4
   refine wp_ret ?_
   refine ret1 rfl (.tmp rfl (show _ = Value.int _ _ from rfl)) ?_
   exact ⟨rfl, hS.kp⟩

theorem getN_at {l P Q : List Nat} {v s k : Nat} (h : l = P ++ (be v s ++ Q)) (hk : P.length = k) : getN l k s = v % 256 ^ s := by
  subst hk; subst h
  unfold getN
  rw [List.drop_left, List.take_append_of_le_length (by rw [be_length]; omega), List.take_of_length_le (by rw [be_length]; omega), numBE_be]
theorem part_at {l P Q o : List Nat} {k m : Nat} (h : l = P ++ (o ++ Q)) (hk : P.length = k) (hm : o.length = m) : (l.drop k).take m = o := by
  subst hk; subst hm; subst h
  rw [List.drop_left, List.take_left]
theorem tail_at {l P o : List Nat} {k : Nat} (h : l = P ++ o) (hk : P.length = k) : l.drop k = o := by
  subst hk; subst h
  rw [List.drop_left]
end Go.Proofs.YtocnmcndcdncmaaDoor
