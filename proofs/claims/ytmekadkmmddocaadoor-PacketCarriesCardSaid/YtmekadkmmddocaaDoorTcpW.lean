/- tcp: header, Right, Bytes and the references', by contract. Conditions: none but bounds. -/
import Derived.Test.YtmekadkmmddocaaDoorTcpB
import Derived.Test.YtmekadkmmddocaaDoorJoin
namespace Go.Proofs.YtmekadkmmddocaaDoor
open Go.RowKit

def segB (sp dp seq ack fl win sum urg : Nat) (o x : List Nat) : List Nat := [] ++ be sp 2 ++ be dp 2 ++ be seq 4 ++ be ack 4 ++ be ((20 + o.length) / 4 * 2 ^ 4) 1 ++ be fl 1 ++ be win 2 ++ be sum 2 ++ be urg 2 ++ o ++ x
def segRight (m k : Nat) : Prop := m ≤ 40 ∧ m % 4 = 0 ∧ 20 + m + k ≤ 65535
instance (m k : Nat) : Decidable (segRight m k) := by unfold segRight; exact inferInstance

set_option maxRecDepth 100000 in
set_option maxHeartbeats 4000000 in
theorem tcp_header_c (a1 a2 a3 a4 a5 a6 a7 a8 : Nat) (O : Option Addr) (m c : Nat) (L : Option Addr) (k d : Nat) (w0 : World) (hm : m ≤ 1000000) :
    Calls Tryd.prog 51 #[.agg (segV a1 a2 a3 a4 a5 a6 a7 a8 O m c L k d).toArray] w0 fun e w' => e = .returned (.int .i64 ((20 + m : Nat) : Int)) ∧ Kp [] w0 w' := by
  have hS := St.sv w0
  refine ent (n := 7) Tryd.func51 rfl rfl ?_
  refine wp_seq_k ?_; intro K1 hK1
  refine wlit ?_
  refine wl_e rfl ?_; intro K hK
  refine ow_box hS (tmA rfl rfl) rfl ?_
  clear hS; intro g0_0 w hg0_0 hS
  refine hK _ _ ?_; clear hK K
  refine wl_v (x_assign (ev_cN 0)) ?_
  refine wl_nil ?_
  refine then_n (hK1 _ _ ?_); clear hK1 K1
  refine wp_seq_k ?_; intro K2 hK2
  refine wlit ?_
  refine wl_v (x_fa 8 Tryd.underlying32 rfl rfl ts_22 (tmP rfl rfl)) ?_
  first
   | refine wl_v (x_load Tryd.underlying22 rfl (tmP rfl rfl) (cellB hS.ok 0 rfl rfl)) ?_
   | refine wl_v (x_load Tryd.underlying22 rfl (tmP rfl rfl) (cellB hS.ok 0 rfl (getm (by omega)))) ?_
  refine wl_v (x_len Tryd.underlying22 (tmS rfl rfl)) ?_
  first
   | refine wl_v (x_addN (ev_cN 20) (tmI rfl rfl) (fit_i64 (by omega))) ?_
   | refine wl_v (x_addI (ev_cN 20) (tmI rfl rfl) (IntWalk.i64_in _ (by omega))) ?_
   | refine wl_v (x_add (ev_cN 20) (tmI rfl rfl)) ?_
  refine wl_v (x_assign (tmI rfl rfl)) ?_
  refine wl_nil ?_
  refine then_n (hK2 _ _ ?_); clear hK2 K2
  refine wp_ret ?_
  refine ret1 rfl (.tmp rfl (show _ = Value.int _ _ from rfl)) ?_
  exact ⟨rfl, hS.kp⟩

set_option maxRecDepth 100000 in
set_option maxHeartbeats 4000000 in
theorem tcp_right_c (a1 a2 a3 a4 a5 a6 a7 a8 : Nat) (O : Option Addr) (m c : Nat) (L : Option Addr) (k d : Nat) (w0 : World) (hm : m ≤ 1000000) (hk0 : k ≤ 1000000) :
    Calls Tryd.prog 29 #[.agg (segV a1 a2 a3 a4 a5 a6 a7 a8 O m c L k d).toArray] w0 fun e w' => e = .returned (.bool (decide (segRight m k))) ∧ Kp [] w0 w' := by
  have hS := St.sv w0
  refine ent (n := 23) Tryd.func29 rfl rfl ?_
  refine wp_seq_k ?_; intro K1 hK1
  refine wlit ?_
  refine wl_e rfl ?_; intro K hK
  refine ow_box hS (tmA rfl rfl) rfl ?_
  clear hS; intro g0_0 w hg0_0 hS
  refine hK _ _ ?_; clear hK K
  refine wl_v (x_assign ev_c) ?_
  refine wl_nil ?_
  refine then_n (hK1 _ _ ?_); clear hK1 K1
  refine wp_seq_k ?_; intro K2 hK2
  refine rg_startk 0 hS mixed_ ?_
  clear hS; intro w hS
  refine rg_take 0 rfl rfl (by kernel_rfl) (by kernel_rfl) (by kernel_rfl) (want_0) (fun w hok => x_fa 8 Tryd.underlying32 rfl rfl ts_22 (tmP rfl rfl)) ?_
  first
   | refine rg_take 1 rfl rfl (by kernel_rfl) (by kernel_rfl) (by kernel_rfl) (want_0) (fun w hok => x_load Tryd.underlying22 rfl (tmP rfl rfl) (cellB hok 0 rfl rfl)) ?_
   | refine rg_take 1 rfl rfl (by kernel_rfl) (by kernel_rfl) (by kernel_rfl) (want_0) (fun w hok => x_load Tryd.underlying22 rfl (tmP rfl rfl) (cellB hok 0 rfl (getm (by omega)))) ?_
  refine rg_take 2 rfl rfl (by kernel_rfl) (by kernel_rfl) (by kernel_rfl) (want_0) (fun w hok => x_len Tryd.underlying22 (tmS rfl rfl)) ?_
  refine rg_take 3 rfl rfl (by kernel_rfl) (by kernel_rfl) (by kernel_rfl) (want_0) (fun w hok => x_leq (tmI rfl rfl) (ev_cN 40)) ?_
  refine rg_take 4 rfl rfl (by kernel_rfl) (by kernel_rfl) (by kernel_rfl) (want_0) (fun w hok => x_move (tmB rfl rfl)) ?_
  refine gs_rg (tm (t := 7) rfl) (fun hg1_4 => ?_) (fun hg1_4 => ?_)
  · have hg1_4' := hg1_4; (try simp only [nrm] at hg1_4'); try (exfalso; first | with_reducible exact absurd hg1_4 Bool.false_ne_true | with_reducible exact absurd hg1_4.symm Bool.false_ne_true | omega | (simp at hg1_4; done))
    all_goals
     refine rg_take 5 rfl rfl (by kernel_rfl) (by kernel_rfl) (by kernel_rfl) (want_y rfl rfl rfl rfl (by rw [hg1_4]; rfl)) (fun w hok => x_fa 8 Tryd.underlying32 rfl rfl ts_22 (tmP rfl rfl)) ?_
     first
      | refine rg_take 6 rfl rfl (by kernel_rfl) (by kernel_rfl) (by kernel_rfl) (want_y rfl rfl rfl rfl (by rw [hg1_4]; rfl)) (fun w hok => x_load Tryd.underlying22 rfl (tmP rfl rfl) (cellB hok 0 rfl rfl)) ?_
      | refine rg_take 6 rfl rfl (by kernel_rfl) (by kernel_rfl) (by kernel_rfl) (want_y rfl rfl rfl rfl (by rw [hg1_4]; rfl)) (fun w hok => x_load Tryd.underlying22 rfl (tmP rfl rfl) (cellB hok 0 rfl (getm (by omega)))) ?_
     refine rg_take 7 rfl rfl (by kernel_rfl) (by kernel_rfl) (by kernel_rfl) (want_y rfl rfl rfl rfl (by rw [hg1_4]; rfl)) (fun w hok => x_len Tryd.underlying22 (tmS rfl rfl)) ?_
     first
      | refine rg_take 8 rfl rfl (by kernel_rfl) (by kernel_rfl) (by kernel_rfl) (want_y rfl rfl rfl rfl (by rw [hg1_4]; rfl)) (fun w hok => x_remN (tmI rfl rfl) (ev_cN 4) (by omega)) ?_
      | refine rg_take 8 rfl rfl (by kernel_rfl) (by kernel_rfl) (by kernel_rfl) (want_y rfl rfl rfl rfl (by rw [hg1_4]; rfl)) (fun w hok => x_rem (tmI rfl rfl) (ev_cN 4) (by omega)) ?_
     refine rg_take 9 rfl rfl (by kernel_rfl) (by kernel_rfl) (by kernel_rfl) (want_y rfl rfl rfl rfl (by rw [hg1_4]; rfl)) (fun w hok => x_eql (tmI rfl rfl) (ev_cN 0)) ?_
     refine rg_take 10 rfl rfl (by kernel_rfl) (by kernel_rfl) (by kernel_rfl) (want_0) (fun w hok => x_pickT (tmB rfl rfl) hg1_4 (tmB rfl rfl)) ?_
     refine rg_take 11 rfl rfl (by kernel_rfl) (by kernel_rfl) (by kernel_rfl) (want_0) (fun w hok => x_move (tmB rfl rfl)) ?_
     refine gs_rg (tm (t := 14) rfl) (fun hg1_11 => ?_) (fun hg1_11 => ?_)
     · have hg1_11' := hg1_11; (try simp only [nrm] at hg1_11'); try (exfalso; first | with_reducible exact absurd hg1_11 Bool.false_ne_true | with_reducible exact absurd hg1_11.symm Bool.false_ne_true | omega | (simp at hg1_11; done))
       all_goals
        refine rg_take 12 rfl rfl (by kernel_rfl) (by kernel_rfl) (by kernel_rfl) (want_y rfl rfl rfl rfl (by rw [hg1_11]; rfl)) (fun w hok => x_loadA (cs := [_, _, _, _, _, _, _, _, _, _]) Tryd.underlying32 rfl ts_32 (tmP rfl rfl) (rangeB hok 0 rfl rfl)) ?_
        refine rg_take 14 rfl rfl (by kernel_rfl) (by kernel_rfl) (by kernel_rfl) (want_y rfl rfl rfl rfl (by rw [hg1_11]; rfl)) (fun w hok => x_fa 9 Tryd.underlying32 rfl rfl ts_22 (tmP rfl rfl)) ?_
        first
         | refine rg_take 15 rfl rfl (by kernel_rfl) (by kernel_rfl) (by kernel_rfl) (want_y rfl rfl rfl rfl (by rw [hg1_11]; rfl)) (fun w hok => x_load Tryd.underlying22 rfl (tmP rfl rfl) (cellB hok 0 rfl rfl)) ?_
         | refine rg_take 15 rfl rfl (by kernel_rfl) (by kernel_rfl) (by kernel_rfl) (want_y rfl rfl rfl rfl (by rw [hg1_11]; rfl)) (fun w hok => x_load Tryd.underlying22 rfl (tmP rfl rfl) (cellB hok 0 rfl (getm (by omega)))) ?_
        refine rg_take 16 rfl rfl (by kernel_rfl) (by kernel_rfl) (by kernel_rfl) (want_y rfl rfl rfl rfl (by rw [hg1_11]; rfl)) (fun w hok => x_len Tryd.underlying22 (tmS rfl rfl)) ?_
        refine rg_step 13 rfl (by kernel_rfl) (want_y rfl rfl rfl rfl (by rw [hg1_11]; rfl)) (oks_drop hS 0 rfl) ?_; intro K hK
        refine ow_call Tryd.func51 rfl rfl (evs_cons (tmA rfl rfl) <| evs_nil) (tcp_header_c _ _ _ _ _ _ _ _ _ m _ _ _ _ _ hm) ?_
        rintro e w ⟨rfl, hk⟩
        refine ⟨_, rfl, ?_⟩
        replace hS := hS.kept hk
        clear hk
        refine hK _ _ ?_; clear hK K
        first
         | refine rg_take 17 rfl rfl (by kernel_rfl) (by kernel_rfl) (by kernel_rfl) (want_y rfl rfl rfl rfl (by rw [hg1_11]; rfl)) (fun w hok => x_addN (tmI rfl rfl) (tmI rfl rfl) (fit_i64 (by omega))) ?_
         | refine rg_take 17 rfl rfl (by kernel_rfl) (by kernel_rfl) (by kernel_rfl) (want_y rfl rfl rfl rfl (by rw [hg1_11]; rfl)) (fun w hok => x_addI (tmI rfl rfl) (tmI rfl rfl) (IntWalk.i64_in _ (by omega))) ?_
         | refine rg_take 17 rfl rfl (by kernel_rfl) (by kernel_rfl) (by kernel_rfl) (want_y rfl rfl rfl rfl (by rw [hg1_11]; rfl)) (fun w hok => x_add (tmI rfl rfl) (tmI rfl rfl)) ?_
        refine rg_take 18 rfl rfl (by kernel_rfl) (by kernel_rfl) (by kernel_rfl) (want_y rfl rfl rfl rfl (by rw [hg1_11]; rfl)) (fun w hok => x_leq (tmI rfl rfl) (ev_cN 65535)) ?_
        refine rg_take 19 rfl rfl (by kernel_rfl) (by kernel_rfl) (by kernel_rfl) (want_0) (fun w hok => x_pickT (tmB rfl rfl) hg1_11 (tmB rfl rfl)) ?_
        refine rg_take 20 rfl rfl (by kernel_rfl) (by kernel_rfl) (by kernel_rfl) (want_0) (fun w hok => x_assign (tmB rfl rfl)) ?_
        refine rg_done (oks_drop hS 0 rfl) (by kernel_rfl) ?_
        refine then_n (hK2 _ _ ?_); clear hK2 K2
        refine wp_ret ?_
        refine ret1 rfl (.tmp rfl (show _ = Value.bool _ from rfl)) ?_
        refine ⟨?_, hS.kp⟩
        unfold segRight
        congr 2
        first
          | (symm; apply decide_eq_false; omega)
          | (apply decide_eq_decide.2; omega)
     have hg1_11' := hg1_11; (try simp only [nrm] at hg1_11'); try (exfalso; first | with_reducible exact absurd hg1_11 Bool.false_ne_true | with_reducible exact absurd hg1_11.symm Bool.false_ne_true | omega | (simp at hg1_11; done))
     all_goals
      refine rg_skip 12 rfl rfl (by kernel_rfl) (by kernel_rfl) (by kernel_rfl) (want_n rfl rfl rfl rfl (by rw [hg1_11]; rfl)) ?_
      refine rg_skip 13 rfl rfl (by kernel_rfl) (by kernel_rfl) (by kernel_rfl) (want_n rfl rfl rfl rfl (by rw [hg1_11]; rfl)) ?_
      refine rg_skip 14 rfl rfl (by kernel_rfl) (by kernel_rfl) (by kernel_rfl) (want_n rfl rfl rfl rfl (by rw [hg1_11]; rfl)) ?_
      refine rg_skip 15 rfl rfl (by kernel_rfl) (by kernel_rfl) (by kernel_rfl) (want_n rfl rfl rfl rfl (by rw [hg1_11]; rfl)) ?_
      refine rg_skip 16 rfl rfl (by kernel_rfl) (by kernel_rfl) (by kernel_rfl) (want_n rfl rfl rfl rfl (by rw [hg1_11]; rfl)) ?_
      refine rg_skip 17 rfl rfl (by kernel_rfl) (by kernel_rfl) (by kernel_rfl) (want_n rfl rfl rfl rfl (by rw [hg1_11]; rfl)) ?_
      refine rg_skip 18 rfl rfl (by kernel_rfl) (by kernel_rfl) (by kernel_rfl) (want_n rfl rfl rfl rfl (by rw [hg1_11]; rfl)) ?_
      refine rg_take 19 rfl rfl (by kernel_rfl) (by kernel_rfl) (by kernel_rfl) (want_0) (fun w hok => x_pickF (tmB rfl rfl) hg1_11 ev_c) ?_
      refine rg_take 20 rfl rfl (by kernel_rfl) (by kernel_rfl) (by kernel_rfl) (want_0) (fun w hok => x_assign (tmB rfl rfl)) ?_
      refine rg_done (oks_drop hS 0 rfl) (by kernel_rfl) ?_
      refine then_n (hK2 _ _ ?_); clear hK2 K2
      refine wp_ret ?_
      refine ret1 rfl (.tmp rfl (show _ = Value.bool _ from rfl)) ?_
      refine ⟨?_, hS.kp⟩
      unfold segRight
      congr 2
      first
        | (symm; apply decide_eq_false; omega)
        | (apply decide_eq_decide.2; omega)
  have hg1_4' := hg1_4; (try simp only [nrm] at hg1_4'); try (exfalso; first | with_reducible exact absurd hg1_4 Bool.false_ne_true | with_reducible exact absurd hg1_4.symm Bool.false_ne_true | omega | (simp at hg1_4; done))
  all_goals
   refine rg_skip 5 rfl rfl (by kernel_rfl) (by kernel_rfl) (by kernel_rfl) (want_n rfl rfl rfl rfl (by rw [hg1_4]; rfl)) ?_
   refine rg_skip 6 rfl rfl (by kernel_rfl) (by kernel_rfl) (by kernel_rfl) (want_n rfl rfl rfl rfl (by rw [hg1_4]; rfl)) ?_
   refine rg_skip 7 rfl rfl (by kernel_rfl) (by kernel_rfl) (by kernel_rfl) (want_n rfl rfl rfl rfl (by rw [hg1_4]; rfl)) ?_
   refine rg_skip 8 rfl rfl (by kernel_rfl) (by kernel_rfl) (by kernel_rfl) (want_n rfl rfl rfl rfl (by rw [hg1_4]; rfl)) ?_
   refine rg_skip 9 rfl rfl (by kernel_rfl) (by kernel_rfl) (by kernel_rfl) (want_n rfl rfl rfl rfl (by rw [hg1_4]; rfl)) ?_
   refine rg_take 10 rfl rfl (by kernel_rfl) (by kernel_rfl) (by kernel_rfl) (want_0) (fun w hok => x_pickF (tmB rfl rfl) hg1_4 ev_c) ?_
   refine rg_take 11 rfl rfl (by kernel_rfl) (by kernel_rfl) (by kernel_rfl) (want_0) (fun w hok => x_move (tmB rfl rfl)) ?_
   refine rg_skip 12 rfl rfl (by kernel_rfl) (by kernel_rfl) (by kernel_rfl) (want_n rfl rfl rfl rfl rfl) ?_
   refine rg_skip 13 rfl rfl (by kernel_rfl) (by kernel_rfl) (by kernel_rfl) (want_n rfl rfl rfl rfl rfl) ?_
   refine rg_skip 14 rfl rfl (by kernel_rfl) (by kernel_rfl) (by kernel_rfl) (want_n rfl rfl rfl rfl rfl) ?_
   refine rg_skip 15 rfl rfl (by kernel_rfl) (by kernel_rfl) (by kernel_rfl) (want_n rfl rfl rfl rfl rfl) ?_
   refine rg_skip 16 rfl rfl (by kernel_rfl) (by kernel_rfl) (by kernel_rfl) (want_n rfl rfl rfl rfl rfl) ?_
   refine rg_skip 17 rfl rfl (by kernel_rfl) (by kernel_rfl) (by kernel_rfl) (want_n rfl rfl rfl rfl rfl) ?_
   refine rg_skip 18 rfl rfl (by kernel_rfl) (by kernel_rfl) (by kernel_rfl) (want_n rfl rfl rfl rfl rfl) ?_
   refine rg_take 19 rfl rfl (by kernel_rfl) (by kernel_rfl) (by kernel_rfl) (want_0) (fun w hok => x_pickF (tmB rfl rfl) rfl ev_c) ?_
   refine rg_take 20 rfl rfl (by kernel_rfl) (by kernel_rfl) (by kernel_rfl) (want_0) (fun w hok => x_assign (tmB rfl rfl)) ?_
   refine rg_done (oks_drop hS 0 rfl) (by kernel_rfl) ?_
   refine then_n (hK2 _ _ ?_); clear hK2 K2
   refine wp_ret ?_
   refine ret1 rfl (.tmp rfl (show _ = Value.bool _ from rfl)) ?_
   refine ⟨?_, hS.kp⟩
   unfold segRight
   congr 2
   first
     | (symm; apply decide_eq_false; omega)
     | (apply decide_eq_decide.2; omega)

set_option maxRecDepth 100000 in
set_option maxHeartbeats 4000000 in
theorem rtcp_right_c (a1 a2 a3 a4 a5 a6 a7 a8 : Nat) (O : Option Addr) (m c : Nat) (L : Option Addr) (k d : Nat) (w0 : World) (hm : m ≤ 1000000) (hk0 : k ≤ 1000000) :
    Calls Tryd.prog 36 #[.agg (segV a1 a2 a3 a4 a5 a6 a7 a8 O m c L k d).toArray] w0 fun e w' => e = .returned (.bool (decide (segRight m k))) ∧ Kp [] w0 w' := by
  have hS := St.sv w0
  refine ent (n := 23) Tryd.func36 rfl rfl ?_
  refine wp_seq_k ?_; intro K1 hK1
  refine wlit ?_
  refine wl_e rfl ?_; intro K hK
  refine ow_box hS (tmA rfl rfl) rfl ?_
  clear hS; intro g0_0 w hg0_0 hS
  refine hK _ _ ?_; clear hK K
  refine wl_v (x_assign ev_c) ?_
  refine wl_nil ?_
  refine then_n (hK1 _ _ ?_); clear hK1 K1
  refine wp_seq_k ?_; intro K2 hK2
  refine wlit ?_
  refine wl_v (x_fa 8 Tryd.underlying42 rfl rfl ts_22 (tmP rfl rfl)) ?_
  first
   | refine wl_v (x_load Tryd.underlying22 rfl (tmP rfl rfl) (cellB hS.ok 0 rfl rfl)) ?_
   | refine wl_v (x_load Tryd.underlying22 rfl (tmP rfl rfl) (cellB hS.ok 0 rfl (getm (by omega)))) ?_
  refine wl_v (x_len Tryd.underlying22 (tmS rfl rfl)) ?_
  refine wl_v (x_assign (tmI rfl rfl)) ?_
  refine wl_nil ?_
  refine then_n (hK2 _ _ ?_); clear hK2 K2
  refine wp_seq_k ?_; intro K3 hK3
  refine wlit ?_
  refine wl_v (x_move (tmI rfl rfl)) ?_
  refine wl_v (x_leq (tmI rfl rfl) (ev_cN 40)) ?_
  refine wl_v (x_move (tmB rfl rfl)) ?_
  refine gs_wl (tm (t := 9) rfl) (fun hg2_2 => ?_) (fun hg2_2 => ?_)
  · have hg2_2' := hg2_2; (try simp only [nrm] at hg2_2'); try (exfalso; first | with_reducible exact absurd hg2_2 Bool.false_ne_true | with_reducible exact absurd hg2_2.symm Bool.false_ne_true | omega | (simp at hg2_2; done))
    all_goals
     refine wl_gv (want_y rfl rfl rfl rfl (by rw [hg2_2]; rfl)) (x_move (tmI rfl rfl)) ?_
     first
      | refine wl_gv (want_y rfl rfl rfl rfl (by rw [hg2_2]; rfl)) (x_remN (tmI rfl rfl) (ev_cN 4) (by omega)) ?_
      | refine wl_gv (want_y rfl rfl rfl rfl (by rw [hg2_2]; rfl)) (x_rem (tmI rfl rfl) (ev_cN 4) (by omega)) ?_
     refine wl_gv (want_y rfl rfl rfl rfl (by rw [hg2_2]; rfl)) (x_eql (tmI rfl rfl) (ev_cN 0)) ?_
     refine wl_v (x_pickT (tmB rfl rfl) hg2_2 (tmB rfl rfl)) ?_
     refine wl_v (x_move (tmB rfl rfl)) ?_
     refine gs_wl (tm (t := 14) rfl) (fun hg2_7 => ?_) (fun hg2_7 => ?_)
     · have hg2_7' := hg2_7; (try simp only [nrm] at hg2_7'); try (exfalso; first | with_reducible exact absurd hg2_7 Bool.false_ne_true | with_reducible exact absurd hg2_7.symm Bool.false_ne_true | omega | (simp at hg2_7; done))
       all_goals
        refine wl_gv (want_y rfl rfl rfl rfl (by rw [hg2_7]; rfl)) (x_move (tmI rfl rfl)) ?_
        first
         | refine wl_gv (want_y rfl rfl rfl rfl (by rw [hg2_7]; rfl)) (x_addN (ev_cN 20) (tmI rfl rfl) (fit_i64 (by omega))) ?_
         | refine wl_gv (want_y rfl rfl rfl rfl (by rw [hg2_7]; rfl)) (x_addI (ev_cN 20) (tmI rfl rfl) (IntWalk.i64_in _ (by omega))) ?_
         | refine wl_gv (want_y rfl rfl rfl rfl (by rw [hg2_7]; rfl)) (x_add (ev_cN 20) (tmI rfl rfl)) ?_
        refine wl_gv (want_y rfl rfl rfl rfl (by rw [hg2_7]; rfl)) (x_fa 9 Tryd.underlying42 rfl rfl ts_22 (tmP rfl rfl)) ?_
        first
         | refine wl_gv (want_y rfl rfl rfl rfl (by rw [hg2_7]; rfl)) (x_load Tryd.underlying22 rfl (tmP rfl rfl) (cellB hS.ok 0 rfl rfl)) ?_
         | refine wl_gv (want_y rfl rfl rfl rfl (by rw [hg2_7]; rfl)) (x_load Tryd.underlying22 rfl (tmP rfl rfl) (cellB hS.ok 0 rfl (getm (by omega)))) ?_
        refine wl_gv (want_y rfl rfl rfl rfl (by rw [hg2_7]; rfl)) (x_len Tryd.underlying22 (tmS rfl rfl)) ?_
        first
         | refine wl_gv (want_y rfl rfl rfl rfl (by rw [hg2_7]; rfl)) (x_addN (tmI rfl rfl) (tmI rfl rfl) (fit_i64 (by omega))) ?_
         | refine wl_gv (want_y rfl rfl rfl rfl (by rw [hg2_7]; rfl)) (x_addI (tmI rfl rfl) (tmI rfl rfl) (IntWalk.i64_in _ (by omega))) ?_
         | refine wl_gv (want_y rfl rfl rfl rfl (by rw [hg2_7]; rfl)) (x_add (tmI rfl rfl) (tmI rfl rfl)) ?_
        refine wl_gv (want_y rfl rfl rfl rfl (by rw [hg2_7]; rfl)) (x_leq (tmI rfl rfl) (ev_cN 65535)) ?_
        refine wl_v (x_pickT (tmB rfl rfl) hg2_7 (tmB rfl rfl)) ?_
        refine wl_v (x_assign (tmB rfl rfl)) ?_
        refine wl_nil ?_
        refine then_n (hK3 _ _ ?_); clear hK3 K3
        refine wp_ret ?_
        refine ret1 rfl (.tmp rfl (show _ = Value.bool _ from rfl)) ?_
        refine ⟨?_, hS.kp⟩
        unfold segRight
        congr 2
        first
          | (symm; apply decide_eq_false; omega)
          | (apply decide_eq_decide.2; omega)
     have hg2_7' := hg2_7; (try simp only [nrm] at hg2_7'); try (exfalso; first | with_reducible exact absurd hg2_7 Bool.false_ne_true | with_reducible exact absurd hg2_7.symm Bool.false_ne_true | omega | (simp at hg2_7; done))
     all_goals
      refine wl_s rfl (want_n rfl rfl rfl rfl (by rw [hg2_7]; rfl)) ?_
      refine wl_s rfl (want_n rfl rfl rfl rfl (by rw [hg2_7]; rfl)) ?_
      refine wl_s rfl (want_n rfl rfl rfl rfl (by rw [hg2_7]; rfl)) ?_
      refine wl_s rfl (want_n rfl rfl rfl rfl (by rw [hg2_7]; rfl)) ?_
      refine wl_s rfl (want_n rfl rfl rfl rfl (by rw [hg2_7]; rfl)) ?_
      refine wl_s rfl (want_n rfl rfl rfl rfl (by rw [hg2_7]; rfl)) ?_
      refine wl_s rfl (want_n rfl rfl rfl rfl (by rw [hg2_7]; rfl)) ?_
      refine wl_v (x_pickF (tmB rfl rfl) hg2_7 ev_c) ?_
      refine wl_v (x_assign (tmB rfl rfl)) ?_
      refine wl_nil ?_
      refine then_n (hK3 _ _ ?_); clear hK3 K3
      refine wp_ret ?_
      refine ret1 rfl (.tmp rfl (show _ = Value.bool _ from rfl)) ?_
      refine ⟨?_, hS.kp⟩
      unfold segRight
      congr 2
      first
        | (symm; apply decide_eq_false; omega)
        | (apply decide_eq_decide.2; omega)
  have hg2_2' := hg2_2; (try simp only [nrm] at hg2_2'); try (exfalso; first | with_reducible exact absurd hg2_2 Bool.false_ne_true | with_reducible exact absurd hg2_2.symm Bool.false_ne_true | omega | (simp at hg2_2; done))
  all_goals
   refine wl_s rfl (want_n rfl rfl rfl rfl (by rw [hg2_2]; rfl)) ?_
   refine wl_s rfl (want_n rfl rfl rfl rfl (by rw [hg2_2]; rfl)) ?_
   refine wl_s rfl (want_n rfl rfl rfl rfl (by rw [hg2_2]; rfl)) ?_
   refine wl_v (x_pickF (tmB rfl rfl) hg2_2 ev_c) ?_
   refine wl_v (x_move (tmB rfl rfl)) ?_
   refine wl_s rfl (want_n rfl rfl rfl rfl rfl) ?_
   refine wl_s rfl (want_n rfl rfl rfl rfl rfl) ?_
   refine wl_s rfl (want_n rfl rfl rfl rfl rfl) ?_
   refine wl_s rfl (want_n rfl rfl rfl rfl rfl) ?_
   refine wl_s rfl (want_n rfl rfl rfl rfl rfl) ?_
   refine wl_s rfl (want_n rfl rfl rfl rfl rfl) ?_
   refine wl_s rfl (want_n rfl rfl rfl rfl rfl) ?_
   refine wl_v (x_pickF (tmB rfl rfl) rfl ev_c) ?_
   refine wl_v (x_assign (tmB rfl rfl)) ?_
   refine wl_nil ?_
   refine then_n (hK3 _ _ ?_); clear hK3 K3
   refine wp_ret ?_
   refine ret1 rfl (.tmp rfl (show _ = Value.bool _ from rfl)) ?_
   refine ⟨?_, hS.kp⟩
   unfold segRight
   congr 2
   first
     | (symm; apply decide_eq_false; omega)
     | (apply decide_eq_decide.2; omega)

set_option maxRecDepth 100000 in
set_option maxHeartbeats 4000000 in
theorem tcp_bytes_c (a1 a2 a3 a4 a5 a6 a7 a8 : Nat) (O : Option Addr) (c : Nat) (L : Option Addr) (d : Nat) (o x : List Nat) (w0 : World) (h1 : View w0 w0.heap.size O (o.map u8v)) (h2 : View w0 w0.heap.size L (x.map u8v))
    (q1 : a1 < 65536) (q2 : a2 < 65536) (q3 : a3 < 4294967296) (q4 : a4 < 4294967296) (q5 : a5 < 256) (q6 : a6 < 65536) (q7 : a7 < 65536) (q8 : a8 < 65536) (hr : segRight o.length x.length) :
    Calls Tryd.prog 33 #[.agg (segV a1 a2 a3 a4 a5 a6 a7 a8 O o.length c L x.length d).toArray] w0 fun e w' => ∃ A' n c', n = 20 + o.length + x.length ∧ e = .returned (.slice A' n c') ∧ New w0 w' (.row (.slice A' n c') 5 1 n ((segB a1 a2 a3 a4 a5 a6 a7 a8 o x).map u8v)) ∧ Kp [] w0 w' := by
  have hS := ((St.sv w0).vcons rfl h1).vcons rfl h2
  have hr1 := hr.1
  have hr2 := hr.2.1
  have hr3 := hr.2.2
  refine ent (n := 61) Tryd.func33 rfl rfl ?_
  refine wp_seq_k ?_; intro K1 hK1
  refine wlit ?_
  refine wl_e rfl ?_; intro K hK
  refine ow_box hS (tmA rfl rfl) rfl ?_
  clear hS; intro g0_0 w hg0_0 hS
  refine hK _ _ ?_; clear hK K
  refine wl_v (x_assign ev_c) ?_
  refine wl_nil ?_
  refine then_n (hK1 _ _ ?_); clear hK1 K1
  refine wp_seq_k ?_; intro K2 hK2
  refine wp_seq_k ?_; intro K3 hK3
  refine wlit ?_
  refine wl_v (x_loadA (cs := [_, _, _, _, _, _, _, _, _, _]) Tryd.underlying32 rfl ts_32 (tmP rfl rfl) (rangeB hS.ok 0 rfl rfl)) ?_
  refine wl_e rfl ?_; intro K hK
  refine ow_call Tryd.func29 rfl rfl (evs_cons (tmA rfl rfl) <| evs_nil) (tcp_right_c _ _ _ _ _ _ _ _ _ _ _ _ _ _ _ (by omega) (by omega)) ?_
  rintro e w ⟨rfl, hk⟩
  refine ⟨_, rfl, ?_⟩
  replace hS := hS.kept hk
  clear hk
  refine hK _ _ ?_; clear hK K
  refine wl_v (x_not (tmB rfl rfl)) ?_
  refine wl_nil ?_
  refine then_n (hK3 _ _ ?_); clear hK3 K3
  refine cnd (tm rfl) (fun hc0 => ?_) (fun hc0 => ?_)
  · exfalso
    simp at hc0
    exact hc0 hr
  try (exfalso; first | with_reducible exact absurd hc0 Bool.false_ne_true | with_reducible exact absurd hc0.symm Bool.false_ne_true | (simp only [nrm] at hc0; omega) | (simp at hc0; done))
  all_goals
   try simp only [nrm] at hc0
   refine wp_skip ?_
   refine then_n (hK2 _ _ ?_); clear hK2 K2
   refine wp_seq_k ?_; intro K4 hK4
   refine wlit ?_
   refine wl_v (x_fa 0 Tryd.underlying32 rfl rfl ts_27 (tmP rfl rfl)) ?_
   first
    | refine wl_v (x_load Tryd.underlying27 rfl (tmP rfl rfl) (cellB hS.ok 0 rfl rfl)) ?_
    | refine wl_v (x_load Tryd.underlying27 rfl (tmP rfl rfl) (cellB hS.ok 0 rfl (getm (by omega)))) ?_
   first
    | refine wl_v (x_convN Tryd.underlying27 Tryd.underlying24 (tmI rfl rfl) (fit_u64 (by omega))) ?_
    | refine wl_v (x_convU Tryd.underlying27 Tryd.underlying24 (tmI rfl rfl) rfl) ?_
    | refine wl_v (x_conv Tryd.underlying27 Tryd.underlying24 (tmI rfl rfl)) ?_
   refine wl_e rfl ?_; intro K hK
   refine ow_call Tryd.func61 rfl rfl (evs_cons ev_c <| evs_cons (tmI rfl rfl) <| evs_cons (ev_cN 2) <| evs_nil) (put_c 0 none 0 [] a1 2 _ View.nil_ rfl (by omega) (by omega) (by omega)) ?_
   rintro e w ⟨g1, rfl, hn, hk⟩
   refine ⟨_, rfl, ?_⟩
   replace hS := hS.add hk hn -- +rowb
   clear hn hk
   refine hK _ _ ?_; clear hK K
   refine wl_v (x_assign (tmS rfl rfl)) ?_
   refine wl_nil ?_
   refine then_n (hK4 _ _ ?_); clear hK4 K4
   refine wp_seq_k ?_; intro K5 hK5
   refine wlit ?_
   refine wl_v (x_move (tmS rfl rfl)) ?_
   refine wl_v (x_fa 1 Tryd.underlying32 rfl rfl ts_27 (tmP rfl rfl)) ?_
   first
    | refine wl_v (x_load Tryd.underlying27 rfl (tmP rfl rfl) (cellB hS.ok 1 rfl rfl)) ?_
    | refine wl_v (x_load Tryd.underlying27 rfl (tmP rfl rfl) (cellB hS.ok 1 rfl (getm (by omega)))) ?_
   first
    | refine wl_v (x_convN Tryd.underlying27 Tryd.underlying24 (tmI rfl rfl) (fit_u64 (by omega))) ?_
    | refine wl_v (x_convU Tryd.underlying27 Tryd.underlying24 (tmI rfl rfl) rfl) ?_
    | refine wl_v (x_conv Tryd.underlying27 Tryd.underlying24 (tmI rfl rfl)) ?_
   refine wl_e rfl ?_; intro K hK
   refine ow_call Tryd.func61 rfl rfl (evs_cons (tmS rfl rfl) <| evs_cons (tmI rfl rfl) <| evs_cons (ev_cN 2) <| evs_nil) (put_c _ _ _ _ _ _ _ (viewR hS.ok 0 rfl) (by simp [be_length]) (by omega) (by omega) (by omega)) ?_
   rintro e w ⟨g2, rfl, hn, hk⟩
   refine ⟨_, rfl, ?_⟩
   replace hS := (hS.add hk hn).pick [0, 2, 3, 4] rfl rfl --ents rowb,g0_0,vl,vo
   clear hn hk
   try replace hS := St.nm (M' := [.row _ _ _ _ _, .blk _ _ [_, _, _, _, _, _, _, _, _, _], .vw _ _, .vw _ _]) hS rfl
   refine hK _ _ ?_; clear hK K
   refine wl_v (x_assign (tmS rfl rfl)) ?_
   refine wl_nil ?_
   refine then_n (hK5 _ _ ?_); clear hK5 K5
   refine wp_seq_k ?_; intro K6 hK6
   refine wlit ?_
   refine wl_v (x_move (tmS rfl rfl)) ?_
   refine wl_v (x_fa 2 Tryd.underlying32 rfl rfl ts_30 (tmP rfl rfl)) ?_
   first
    | refine wl_v (x_load Tryd.underlying30 rfl (tmP rfl rfl) (cellB hS.ok 1 rfl rfl)) ?_
    | refine wl_v (x_load Tryd.underlying30 rfl (tmP rfl rfl) (cellB hS.ok 1 rfl (getm (by omega)))) ?_
   first
    | refine wl_v (x_convN Tryd.underlying30 Tryd.underlying24 (tmI rfl rfl) (fit_u64 (by omega))) ?_
    | refine wl_v (x_convU Tryd.underlying30 Tryd.underlying24 (tmI rfl rfl) rfl) ?_
    | refine wl_v (x_conv Tryd.underlying30 Tryd.underlying24 (tmI rfl rfl)) ?_
   refine wl_e rfl ?_; intro K hK
   refine ow_call Tryd.func61 rfl rfl (evs_cons (tmS rfl rfl) <| evs_cons (tmI rfl rfl) <| evs_cons (ev_cN 4) <| evs_nil) (put_c _ _ _ _ _ _ _ (viewR hS.ok 0 rfl) (by simp [be_length]) (by omega) (by omega) (by omega)) ?_
   rintro e w ⟨g2, rfl, hn, hk⟩
   refine ⟨_, rfl, ?_⟩
   replace hS := (hS.add hk hn).pick [0, 2, 3, 4] rfl rfl --ents rowb,g0_0,vl,vo
   clear hn hk
   try replace hS := St.nm (M' := [.row _ _ _ _ _, .blk _ _ [_, _, _, _, _, _, _, _, _, _], .vw _ _, .vw _ _]) hS rfl
   refine hK _ _ ?_; clear hK K
   refine wl_v (x_assign (tmS rfl rfl)) ?_
   refine wl_nil ?_
   refine then_n (hK6 _ _ ?_); clear hK6 K6
   refine wp_seq_k ?_; intro K7 hK7
   refine wlit ?_
   refine wl_v (x_move (tmS rfl rfl)) ?_
   refine wl_v (x_fa 3 Tryd.underlying32 rfl rfl ts_30 (tmP rfl rfl)) ?_
   first
    | refine wl_v (x_load Tryd.underlying30 rfl (tmP rfl rfl) (cellB hS.ok 1 rfl rfl)) ?_
    | refine wl_v (x_load Tryd.underlying30 rfl (tmP rfl rfl) (cellB hS.ok 1 rfl (getm (by omega)))) ?_
   first
    | refine wl_v (x_convN Tryd.underlying30 Tryd.underlying24 (tmI rfl rfl) (fit_u64 (by omega))) ?_
    | refine wl_v (x_convU Tryd.underlying30 Tryd.underlying24 (tmI rfl rfl) rfl) ?_
    | refine wl_v (x_conv Tryd.underlying30 Tryd.underlying24 (tmI rfl rfl)) ?_
   refine wl_e rfl ?_; intro K hK
   refine ow_call Tryd.func61 rfl rfl (evs_cons (tmS rfl rfl) <| evs_cons (tmI rfl rfl) <| evs_cons (ev_cN 4) <| evs_nil) (put_c _ _ _ _ _ _ _ (viewR hS.ok 0 rfl) (by simp [be_length]) (by omega) (by omega) (by omega)) ?_
   rintro e w ⟨g2, rfl, hn, hk⟩
   refine ⟨_, rfl, ?_⟩
   replace hS := (hS.add hk hn).pick [0, 2, 3, 4] rfl rfl --ents rowb,g0_0,vl,vo
   clear hn hk
   try replace hS := St.nm (M' := [.row _ _ _ _ _, .blk _ _ [_, _, _, _, _, _, _, _, _, _], .vw _ _, .vw _ _]) hS rfl
   refine hK _ _ ?_; clear hK K
   refine wl_v (x_assign (tmS rfl rfl)) ?_
   refine wl_nil ?_
   refine then_n (hK7 _ _ ?_); clear hK7 K7
   refine wp_seq_k ?_; intro K8 hK8
   refine wlit ?_
   refine wl_v (x_move (tmS rfl rfl)) ?_
   refine wl_v (x_loadA (cs := [_, _, _, _, _, _, _, _, _, _]) Tryd.underlying32 rfl ts_32 (tmP rfl rfl) (rangeB hS.ok 1 rfl rfl)) ?_
   refine wl_e rfl ?_; intro K hK
   refine ow_call Tryd.func51 rfl rfl (evs_cons (tmA rfl rfl) <| evs_nil) (tcp_header_c _ _ _ _ _ _ _ _ _ _ _ _ _ _ _ (by omega)) ?_
   rintro e w ⟨rfl, hk⟩
   refine ⟨_, rfl, ?_⟩
   replace hS := hS.kept hk
   clear hk
   refine hK _ _ ?_; clear hK K
   first
    | refine wl_v (x_quoN (tmI rfl rfl) (ev_cN 4) (by omega) (fit_i64 (by omega))) ?_
    | refine wl_v (x_quo (tmI rfl rfl) (ev_cN 4) (by omega)) ?_
   first
    | refine wl_v (x_convN Tryd.underlying3 Tryd.underlying24 (tmI rfl rfl) (fit_u64 (by omega))) ?_
    | refine wl_v (x_convU Tryd.underlying3 Tryd.underlying24 (tmI rfl rfl) rfl) ?_
    | refine wl_v (x_conv Tryd.underlying3 Tryd.underlying24 (tmI rfl rfl)) ?_
   first
    | refine wl_v (x_shlN (tmI rfl rfl) (ev_cN 4) (by decide) (fit_u64 (by omega))) ?_
    | refine wl_v (x_shlN (tmI rfl rfl) (ev_cN 4) (by have : IntKind.bits .u64 = 64 := rfl; omega) (fit_u64 (by omega))) ?_
    | refine wl_v (x_shlU (tmI rfl rfl) (ev_cN 4) rfl) ?_
   refine wl_e rfl ?_; intro K hK
   refine ow_call Tryd.func61 rfl rfl (evs_cons (tmS rfl rfl) <| evs_cons (tmI rfl rfl) <| evs_cons (ev_cN 1) <| evs_nil) (put_c _ _ _ _ _ _ _ (viewR hS.ok 0 rfl) (by simp [be_length]) (by omega) (by omega) (by omega)) ?_
   rintro e w ⟨g2, rfl, hn, hk⟩
   refine ⟨_, rfl, ?_⟩
   replace hS := (hS.add hk hn).pick [0, 2, 3, 4] rfl rfl --ents rowb,g0_0,vl,vo
   clear hn hk
   try replace hS := St.nm (M' := [.row _ _ _ _ _, .blk _ _ [_, _, _, _, _, _, _, _, _, _], .vw _ _, .vw _ _]) hS rfl
   refine hK _ _ ?_; clear hK K
   refine wl_v (x_assign (tmS rfl rfl)) ?_
   refine wl_nil ?_
   refine then_n (hK8 _ _ ?_); clear hK8 K8
   refine wp_seq_k ?_; intro K9 hK9
   refine wlit ?_
   refine wl_v (x_move (tmS rfl rfl)) ?_
   refine wl_v (x_fa 4 Tryd.underlying32 rfl rfl ts_5 (tmP rfl rfl)) ?_
   first
    | refine wl_v (x_load Tryd.underlying5 rfl (tmP rfl rfl) (cellB hS.ok 1 rfl rfl)) ?_
    | refine wl_v (x_load Tryd.underlying5 rfl (tmP rfl rfl) (cellB hS.ok 1 rfl (getm (by omega)))) ?_
   first
    | refine wl_v (x_convN Tryd.underlying5 Tryd.underlying24 (tmI rfl rfl) (fit_u64 (by omega))) ?_
    | refine wl_v (x_convU Tryd.underlying5 Tryd.underlying24 (tmI rfl rfl) rfl) ?_
    | refine wl_v (x_conv Tryd.underlying5 Tryd.underlying24 (tmI rfl rfl)) ?_
   refine wl_e rfl ?_; intro K hK
   refine ow_call Tryd.func61 rfl rfl (evs_cons (tmS rfl rfl) <| evs_cons (tmI rfl rfl) <| evs_cons (ev_cN 1) <| evs_nil) (put_c _ _ _ _ _ _ _ (viewR hS.ok 0 rfl) (by simp [be_length]) (by omega) (by omega) (by omega)) ?_
   rintro e w ⟨g2, rfl, hn, hk⟩
   refine ⟨_, rfl, ?_⟩
   replace hS := (hS.add hk hn).pick [0, 2, 3, 4] rfl rfl --ents rowb,g0_0,vl,vo
   clear hn hk
   try replace hS := St.nm (M' := [.row _ _ _ _ _, .blk _ _ [_, _, _, _, _, _, _, _, _, _], .vw _ _, .vw _ _]) hS rfl
   refine hK _ _ ?_; clear hK K
   refine wl_v (x_assign (tmS rfl rfl)) ?_
   refine wl_nil ?_
   refine then_n (hK9 _ _ ?_); clear hK9 K9
   refine wp_seq_k ?_; intro K10 hK10
   refine wlit ?_
   refine wl_v (x_move (tmS rfl rfl)) ?_
   refine wl_v (x_fa 5 Tryd.underlying32 rfl rfl ts_27 (tmP rfl rfl)) ?_
   first
    | refine wl_v (x_load Tryd.underlying27 rfl (tmP rfl rfl) (cellB hS.ok 1 rfl rfl)) ?_
    | refine wl_v (x_load Tryd.underlying27 rfl (tmP rfl rfl) (cellB hS.ok 1 rfl (getm (by omega)))) ?_
   first
    | refine wl_v (x_convN Tryd.underlying27 Tryd.underlying24 (tmI rfl rfl) (fit_u64 (by omega))) ?_
    | refine wl_v (x_convU Tryd.underlying27 Tryd.underlying24 (tmI rfl rfl) rfl) ?_
    | refine wl_v (x_conv Tryd.underlying27 Tryd.underlying24 (tmI rfl rfl)) ?_
   refine wl_e rfl ?_; intro K hK
   refine ow_call Tryd.func61 rfl rfl (evs_cons (tmS rfl rfl) <| evs_cons (tmI rfl rfl) <| evs_cons (ev_cN 2) <| evs_nil) (put_c _ _ _ _ _ _ _ (viewR hS.ok 0 rfl) (by simp [be_length]) (by omega) (by omega) (by omega)) ?_
   rintro e w ⟨g2, rfl, hn, hk⟩
   refine ⟨_, rfl, ?_⟩
   replace hS := (hS.add hk hn).pick [0, 2, 3, 4] rfl rfl --ents rowb,g0_0,vl,vo
   clear hn hk
   try replace hS := St.nm (M' := [.row _ _ _ _ _, .blk _ _ [_, _, _, _, _, _, _, _, _, _], .vw _ _, .vw _ _]) hS rfl
   refine hK _ _ ?_; clear hK K
   refine wl_v (x_assign (tmS rfl rfl)) ?_
   refine wl_nil ?_
   refine then_n (hK10 _ _ ?_); clear hK10 K10
   refine wp_seq_k ?_; intro K11 hK11
   refine wlit ?_
   refine wl_v (x_move (tmS rfl rfl)) ?_
   refine wl_v (x_fa 6 Tryd.underlying32 rfl rfl ts_27 (tmP rfl rfl)) ?_
   first
    | refine wl_v (x_load Tryd.underlying27 rfl (tmP rfl rfl) (cellB hS.ok 1 rfl rfl)) ?_
    | refine wl_v (x_load Tryd.underlying27 rfl (tmP rfl rfl) (cellB hS.ok 1 rfl (getm (by omega)))) ?_
   first
    | refine wl_v (x_convN Tryd.underlying27 Tryd.underlying24 (tmI rfl rfl) (fit_u64 (by omega))) ?_
    | refine wl_v (x_convU Tryd.underlying27 Tryd.underlying24 (tmI rfl rfl) rfl) ?_
    | refine wl_v (x_conv Tryd.underlying27 Tryd.underlying24 (tmI rfl rfl)) ?_
   refine wl_e rfl ?_; intro K hK
   refine ow_call Tryd.func61 rfl rfl (evs_cons (tmS rfl rfl) <| evs_cons (tmI rfl rfl) <| evs_cons (ev_cN 2) <| evs_nil) (put_c _ _ _ _ _ _ _ (viewR hS.ok 0 rfl) (by simp [be_length]) (by omega) (by omega) (by omega)) ?_
   rintro e w ⟨g2, rfl, hn, hk⟩
   refine ⟨_, rfl, ?_⟩
   replace hS := (hS.add hk hn).pick [0, 2, 3, 4] rfl rfl --ents rowb,g0_0,vl,vo
   clear hn hk
   try replace hS := St.nm (M' := [.row _ _ _ _ _, .blk _ _ [_, _, _, _, _, _, _, _, _, _], .vw _ _, .vw _ _]) hS rfl
   refine hK _ _ ?_; clear hK K
   refine wl_v (x_assign (tmS rfl rfl)) ?_
   refine wl_nil ?_
   refine then_n (hK11 _ _ ?_); clear hK11 K11
   refine wp_seq_k ?_; intro K12 hK12
   refine wlit ?_
   refine wl_v (x_move (tmS rfl rfl)) ?_
   refine wl_v (x_fa 7 Tryd.underlying32 rfl rfl ts_27 (tmP rfl rfl)) ?_
   first
    | refine wl_v (x_load Tryd.underlying27 rfl (tmP rfl rfl) (cellB hS.ok 1 rfl rfl)) ?_
    | refine wl_v (x_load Tryd.underlying27 rfl (tmP rfl rfl) (cellB hS.ok 1 rfl (getm (by omega)))) ?_
   first
    | refine wl_v (x_convN Tryd.underlying27 Tryd.underlying24 (tmI rfl rfl) (fit_u64 (by omega))) ?_
    | refine wl_v (x_convU Tryd.underlying27 Tryd.underlying24 (tmI rfl rfl) rfl) ?_
    | refine wl_v (x_conv Tryd.underlying27 Tryd.underlying24 (tmI rfl rfl)) ?_
   refine wl_e rfl ?_; intro K hK
   refine ow_call Tryd.func61 rfl rfl (evs_cons (tmS rfl rfl) <| evs_cons (tmI rfl rfl) <| evs_cons (ev_cN 2) <| evs_nil) (put_c _ _ _ _ _ _ _ (viewR hS.ok 0 rfl) (by simp [be_length]) (by omega) (by omega) (by omega)) ?_
   rintro e w ⟨g2, rfl, hn, hk⟩
   refine ⟨_, rfl, ?_⟩
   replace hS := (hS.add hk hn).pick [0, 2, 3, 4] rfl rfl --ents rowb,g0_0,vl,vo
   clear hn hk
   try replace hS := St.nm (M' := [.row _ _ _ _ _, .blk _ _ [_, _, _, _, _, _, _, _, _, _], .vw _ _, .vw _ _]) hS rfl
   refine hK _ _ ?_; clear hK K
   refine wl_v (x_assign (tmS rfl rfl)) ?_
   refine wl_nil ?_
   refine then_n (hK12 _ _ ?_); clear hK12 K12
   refine wp_seq_k ?_; intro K13 hK13
   refine wlit ?_
   refine wl_v (x_move (tmS rfl rfl)) ?_
   refine wl_v (x_fa 8 Tryd.underlying32 rfl rfl ts_22 (tmP rfl rfl)) ?_
   first
    | refine wl_v (x_load Tryd.underlying22 rfl (tmP rfl rfl) (cellB hS.ok 1 rfl rfl)) ?_
    | refine wl_v (x_load Tryd.underlying22 rfl (tmP rfl rfl) (cellB hS.ok 1 rfl (getm (by omega)))) ?_
   refine wl_e rfl ?_; intro K hK
   first
    | (refine ow_append hS 0 1 rfl rfl Tryd.underlying22 tz_5 rfl (tmS rfl rfl) (tmS rfl rfl) rfl ⟨by decide, by decide, rfl⟩ (by simp only [maxLen]; omega) (by omega) ?_; clear hS; intro g12_3 cg12_3 w hS)
    | (refine ow_append hS 0 2 rfl rfl Tryd.underlying22 tz_5 rfl (tmS rfl rfl) (tmS rfl rfl) rfl ⟨by decide, by decide, rfl⟩ (by simp only [maxLen]; omega) (by omega) ?_; clear hS; intro g12_3 cg12_3 w hS)
    | (refine ow_append hS 0 3 rfl rfl Tryd.underlying22 tz_5 rfl (tmS rfl rfl) (tmS rfl rfl) rfl ⟨by decide, by decide, rfl⟩ (by simp only [maxLen]; omega) (by omega) ?_; clear hS; intro g12_3 cg12_3 w hS)
    | (refine ow_appendV hS 0 rfl (viewR hS.ok 0 rfl) Tryd.underlying22 tz_5 rfl (tmS rfl rfl) (tmS rfl rfl) (by first | exact u8v_one _ | (intro u hu; simp at hu; first | (rcases hu with rfl | rfl <;> rfl) | (obtain ⟨_, _, rfl⟩ := hu; rfl))) ⟨by decide, by first | rfl | (simp; done) | (simp; omega)⟩ (by simp only [maxLen]; omega) (by omega) ?_; clear hS; intro g12_3 cg12_3 w hAg12_3 hCg12_3 hS)
    | (refine ow_appendV hS 0 rfl (viewV hS.ok 2 rfl) Tryd.underlying22 tz_5 rfl (tmS rfl rfl) (tmS rfl rfl) (by first | exact u8v_one _ | (intro u hu; simp at hu; first | (rcases hu with rfl | rfl <;> rfl) | (obtain ⟨_, _, rfl⟩ := hu; rfl))) ⟨by decide, by first | rfl | (simp; done) | (simp; omega)⟩ (by simp only [maxLen]; omega) (by omega) ?_; clear hS; intro g12_3 cg12_3 w hAg12_3 hCg12_3 hS)
    | (refine ow_appendV hS 0 rfl (viewV hS.ok 3 rfl) Tryd.underlying22 tz_5 rfl (tmS rfl rfl) (tmS rfl rfl) (by first | exact u8v_one _ | (intro u hu; simp at hu; first | (rcases hu with rfl | rfl <;> rfl) | (obtain ⟨_, _, rfl⟩ := hu; rfl))) ⟨by decide, by first | rfl | (simp; done) | (simp; omega)⟩ (by simp only [maxLen]; omega) (by omega) ?_; clear hS; intro g12_3 cg12_3 w hAg12_3 hCg12_3 hS)
    | (refine ow_appendV hS 0 rfl View.nil_ Tryd.underlying22 tz_5 rfl (tmS rfl rfl) (tmS rfl rfl) (by first | exact u8v_one _ | (intro u hu; simp at hu; first | (rcases hu with rfl | rfl <;> rfl) | (obtain ⟨_, _, rfl⟩ := hu; rfl))) ⟨by decide, by first | rfl | (simp; done) | (simp; omega)⟩ (by simp only [maxLen]; omega) (by omega) ?_; clear hS; intro g12_3 cg12_3 w hAg12_3 hCg12_3 hS)
   refine hK _ _ ?_; clear hK K
   refine wl_v (x_assign (tmS rfl rfl)) ?_
   refine wl_nil ?_
   rw [← List.map_append] at hS
   refine then_n (hK13 _ _ ?_); clear hK13 K13
   refine wp_seq_k ?_; intro K14 hK14
   refine wlit ?_
   refine wl_v (x_move (tmS rfl rfl)) ?_
   refine wl_v (x_fa 9 Tryd.underlying32 rfl rfl ts_22 (tmP rfl rfl)) ?_
   first
    | refine wl_v (x_load Tryd.underlying22 rfl (tmP rfl rfl) (cellB hS.ok 1 rfl rfl)) ?_
    | refine wl_v (x_load Tryd.underlying22 rfl (tmP rfl rfl) (cellB hS.ok 1 rfl (getm (by omega)))) ?_
   refine wl_e rfl ?_; intro K hK
   first
    | (refine ow_append hS 0 1 rfl rfl Tryd.underlying22 tz_5 rfl (tmS rfl rfl) (tmS rfl rfl) rfl ⟨by decide, by decide, rfl⟩ (by simp only [maxLen]; omega) (by omega) ?_; clear hS; intro g13_3 cg13_3 w hS)
    | (refine ow_append hS 0 2 rfl rfl Tryd.underlying22 tz_5 rfl (tmS rfl rfl) (tmS rfl rfl) rfl ⟨by decide, by decide, rfl⟩ (by simp only [maxLen]; omega) (by omega) ?_; clear hS; intro g13_3 cg13_3 w hS)
    | (refine ow_append hS 0 3 rfl rfl Tryd.underlying22 tz_5 rfl (tmS rfl rfl) (tmS rfl rfl) rfl ⟨by decide, by decide, rfl⟩ (by simp only [maxLen]; omega) (by omega) ?_; clear hS; intro g13_3 cg13_3 w hS)
    | (refine ow_appendV hS 0 rfl (viewR hS.ok 0 rfl) Tryd.underlying22 tz_5 rfl (tmS rfl rfl) (tmS rfl rfl) (by first | exact u8v_one _ | (intro u hu; simp at hu; first | (rcases hu with rfl | rfl <;> rfl) | (obtain ⟨_, _, rfl⟩ := hu; rfl))) ⟨by decide, by first | rfl | (simp; done) | (simp; omega)⟩ (by simp only [maxLen]; omega) (by omega) ?_; clear hS; intro g13_3 cg13_3 w hAg13_3 hCg13_3 hS)
    | (refine ow_appendV hS 0 rfl (viewV hS.ok 2 rfl) Tryd.underlying22 tz_5 rfl (tmS rfl rfl) (tmS rfl rfl) (by first | exact u8v_one _ | (intro u hu; simp at hu; first | (rcases hu with rfl | rfl <;> rfl) | (obtain ⟨_, _, rfl⟩ := hu; rfl))) ⟨by decide, by first | rfl | (simp; done) | (simp; omega)⟩ (by simp only [maxLen]; omega) (by omega) ?_; clear hS; intro g13_3 cg13_3 w hAg13_3 hCg13_3 hS)
    | (refine ow_appendV hS 0 rfl (viewV hS.ok 3 rfl) Tryd.underlying22 tz_5 rfl (tmS rfl rfl) (tmS rfl rfl) (by first | exact u8v_one _ | (intro u hu; simp at hu; first | (rcases hu with rfl | rfl <;> rfl) | (obtain ⟨_, _, rfl⟩ := hu; rfl))) ⟨by decide, by first | rfl | (simp; done) | (simp; omega)⟩ (by simp only [maxLen]; omega) (by omega) ?_; clear hS; intro g13_3 cg13_3 w hAg13_3 hCg13_3 hS)
    | (refine ow_appendV hS 0 rfl View.nil_ Tryd.underlying22 tz_5 rfl (tmS rfl rfl) (tmS rfl rfl) (by first | exact u8v_one _ | (intro u hu; simp at hu; first | (rcases hu with rfl | rfl <;> rfl) | (obtain ⟨_, _, rfl⟩ := hu; rfl))) ⟨by decide, by first | rfl | (simp; done) | (simp; omega)⟩ (by simp only [maxLen]; omega) (by omega) ?_; clear hS; intro g13_3 cg13_3 w hAg13_3 hCg13_3 hS)
   refine hK _ _ ?_; clear hK K
   refine wl_v (x_assign (tmS rfl rfl)) ?_
   refine wl_nil ?_
   rw [← List.map_append] at hS
   refine then_n (hK14 _ _ ?_); clear hK14 K14
   refine wp_ret ?_
   refine ret1 rfl (.tmp rfl (show _ = Value.slice _ _ _ from rfl)) ?_
   exact ⟨_, _, _, by omega, rfl, hS.new 0 rfl rfl, hS.kp⟩

set_option maxRecDepth 100000 in
set_option maxHeartbeats 8000000 in
theorem rtcp_bytes_c (a1 a2 a3 a4 a5 a6 a7 a8 : Nat) (O : Option Addr) (c : Nat) (L : Option Addr) (d : Nat) (o x : List Nat) (w0 : World) (h1 : View w0 w0.heap.size O (o.map u8v)) (h2 : View w0 w0.heap.size L (x.map u8v))
    (q1 : a1 < 65536) (q2 : a2 < 65536) (q3 : a3 < 4294967296) (q4 : a4 < 4294967296) (q5 : a5 < 256) (q6 : a6 < 65536) (q7 : a7 < 65536) (q8 : a8 < 65536) (hr : segRight o.length x.length) :
    Calls Tryd.prog 37 #[.agg (segV a1 a2 a3 a4 a5 a6 a7 a8 O o.length c L x.length d).toArray] w0 fun e w' => ∃ A' n c', n = 20 + o.length + x.length ∧ e = .returned (.slice A' n c') ∧ New w0 w' (.row (.slice A' n c') 5 1 n ((segB a1 a2 a3 a4 a5 a6 a7 a8 o x).map u8v)) ∧ Kp [] w0 w' := by
  have hS := ((St.sv w0).vcons rfl h1).vcons rfl h2
  have hr1 := hr.1
  have hr2 := hr.2.1
  have hr3 := hr.2.2
  have hjo : ∀ (G1 G2 G3 G4 G5 G6 G7 G8 : Option Addr) (j1 j2 j3 j4 j5 j6 j7 j8 : Nat), joined [(G1, be a1 2, j1), (G2, be a2 2, j2), (G3, be a3 4, j3), (G4, be a4 4, j4), (G5, [80 + o.length / 4 * 16, a5], j5), (G6, be a6 2, j6), (G7, be a7 2, j7), (G8, be a8 2, j8), (O, o, c), (L, x, d)] = segB a1 a2 a3 a4 a5 a6 a7 a8 o x := by
    intro G1 G2 G3 G4 G5 G6 G7 G8 j1 j2 j3 j4 j5 j6 j7 j8
    have e1 : be ((20 + o.length) / 4 * 2 ^ 4) 1 = [80 + o.length / 4 * 16] := by rw [be_one]; congr 1; omega
    have e2 : be a5 1 = [a5] := by rw [be_one]; congr 1; omega
    simp only [joined, segB, e1, e2, List.map_cons, List.map_nil, List.flatten_cons, List.flatten_nil, List.append_nil, List.nil_append, List.append_assoc, List.cons_append]
  have hjl : (segB a1 a2 a3 a4 a5 a6 a7 a8 o x).length = 20 + o.length + x.length := by simp [segB, be_length]; omega
  refine ent (n := 47) Tryd.func37 rfl rfl ?_
  refine wp_seq_k ?_; intro K1 hK1
  refine wlit ?_
  refine wl_e rfl ?_; intro K hK
  refine ow_box hS (tmA rfl rfl) rfl ?_
  clear hS; intro g0_0 w hg0_0 hS
  refine hK _ _ ?_; clear hK K
  refine wl_v (x_assign ev_c) ?_
  refine wl_nil ?_
  refine then_n (hK1 _ _ ?_); clear hK1 K1
  refine wp_seq_k ?_; intro K2 hK2
  refine rg_startk 0 hS mixed_ ?_
  clear hS; intro w hS
  refine rg_take 0 rfl rfl (by kernel_rfl) (by kernel_rfl) (by kernel_rfl) (want_0) (fun w hok => x_fa 0 Tryd.underlying42 rfl rfl ts_27 (tmP rfl rfl)) ?_
  first
   | refine rg_take 1 rfl rfl (by kernel_rfl) (by kernel_rfl) (by kernel_rfl) (want_0) (fun w hok => x_load Tryd.underlying27 rfl (tmP rfl rfl) (cellB hok 0 rfl rfl)) ?_
   | refine rg_take 1 rfl rfl (by kernel_rfl) (by kernel_rfl) (by kernel_rfl) (want_0) (fun w hok => x_load Tryd.underlying27 rfl (tmP rfl rfl) (cellB hok 0 rfl (getm (by omega)))) ?_
  first
   | refine rg_take 2 rfl rfl (by kernel_rfl) (by kernel_rfl) (by kernel_rfl) (want_0) (fun w hok => x_convN Tryd.underlying27 Tryd.underlying24 (tmI rfl rfl) (fit_u64 (by omega))) ?_
   | refine rg_take 2 rfl rfl (by kernel_rfl) (by kernel_rfl) (by kernel_rfl) (want_0) (fun w hok => x_convU Tryd.underlying27 Tryd.underlying24 (tmI rfl rfl) rfl) ?_
   | refine rg_take 2 rfl rfl (by kernel_rfl) (by kernel_rfl) (by kernel_rfl) (want_0) (fun w hok => x_conv Tryd.underlying27 Tryd.underlying24 (tmI rfl rfl)) ?_
  refine rg_take 4 rfl rfl (by kernel_rfl) (by kernel_rfl) (by kernel_rfl) (want_0) (fun w hok => x_fa 1 Tryd.underlying42 rfl rfl ts_27 (tmP rfl rfl)) ?_
  first
   | refine rg_take 5 rfl rfl (by kernel_rfl) (by kernel_rfl) (by kernel_rfl) (want_0) (fun w hok => x_load Tryd.underlying27 rfl (tmP rfl rfl) (cellB hok 0 rfl rfl)) ?_
   | refine rg_take 5 rfl rfl (by kernel_rfl) (by kernel_rfl) (by kernel_rfl) (want_0) (fun w hok => x_load Tryd.underlying27 rfl (tmP rfl rfl) (cellB hok 0 rfl (getm (by omega)))) ?_
  first
   | refine rg_take 6 rfl rfl (by kernel_rfl) (by kernel_rfl) (by kernel_rfl) (want_0) (fun w hok => x_convN Tryd.underlying27 Tryd.underlying24 (tmI rfl rfl) (fit_u64 (by omega))) ?_
   | refine rg_take 6 rfl rfl (by kernel_rfl) (by kernel_rfl) (by kernel_rfl) (want_0) (fun w hok => x_convU Tryd.underlying27 Tryd.underlying24 (tmI rfl rfl) rfl) ?_
   | refine rg_take 6 rfl rfl (by kernel_rfl) (by kernel_rfl) (by kernel_rfl) (want_0) (fun w hok => x_conv Tryd.underlying27 Tryd.underlying24 (tmI rfl rfl)) ?_
  refine rg_take 8 rfl rfl (by kernel_rfl) (by kernel_rfl) (by kernel_rfl) (want_0) (fun w hok => x_fa 2 Tryd.underlying42 rfl rfl ts_30 (tmP rfl rfl)) ?_
  first
   | refine rg_take 9 rfl rfl (by kernel_rfl) (by kernel_rfl) (by kernel_rfl) (want_0) (fun w hok => x_load Tryd.underlying30 rfl (tmP rfl rfl) (cellB hok 0 rfl rfl)) ?_
   | refine rg_take 9 rfl rfl (by kernel_rfl) (by kernel_rfl) (by kernel_rfl) (want_0) (fun w hok => x_load Tryd.underlying30 rfl (tmP rfl rfl) (cellB hok 0 rfl (getm (by omega)))) ?_
  first
   | refine rg_take 10 rfl rfl (by kernel_rfl) (by kernel_rfl) (by kernel_rfl) (want_0) (fun w hok => x_convN Tryd.underlying30 Tryd.underlying24 (tmI rfl rfl) (fit_u64 (by omega))) ?_
   | refine rg_take 10 rfl rfl (by kernel_rfl) (by kernel_rfl) (by kernel_rfl) (want_0) (fun w hok => x_convU Tryd.underlying30 Tryd.underlying24 (tmI rfl rfl) rfl) ?_
   | refine rg_take 10 rfl rfl (by kernel_rfl) (by kernel_rfl) (by kernel_rfl) (want_0) (fun w hok => x_conv Tryd.underlying30 Tryd.underlying24 (tmI rfl rfl)) ?_
  refine rg_take 12 rfl rfl (by kernel_rfl) (by kernel_rfl) (by kernel_rfl) (want_0) (fun w hok => x_fa 3 Tryd.underlying42 rfl rfl ts_30 (tmP rfl rfl)) ?_
  first
   | refine rg_take 13 rfl rfl (by kernel_rfl) (by kernel_rfl) (by kernel_rfl) (want_0) (fun w hok => x_load Tryd.underlying30 rfl (tmP rfl rfl) (cellB hok 0 rfl rfl)) ?_
   | refine rg_take 13 rfl rfl (by kernel_rfl) (by kernel_rfl) (by kernel_rfl) (want_0) (fun w hok => x_load Tryd.underlying30 rfl (tmP rfl rfl) (cellB hok 0 rfl (getm (by omega)))) ?_
  first
   | refine rg_take 14 rfl rfl (by kernel_rfl) (by kernel_rfl) (by kernel_rfl) (want_0) (fun w hok => x_convN Tryd.underlying30 Tryd.underlying24 (tmI rfl rfl) (fit_u64 (by omega))) ?_
   | refine rg_take 14 rfl rfl (by kernel_rfl) (by kernel_rfl) (by kernel_rfl) (want_0) (fun w hok => x_convU Tryd.underlying30 Tryd.underlying24 (tmI rfl rfl) rfl) ?_
   | refine rg_take 14 rfl rfl (by kernel_rfl) (by kernel_rfl) (by kernel_rfl) (want_0) (fun w hok => x_conv Tryd.underlying30 Tryd.underlying24 (tmI rfl rfl)) ?_
  refine rg_take 16 rfl rfl (by kernel_rfl) (by kernel_rfl) (by kernel_rfl) (want_0) (fun w hok => x_fa 8 Tryd.underlying42 rfl rfl ts_22 (tmP rfl rfl)) ?_
  first
   | refine rg_take 17 rfl rfl (by kernel_rfl) (by kernel_rfl) (by kernel_rfl) (want_0) (fun w hok => x_load Tryd.underlying22 rfl (tmP rfl rfl) (cellB hok 0 rfl rfl)) ?_
   | refine rg_take 17 rfl rfl (by kernel_rfl) (by kernel_rfl) (by kernel_rfl) (want_0) (fun w hok => x_load Tryd.underlying22 rfl (tmP rfl rfl) (cellB hok 0 rfl (getm (by omega)))) ?_
  refine rg_take 18 rfl rfl (by kernel_rfl) (by kernel_rfl) (by kernel_rfl) (want_0) (fun w hok => x_len Tryd.underlying22 (tmS rfl rfl)) ?_
  first
   | refine rg_take 19 rfl rfl (by kernel_rfl) (by kernel_rfl) (by kernel_rfl) (want_0) (fun w hok => x_quoN (tmI rfl rfl) (ev_cN 4) (by omega) (fit_i64 (by omega))) ?_
   | refine rg_take 19 rfl rfl (by kernel_rfl) (by kernel_rfl) (by kernel_rfl) (want_0) (fun w hok => x_quo (tmI rfl rfl) (ev_cN 4) (by omega)) ?_
  first
   | refine rg_take 20 rfl rfl (by kernel_rfl) (by kernel_rfl) (by kernel_rfl) (want_0) (fun w hok => x_mulN (tmI rfl rfl) (ev_cN 16) (fit_i64 (by omega))) ?_
   | refine rg_take 20 rfl rfl (by kernel_rfl) (by kernel_rfl) (by kernel_rfl) (want_0) (fun w hok => x_mulI (tmI rfl rfl) (ev_cN 16) (IntWalk.i64_in _ (by omega))) ?_
   | refine rg_take 20 rfl rfl (by kernel_rfl) (by kernel_rfl) (by kernel_rfl) (want_0) (fun w hok => x_mul (tmI rfl rfl) (ev_cN 16)) ?_
  first
   | refine rg_take 21 rfl rfl (by kernel_rfl) (by kernel_rfl) (by kernel_rfl) (want_0) (fun w hok => x_addN (ev_cN 80) (tmI rfl rfl) (fit_i64 (by omega))) ?_
   | refine rg_take 21 rfl rfl (by kernel_rfl) (by kernel_rfl) (by kernel_rfl) (want_0) (fun w hok => x_addI (ev_cN 80) (tmI rfl rfl) (IntWalk.i64_in _ (by omega))) ?_
   | refine rg_take 21 rfl rfl (by kernel_rfl) (by kernel_rfl) (by kernel_rfl) (want_0) (fun w hok => x_add (ev_cN 80) (tmI rfl rfl)) ?_
  first
   | refine rg_take 22 rfl rfl (by kernel_rfl) (by kernel_rfl) (by kernel_rfl) (want_0) (fun w hok => x_convN Tryd.underlying3 Tryd.underlying5 (tmI rfl rfl) (fit_u8 (by omega))) ?_
   | refine rg_take 22 rfl rfl (by kernel_rfl) (by kernel_rfl) (by kernel_rfl) (want_0) (fun w hok => x_convU Tryd.underlying3 Tryd.underlying5 (tmI rfl rfl) rfl) ?_
   | refine rg_take 22 rfl rfl (by kernel_rfl) (by kernel_rfl) (by kernel_rfl) (want_0) (fun w hok => x_conv Tryd.underlying3 Tryd.underlying5 (tmI rfl rfl)) ?_
  refine rg_take 23 rfl rfl (by kernel_rfl) (by kernel_rfl) (by kernel_rfl) (want_0) (fun w hok => x_fa 4 Tryd.underlying42 rfl rfl ts_5 (tmP rfl rfl)) ?_
  first
   | refine rg_take 24 rfl rfl (by kernel_rfl) (by kernel_rfl) (by kernel_rfl) (want_0) (fun w hok => x_load Tryd.underlying5 rfl (tmP rfl rfl) (cellB hok 0 rfl rfl)) ?_
   | refine rg_take 24 rfl rfl (by kernel_rfl) (by kernel_rfl) (by kernel_rfl) (want_0) (fun w hok => x_load Tryd.underlying5 rfl (tmP rfl rfl) (cellB hok 0 rfl (getm (by omega)))) ?_
  refine rg_take 26 rfl rfl (by kernel_rfl) (by kernel_rfl) (by kernel_rfl) (want_0) (fun w hok => x_fa 5 Tryd.underlying42 rfl rfl ts_27 (tmP rfl rfl)) ?_
  first
   | refine rg_take 27 rfl rfl (by kernel_rfl) (by kernel_rfl) (by kernel_rfl) (want_0) (fun w hok => x_load Tryd.underlying27 rfl (tmP rfl rfl) (cellB hok 0 rfl rfl)) ?_
   | refine rg_take 27 rfl rfl (by kernel_rfl) (by kernel_rfl) (by kernel_rfl) (want_0) (fun w hok => x_load Tryd.underlying27 rfl (tmP rfl rfl) (cellB hok 0 rfl (getm (by omega)))) ?_
  first
   | refine rg_take 28 rfl rfl (by kernel_rfl) (by kernel_rfl) (by kernel_rfl) (want_0) (fun w hok => x_convN Tryd.underlying27 Tryd.underlying24 (tmI rfl rfl) (fit_u64 (by omega))) ?_
   | refine rg_take 28 rfl rfl (by kernel_rfl) (by kernel_rfl) (by kernel_rfl) (want_0) (fun w hok => x_convU Tryd.underlying27 Tryd.underlying24 (tmI rfl rfl) rfl) ?_
   | refine rg_take 28 rfl rfl (by kernel_rfl) (by kernel_rfl) (by kernel_rfl) (want_0) (fun w hok => x_conv Tryd.underlying27 Tryd.underlying24 (tmI rfl rfl)) ?_
  refine rg_take 30 rfl rfl (by kernel_rfl) (by kernel_rfl) (by kernel_rfl) (want_0) (fun w hok => x_fa 6 Tryd.underlying42 rfl rfl ts_27 (tmP rfl rfl)) ?_
  first
   | refine rg_take 31 rfl rfl (by kernel_rfl) (by kernel_rfl) (by kernel_rfl) (want_0) (fun w hok => x_load Tryd.underlying27 rfl (tmP rfl rfl) (cellB hok 0 rfl rfl)) ?_
   | refine rg_take 31 rfl rfl (by kernel_rfl) (by kernel_rfl) (by kernel_rfl) (want_0) (fun w hok => x_load Tryd.underlying27 rfl (tmP rfl rfl) (cellB hok 0 rfl (getm (by omega)))) ?_
  first
   | refine rg_take 32 rfl rfl (by kernel_rfl) (by kernel_rfl) (by kernel_rfl) (want_0) (fun w hok => x_convN Tryd.underlying27 Tryd.underlying24 (tmI rfl rfl) (fit_u64 (by omega))) ?_
   | refine rg_take 32 rfl rfl (by kernel_rfl) (by kernel_rfl) (by kernel_rfl) (want_0) (fun w hok => x_convU Tryd.underlying27 Tryd.underlying24 (tmI rfl rfl) rfl) ?_
   | refine rg_take 32 rfl rfl (by kernel_rfl) (by kernel_rfl) (by kernel_rfl) (want_0) (fun w hok => x_conv Tryd.underlying27 Tryd.underlying24 (tmI rfl rfl)) ?_
  refine rg_take 34 rfl rfl (by kernel_rfl) (by kernel_rfl) (by kernel_rfl) (want_0) (fun w hok => x_fa 7 Tryd.underlying42 rfl rfl ts_27 (tmP rfl rfl)) ?_
  first
   | refine rg_take 35 rfl rfl (by kernel_rfl) (by kernel_rfl) (by kernel_rfl) (want_0) (fun w hok => x_load Tryd.underlying27 rfl (tmP rfl rfl) (cellB hok 0 rfl rfl)) ?_
   | refine rg_take 35 rfl rfl (by kernel_rfl) (by kernel_rfl) (by kernel_rfl) (want_0) (fun w hok => x_load Tryd.underlying27 rfl (tmP rfl rfl) (cellB hok 0 rfl (getm (by omega)))) ?_
  first
   | refine rg_take 36 rfl rfl (by kernel_rfl) (by kernel_rfl) (by kernel_rfl) (want_0) (fun w hok => x_convN Tryd.underlying27 Tryd.underlying24 (tmI rfl rfl) (fit_u64 (by omega))) ?_
   | refine rg_take 36 rfl rfl (by kernel_rfl) (by kernel_rfl) (by kernel_rfl) (want_0) (fun w hok => x_convU Tryd.underlying27 Tryd.underlying24 (tmI rfl rfl) rfl) ?_
   | refine rg_take 36 rfl rfl (by kernel_rfl) (by kernel_rfl) (by kernel_rfl) (want_0) (fun w hok => x_conv Tryd.underlying27 Tryd.underlying24 (tmI rfl rfl)) ?_
  refine rg_take 38 rfl rfl (by kernel_rfl) (by kernel_rfl) (by kernel_rfl) (want_0) (fun w hok => x_fa 8 Tryd.underlying42 rfl rfl ts_22 (tmP rfl rfl)) ?_
  first
   | refine rg_take 39 rfl rfl (by kernel_rfl) (by kernel_rfl) (by kernel_rfl) (want_0) (fun w hok => x_load Tryd.underlying22 rfl (tmP rfl rfl) (cellB hok 0 rfl rfl)) ?_
   | refine rg_take 39 rfl rfl (by kernel_rfl) (by kernel_rfl) (by kernel_rfl) (want_0) (fun w hok => x_load Tryd.underlying22 rfl (tmP rfl rfl) (cellB hok 0 rfl (getm (by omega)))) ?_
  refine rg_take 40 rfl rfl (by kernel_rfl) (by kernel_rfl) (by kernel_rfl) (want_0) (fun w hok => x_fa 9 Tryd.underlying42 rfl rfl ts_22 (tmP rfl rfl)) ?_
  first
   | refine rg_take 41 rfl rfl (by kernel_rfl) (by kernel_rfl) (by kernel_rfl) (want_0) (fun w hok => x_load Tryd.underlying22 rfl (tmP rfl rfl) (cellB hok 0 rfl rfl)) ?_
   | refine rg_take 41 rfl rfl (by kernel_rfl) (by kernel_rfl) (by kernel_rfl) (want_0) (fun w hok => x_load Tryd.underlying22 rfl (tmP rfl rfl) (cellB hok 0 rfl (getm (by omega)))) ?_
  refine rg_step2 3 25 rfl rfl (by kernel_rfl) (want_0) (want_0) (oks_drop hS 0 rfl) ?_ ?_
  · intro K hK
    refine ow_call Tryd.func66 rfl rfl (evs_cons (tmI rfl rfl) <| evs_cons (ev_cN 2) <| evs_nil) (rbytes_c a1 2 _ (by omega) (by omega)) ?_
    rintro e w ⟨ga, rfl, hn, hk⟩
    refine ⟨_, rfl, ?_⟩
    replace hS := hS.add hk hn -- +rowa
    clear hn hk
    refine hK _ _ ?_; clear hK K
    refine rg_step2 7 25 rfl rfl (by kernel_rfl) (want_0) (want_0) (oks_drop hS 1 rfl) ?_ ?_
    · intro K hK
      refine ow_call Tryd.func66 rfl rfl (evs_cons (tmI rfl rfl) <| evs_cons (ev_cN 2) <| evs_nil) (rbytes_c a2 2 _ (by omega) (by omega)) ?_
      rintro e w ⟨gb, rfl, hn, hk⟩
      refine ⟨_, rfl, ?_⟩
      replace hS := hS.add hk hn -- +rowb
      clear hn hk
      refine hK _ _ ?_; clear hK K
      refine rg_step2 11 25 rfl rfl (by kernel_rfl) (want_0) (want_0) (oks_drop hS 2 rfl) ?_ ?_
      · intro K hK
        refine ow_call Tryd.func66 rfl rfl (evs_cons (tmI rfl rfl) <| evs_cons (ev_cN 4) <| evs_nil) (rbytes_c a3 4 _ (by omega) (by omega)) ?_
        rintro e w ⟨gc, rfl, hn, hk⟩
        refine ⟨_, rfl, ?_⟩
        replace hS := hS.add hk hn -- +rowc
        clear hn hk
        refine hK _ _ ?_; clear hK K
        refine rg_step2 15 25 rfl rfl (by kernel_rfl) (want_0) (want_0) (oks_drop hS 3 rfl) ?_ ?_
        · intro K hK
          refine ow_call Tryd.func66 rfl rfl (evs_cons (tmI rfl rfl) <| evs_cons (ev_cN 4) <| evs_nil) (rbytes_c a4 4 _ (by omega) (by omega)) ?_
          rintro e w ⟨gd, rfl, hn, hk⟩
          refine ⟨_, rfl, ?_⟩
          replace hS := hS.add hk hn -- +rowd
          clear hn hk
          refine hK _ _ ?_; clear hK K
          refine rg_step2 25 29 rfl rfl (by kernel_rfl) (want_0) (want_0) (oks_drop hS 4 rfl) ?_ ?_
          · intro K hK
            refine ow_build hS Tryd.underlying22 tz_5 (bc_take (tmI rfl rfl) <| bc_take (tmI rfl rfl) <| bc_nil) rfl rfl (by kernel_rfl) ?_
            clear hS; intro g1_25 w hg1_25 hS
            refine hK _ _ ?_; clear hK K
            refine rg_step 29 rfl (by kernel_rfl) (want_0) (oks_drop hS 5 rfl) ?_; intro K hK
            refine ow_call Tryd.func66 rfl rfl (evs_cons (tmI rfl rfl) <| evs_cons (ev_cN 2) <| evs_nil) (rbytes_c a6 2 _ (by omega) (by omega)) ?_
            rintro e w ⟨ge, rfl, hn, hk⟩
            refine ⟨_, rfl, ?_⟩
            replace hS := hS.add hk hn -- +rowe
            clear hn hk
            refine hK _ _ ?_; clear hK K
            refine rg_step 33 rfl (by kernel_rfl) (want_0) (oks_drop hS 6 rfl) ?_; intro K hK
            refine ow_call Tryd.func66 rfl rfl (evs_cons (tmI rfl rfl) <| evs_cons (ev_cN 2) <| evs_nil) (rbytes_c a7 2 _ (by omega) (by omega)) ?_
            rintro e w ⟨gf, rfl, hn, hk⟩
            refine ⟨_, rfl, ?_⟩
            replace hS := hS.add hk hn -- +rowf
            clear hn hk
            refine hK _ _ ?_; clear hK K
            refine rg_step 37 rfl (by kernel_rfl) (want_0) (oks_drop hS 7 rfl) ?_; intro K hK
            refine ow_call Tryd.func66 rfl rfl (evs_cons (tmI rfl rfl) <| evs_cons (ev_cN 2) <| evs_nil) (rbytes_c a8 2 _ (by omega) (by omega)) ?_
            rintro e w ⟨gh, rfl, hn, hk⟩
            refine ⟨_, rfl, ?_⟩
            replace hS := hS.add hk hn -- +rowh
            clear hn hk
            refine hK _ _ ?_; clear hK K
            refine rg_step 42 rfl (by kernel_rfl) (want_0) (oks_drop hS 8 rfl) ?_; intro K hK
            refine ow_build hS Tryd.underlying110 tz_22 (bc_take (tmS rfl rfl) <| bc_take (tmS rfl rfl) <| bc_take (tmS rfl rfl) <| bc_take (tmS rfl rfl) <| bc_take (tmS rfl rfl) <| bc_take (tmS rfl rfl) <| bc_take (tmS rfl rfl) <| bc_take (tmS rfl rfl) <| bc_take (tmS rfl rfl) <| bc_take (tmS rfl rfl) <| bc_nil) rfl rfl (by kernel_rfl) ?_
            clear hS; intro g1_42 w hg1_42 hS
            refine hK _ _ ?_; clear hK K
            refine rg_step 43 rfl (by kernel_rfl) (want_0) (oks_drop hS 9 rfl) ?_; intro K hK
            refine ow_call Tryd.func47 rfl rfl (evs_cons (tmS rfl rfl) <| evs_nil) (join_c 10 _ _ [(some ⟨ga, 0, none⟩, be a1 2, 2), (some ⟨gb, 0, none⟩, be a2 2, 2), (some ⟨gc, 0, none⟩, be a3 4, 4), (some ⟨gd, 0, none⟩, be a4 4, 4), (some ⟨g1_25, 0, none⟩, [80 + o.length / 4 * 16, a5], 2), (some ⟨ge, 0, none⟩, be a6 2, 2), (some ⟨gf, 0, none⟩, be a7 2, 2), (some ⟨gh, 0, none⟩, be a8 2, 2), (O, o, c), (L, x, d)] _ (viewB hS.ok 0 rfl) (seen_cons (viewR hS.ok 8 rfl) <| seen_cons (viewR hS.ok 7 rfl) <| seen_cons (viewR hS.ok 6 rfl) <| seen_cons (viewR hS.ok 5 rfl) <| seen_cons (viewB hS.ok 4 rfl) <| seen_cons (viewR hS.ok 3 rfl) <| seen_cons (viewR hS.ok 2 rfl) <| seen_cons (viewR hS.ok 1 rfl) <| seen_cons (viewV hS.ok 11 rfl) <| seen_cons (viewV hS.ok 10 rfl) seen_nil) rfl (by omega) (by rw [hjo, hjl]; omega)) ?_
            rintro e w ⟨A', m', c', hm', rfl, hn, hk⟩
            refine ⟨_, rfl, ?_⟩
            rw [hjo] at hn hm'
            replace hS := hS.add hk hn -- +rowz
            clear hn hk
            refine hK _ _ ?_; clear hK K
            refine rg_take 44 rfl rfl (by kernel_rfl) (by kernel_rfl) (by kernel_rfl) (want_0) (fun w hok => x_assign (tmS rfl rfl)) ?_
            refine rg_done (oks_drop hS 10 rfl) (by kernel_rfl) ?_
            refine then_n (hK2 _ _ ?_); clear hK2 K2
            refine wp_ret ?_
            refine ret1 rfl (.tmp rfl (show _ = Value.slice _ _ _ from rfl)) ?_
            exact ⟨_, _, _, by rw [hm', hjl], rfl, hS.new 0 rfl rfl, hS.kp⟩
          · intro K hK
            refine ow_call Tryd.func66 rfl rfl (evs_cons (tmI rfl rfl) <| evs_cons (ev_cN 2) <| evs_nil) (rbytes_c a6 2 _ (by omega) (by omega)) ?_
            rintro e w ⟨ge, rfl, hn, hk⟩
            refine ⟨_, rfl, ?_⟩
            replace hS := hS.add hk hn -- +rowe
            clear hn hk
            refine hK _ _ ?_; clear hK K
            refine rg_step2 25 33 rfl rfl (by kernel_rfl) (want_0) (want_0) (oks_drop hS 5 rfl) ?_ ?_
            · intro K hK
              refine ow_build hS Tryd.underlying22 tz_5 (bc_take (tmI rfl rfl) <| bc_take (tmI rfl rfl) <| bc_nil) rfl rfl (by kernel_rfl) ?_
              clear hS; intro g1_25 w hg1_25 hS
              refine hK _ _ ?_; clear hK K
              refine rg_step 33 rfl (by kernel_rfl) (want_0) (oks_drop hS 6 rfl) ?_; intro K hK
              refine ow_call Tryd.func66 rfl rfl (evs_cons (tmI rfl rfl) <| evs_cons (ev_cN 2) <| evs_nil) (rbytes_c a7 2 _ (by omega) (by omega)) ?_
              rintro e w ⟨gf, rfl, hn, hk⟩
              refine ⟨_, rfl, ?_⟩
              replace hS := hS.add hk hn -- +rowf
              clear hn hk
              refine hK _ _ ?_; clear hK K
              refine rg_step 37 rfl (by kernel_rfl) (want_0) (oks_drop hS 7 rfl) ?_; intro K hK
              refine ow_call Tryd.func66 rfl rfl (evs_cons (tmI rfl rfl) <| evs_cons (ev_cN 2) <| evs_nil) (rbytes_c a8 2 _ (by omega) (by omega)) ?_
              rintro e w ⟨gh, rfl, hn, hk⟩
              refine ⟨_, rfl, ?_⟩
              replace hS := hS.add hk hn -- +rowh
              clear hn hk
              refine hK _ _ ?_; clear hK K
              refine rg_step 42 rfl (by kernel_rfl) (want_0) (oks_drop hS 8 rfl) ?_; intro K hK
              refine ow_build hS Tryd.underlying110 tz_22 (bc_take (tmS rfl rfl) <| bc_take (tmS rfl rfl) <| bc_take (tmS rfl rfl) <| bc_take (tmS rfl rfl) <| bc_take (tmS rfl rfl) <| bc_take (tmS rfl rfl) <| bc_take (tmS rfl rfl) <| bc_take (tmS rfl rfl) <| bc_take (tmS rfl rfl) <| bc_take (tmS rfl rfl) <| bc_nil) rfl rfl (by kernel_rfl) ?_
              clear hS; intro g1_42 w hg1_42 hS
              refine hK _ _ ?_; clear hK K
              refine rg_step 43 rfl (by kernel_rfl) (want_0) (oks_drop hS 9 rfl) ?_; intro K hK
              refine ow_call Tryd.func47 rfl rfl (evs_cons (tmS rfl rfl) <| evs_nil) (join_c 10 _ _ [(some ⟨ga, 0, none⟩, be a1 2, 2), (some ⟨gb, 0, none⟩, be a2 2, 2), (some ⟨gc, 0, none⟩, be a3 4, 4), (some ⟨gd, 0, none⟩, be a4 4, 4), (some ⟨g1_25, 0, none⟩, [80 + o.length / 4 * 16, a5], 2), (some ⟨ge, 0, none⟩, be a6 2, 2), (some ⟨gf, 0, none⟩, be a7 2, 2), (some ⟨gh, 0, none⟩, be a8 2, 2), (O, o, c), (L, x, d)] _ (viewB hS.ok 0 rfl) (seen_cons (viewR hS.ok 8 rfl) <| seen_cons (viewR hS.ok 7 rfl) <| seen_cons (viewR hS.ok 6 rfl) <| seen_cons (viewR hS.ok 5 rfl) <| seen_cons (viewB hS.ok 3 rfl) <| seen_cons (viewR hS.ok 4 rfl) <| seen_cons (viewR hS.ok 2 rfl) <| seen_cons (viewR hS.ok 1 rfl) <| seen_cons (viewV hS.ok 11 rfl) <| seen_cons (viewV hS.ok 10 rfl) seen_nil) rfl (by omega) (by rw [hjo, hjl]; omega)) ?_
              rintro e w ⟨A', m', c', hm', rfl, hn, hk⟩
              refine ⟨_, rfl, ?_⟩
              rw [hjo] at hn hm'
              replace hS := hS.add hk hn -- +rowz
              clear hn hk
              refine hK _ _ ?_; clear hK K
              refine rg_take 44 rfl rfl (by kernel_rfl) (by kernel_rfl) (by kernel_rfl) (want_0) (fun w hok => x_assign (tmS rfl rfl)) ?_
              refine rg_done (oks_drop hS 10 rfl) (by kernel_rfl) ?_
              refine then_n (hK2 _ _ ?_); clear hK2 K2
              refine wp_ret ?_
              refine ret1 rfl (.tmp rfl (show _ = Value.slice _ _ _ from rfl)) ?_
              exact ⟨_, _, _, by rw [hm', hjl], rfl, hS.new 0 rfl rfl, hS.kp⟩
            · intro K hK
              refine ow_call Tryd.func66 rfl rfl (evs_cons (tmI rfl rfl) <| evs_cons (ev_cN 2) <| evs_nil) (rbytes_c a7 2 _ (by omega) (by omega)) ?_
              rintro e w ⟨gf, rfl, hn, hk⟩
              refine ⟨_, rfl, ?_⟩
              replace hS := hS.add hk hn -- +rowf
              clear hn hk
              refine hK _ _ ?_; clear hK K
              refine rg_step2 25 37 rfl rfl (by kernel_rfl) (want_0) (want_0) (oks_drop hS 6 rfl) ?_ ?_
              · intro K hK
                refine ow_build hS Tryd.underlying22 tz_5 (bc_take (tmI rfl rfl) <| bc_take (tmI rfl rfl) <| bc_nil) rfl rfl (by kernel_rfl) ?_
                clear hS; intro g1_25 w hg1_25 hS
                refine hK _ _ ?_; clear hK K
                refine rg_step 37 rfl (by kernel_rfl) (want_0) (oks_drop hS 7 rfl) ?_; intro K hK
                refine ow_call Tryd.func66 rfl rfl (evs_cons (tmI rfl rfl) <| evs_cons (ev_cN 2) <| evs_nil) (rbytes_c a8 2 _ (by omega) (by omega)) ?_
                rintro e w ⟨gh, rfl, hn, hk⟩
                refine ⟨_, rfl, ?_⟩
                replace hS := hS.add hk hn -- +rowh
                clear hn hk
                refine hK _ _ ?_; clear hK K
                refine rg_step 42 rfl (by kernel_rfl) (want_0) (oks_drop hS 8 rfl) ?_; intro K hK
                refine ow_build hS Tryd.underlying110 tz_22 (bc_take (tmS rfl rfl) <| bc_take (tmS rfl rfl) <| bc_take (tmS rfl rfl) <| bc_take (tmS rfl rfl) <| bc_take (tmS rfl rfl) <| bc_take (tmS rfl rfl) <| bc_take (tmS rfl rfl) <| bc_take (tmS rfl rfl) <| bc_take (tmS rfl rfl) <| bc_take (tmS rfl rfl) <| bc_nil) rfl rfl (by kernel_rfl) ?_
                clear hS; intro g1_42 w hg1_42 hS
                refine hK _ _ ?_; clear hK K
                refine rg_step 43 rfl (by kernel_rfl) (want_0) (oks_drop hS 9 rfl) ?_; intro K hK
                refine ow_call Tryd.func47 rfl rfl (evs_cons (tmS rfl rfl) <| evs_nil) (join_c 10 _ _ [(some ⟨ga, 0, none⟩, be a1 2, 2), (some ⟨gb, 0, none⟩, be a2 2, 2), (some ⟨gc, 0, none⟩, be a3 4, 4), (some ⟨gd, 0, none⟩, be a4 4, 4), (some ⟨g1_25, 0, none⟩, [80 + o.length / 4 * 16, a5], 2), (some ⟨ge, 0, none⟩, be a6 2, 2), (some ⟨gf, 0, none⟩, be a7 2, 2), (some ⟨gh, 0, none⟩, be a8 2, 2), (O, o, c), (L, x, d)] _ (viewB hS.ok 0 rfl) (seen_cons (viewR hS.ok 8 rfl) <| seen_cons (viewR hS.ok 7 rfl) <| seen_cons (viewR hS.ok 6 rfl) <| seen_cons (viewR hS.ok 5 rfl) <| seen_cons (viewB hS.ok 2 rfl) <| seen_cons (viewR hS.ok 4 rfl) <| seen_cons (viewR hS.ok 3 rfl) <| seen_cons (viewR hS.ok 1 rfl) <| seen_cons (viewV hS.ok 11 rfl) <| seen_cons (viewV hS.ok 10 rfl) seen_nil) rfl (by omega) (by rw [hjo, hjl]; omega)) ?_
                rintro e w ⟨A', m', c', hm', rfl, hn, hk⟩
                refine ⟨_, rfl, ?_⟩
                rw [hjo] at hn hm'
                replace hS := hS.add hk hn -- +rowz
                clear hn hk
                refine hK _ _ ?_; clear hK K
                refine rg_take 44 rfl rfl (by kernel_rfl) (by kernel_rfl) (by kernel_rfl) (want_0) (fun w hok => x_assign (tmS rfl rfl)) ?_
                refine rg_done (oks_drop hS 10 rfl) (by kernel_rfl) ?_
                refine then_n (hK2 _ _ ?_); clear hK2 K2
                refine wp_ret ?_
                refine ret1 rfl (.tmp rfl (show _ = Value.slice _ _ _ from rfl)) ?_
                exact ⟨_, _, _, by rw [hm', hjl], rfl, hS.new 0 rfl rfl, hS.kp⟩
              · intro K hK
                refine ow_call Tryd.func66 rfl rfl (evs_cons (tmI rfl rfl) <| evs_cons (ev_cN 2) <| evs_nil) (rbytes_c a8 2 _ (by omega) (by omega)) ?_
                rintro e w ⟨gh, rfl, hn, hk⟩
                refine ⟨_, rfl, ?_⟩
                replace hS := hS.add hk hn -- +rowh
                clear hn hk
                refine hK _ _ ?_; clear hK K
                refine rg_step 25 rfl (by kernel_rfl) (want_0) (oks_drop hS 7 rfl) ?_; intro K hK
                refine ow_build hS Tryd.underlying22 tz_5 (bc_take (tmI rfl rfl) <| bc_take (tmI rfl rfl) <| bc_nil) rfl rfl (by kernel_rfl) ?_
                clear hS; intro g1_25 w hg1_25 hS
                refine hK _ _ ?_; clear hK K
                refine rg_step 42 rfl (by kernel_rfl) (want_0) (oks_drop hS 8 rfl) ?_; intro K hK
                refine ow_build hS Tryd.underlying110 tz_22 (bc_take (tmS rfl rfl) <| bc_take (tmS rfl rfl) <| bc_take (tmS rfl rfl) <| bc_take (tmS rfl rfl) <| bc_take (tmS rfl rfl) <| bc_take (tmS rfl rfl) <| bc_take (tmS rfl rfl) <| bc_take (tmS rfl rfl) <| bc_take (tmS rfl rfl) <| bc_take (tmS rfl rfl) <| bc_nil) rfl rfl (by kernel_rfl) ?_
                clear hS; intro g1_42 w hg1_42 hS
                refine hK _ _ ?_; clear hK K
                refine rg_step 43 rfl (by kernel_rfl) (want_0) (oks_drop hS 9 rfl) ?_; intro K hK
                refine ow_call Tryd.func47 rfl rfl (evs_cons (tmS rfl rfl) <| evs_nil) (join_c 10 _ _ [(some ⟨ga, 0, none⟩, be a1 2, 2), (some ⟨gb, 0, none⟩, be a2 2, 2), (some ⟨gc, 0, none⟩, be a3 4, 4), (some ⟨gd, 0, none⟩, be a4 4, 4), (some ⟨g1_25, 0, none⟩, [80 + o.length / 4 * 16, a5], 2), (some ⟨ge, 0, none⟩, be a6 2, 2), (some ⟨gf, 0, none⟩, be a7 2, 2), (some ⟨gh, 0, none⟩, be a8 2, 2), (O, o, c), (L, x, d)] _ (viewB hS.ok 0 rfl) (seen_cons (viewR hS.ok 8 rfl) <| seen_cons (viewR hS.ok 7 rfl) <| seen_cons (viewR hS.ok 6 rfl) <| seen_cons (viewR hS.ok 5 rfl) <| seen_cons (viewB hS.ok 1 rfl) <| seen_cons (viewR hS.ok 4 rfl) <| seen_cons (viewR hS.ok 3 rfl) <| seen_cons (viewR hS.ok 2 rfl) <| seen_cons (viewV hS.ok 11 rfl) <| seen_cons (viewV hS.ok 10 rfl) seen_nil) rfl (by omega) (by rw [hjo, hjl]; omega)) ?_
                rintro e w ⟨A', m', c', hm', rfl, hn, hk⟩
                refine ⟨_, rfl, ?_⟩
                rw [hjo] at hn hm'
                replace hS := hS.add hk hn -- +rowz
                clear hn hk
                refine hK _ _ ?_; clear hK K
                refine rg_take 44 rfl rfl (by kernel_rfl) (by kernel_rfl) (by kernel_rfl) (want_0) (fun w hok => x_assign (tmS rfl rfl)) ?_
                refine rg_done (oks_drop hS 10 rfl) (by kernel_rfl) ?_
                refine then_n (hK2 _ _ ?_); clear hK2 K2
                refine wp_ret ?_
                refine ret1 rfl (.tmp rfl (show _ = Value.slice _ _ _ from rfl)) ?_
                exact ⟨_, _, _, by rw [hm', hjl], rfl, hS.new 0 rfl rfl, hS.kp⟩
        · intro K hK
          refine ow_build hS Tryd.underlying22 tz_5 (bc_take (tmI rfl rfl) <| bc_take (tmI rfl rfl) <| bc_nil) rfl rfl (by kernel_rfl) ?_
          clear hS; intro g1_25 w hg1_25 hS
          refine hK _ _ ?_; clear hK K
          refine rg_step 15 rfl (by kernel_rfl) (want_0) (oks_drop hS 4 rfl) ?_; intro K hK
          refine ow_call Tryd.func66 rfl rfl (evs_cons (tmI rfl rfl) <| evs_cons (ev_cN 4) <| evs_nil) (rbytes_c a4 4 _ (by omega) (by omega)) ?_
          rintro e w ⟨gd, rfl, hn, hk⟩
          refine ⟨_, rfl, ?_⟩
          replace hS := hS.add hk hn -- +rowd
          clear hn hk
          refine hK _ _ ?_; clear hK K
          refine rg_step 29 rfl (by kernel_rfl) (want_0) (oks_drop hS 5 rfl) ?_; intro K hK
          refine ow_call Tryd.func66 rfl rfl (evs_cons (tmI rfl rfl) <| evs_cons (ev_cN 2) <| evs_nil) (rbytes_c a6 2 _ (by omega) (by omega)) ?_
          rintro e w ⟨ge, rfl, hn, hk⟩
          refine ⟨_, rfl, ?_⟩
          replace hS := hS.add hk hn -- +rowe
          clear hn hk
          refine hK _ _ ?_; clear hK K
          refine rg_step 33 rfl (by kernel_rfl) (want_0) (oks_drop hS 6 rfl) ?_; intro K hK
          refine ow_call Tryd.func66 rfl rfl (evs_cons (tmI rfl rfl) <| evs_cons (ev_cN 2) <| evs_nil) (rbytes_c a7 2 _ (by omega) (by omega)) ?_
          rintro e w ⟨gf, rfl, hn, hk⟩
          refine ⟨_, rfl, ?_⟩
          replace hS := hS.add hk hn -- +rowf
          clear hn hk
          refine hK _ _ ?_; clear hK K
          refine rg_step 37 rfl (by kernel_rfl) (want_0) (oks_drop hS 7 rfl) ?_; intro K hK
          refine ow_call Tryd.func66 rfl rfl (evs_cons (tmI rfl rfl) <| evs_cons (ev_cN 2) <| evs_nil) (rbytes_c a8 2 _ (by omega) (by omega)) ?_
          rintro e w ⟨gh, rfl, hn, hk⟩
          refine ⟨_, rfl, ?_⟩
          replace hS := hS.add hk hn -- +rowh
          clear hn hk
          refine hK _ _ ?_; clear hK K
          refine rg_step 42 rfl (by kernel_rfl) (want_0) (oks_drop hS 8 rfl) ?_; intro K hK
          refine ow_build hS Tryd.underlying110 tz_22 (bc_take (tmS rfl rfl) <| bc_take (tmS rfl rfl) <| bc_take (tmS rfl rfl) <| bc_take (tmS rfl rfl) <| bc_take (tmS rfl rfl) <| bc_take (tmS rfl rfl) <| bc_take (tmS rfl rfl) <| bc_take (tmS rfl rfl) <| bc_take (tmS rfl rfl) <| bc_take (tmS rfl rfl) <| bc_nil) rfl rfl (by kernel_rfl) ?_
          clear hS; intro g1_42 w hg1_42 hS
          refine hK _ _ ?_; clear hK K
          refine rg_step 43 rfl (by kernel_rfl) (want_0) (oks_drop hS 9 rfl) ?_; intro K hK
          refine ow_call Tryd.func47 rfl rfl (evs_cons (tmS rfl rfl) <| evs_nil) (join_c 10 _ _ [(some ⟨ga, 0, none⟩, be a1 2, 2), (some ⟨gb, 0, none⟩, be a2 2, 2), (some ⟨gc, 0, none⟩, be a3 4, 4), (some ⟨gd, 0, none⟩, be a4 4, 4), (some ⟨g1_25, 0, none⟩, [80 + o.length / 4 * 16, a5], 2), (some ⟨ge, 0, none⟩, be a6 2, 2), (some ⟨gf, 0, none⟩, be a7 2, 2), (some ⟨gh, 0, none⟩, be a8 2, 2), (O, o, c), (L, x, d)] _ (viewB hS.ok 0 rfl) (seen_cons (viewR hS.ok 8 rfl) <| seen_cons (viewR hS.ok 7 rfl) <| seen_cons (viewR hS.ok 6 rfl) <| seen_cons (viewR hS.ok 4 rfl) <| seen_cons (viewB hS.ok 5 rfl) <| seen_cons (viewR hS.ok 3 rfl) <| seen_cons (viewR hS.ok 2 rfl) <| seen_cons (viewR hS.ok 1 rfl) <| seen_cons (viewV hS.ok 11 rfl) <| seen_cons (viewV hS.ok 10 rfl) seen_nil) rfl (by omega) (by rw [hjo, hjl]; omega)) ?_
          rintro e w ⟨A', m', c', hm', rfl, hn, hk⟩
          refine ⟨_, rfl, ?_⟩
          rw [hjo] at hn hm'
          replace hS := hS.add hk hn -- +rowz
          clear hn hk
          refine hK _ _ ?_; clear hK K
          refine rg_take 44 rfl rfl (by kernel_rfl) (by kernel_rfl) (by kernel_rfl) (want_0) (fun w hok => x_assign (tmS rfl rfl)) ?_
          refine rg_done (oks_drop hS 10 rfl) (by kernel_rfl) ?_
          refine then_n (hK2 _ _ ?_); clear hK2 K2
          refine wp_ret ?_
          refine ret1 rfl (.tmp rfl (show _ = Value.slice _ _ _ from rfl)) ?_
          exact ⟨_, _, _, by rw [hm', hjl], rfl, hS.new 0 rfl rfl, hS.kp⟩
      · intro K hK
        refine ow_build hS Tryd.underlying22 tz_5 (bc_take (tmI rfl rfl) <| bc_take (tmI rfl rfl) <| bc_nil) rfl rfl (by kernel_rfl) ?_
        clear hS; intro g1_25 w hg1_25 hS
        refine hK _ _ ?_; clear hK K
        refine rg_step 11 rfl (by kernel_rfl) (want_0) (oks_drop hS 3 rfl) ?_; intro K hK
        refine ow_call Tryd.func66 rfl rfl (evs_cons (tmI rfl rfl) <| evs_cons (ev_cN 4) <| evs_nil) (rbytes_c a3 4 _ (by omega) (by omega)) ?_
        rintro e w ⟨gc, rfl, hn, hk⟩
        refine ⟨_, rfl, ?_⟩
        replace hS := hS.add hk hn -- +rowc
        clear hn hk
        refine hK _ _ ?_; clear hK K
        refine rg_step 15 rfl (by kernel_rfl) (want_0) (oks_drop hS 4 rfl) ?_; intro K hK
        refine ow_call Tryd.func66 rfl rfl (evs_cons (tmI rfl rfl) <| evs_cons (ev_cN 4) <| evs_nil) (rbytes_c a4 4 _ (by omega) (by omega)) ?_
        rintro e w ⟨gd, rfl, hn, hk⟩
        refine ⟨_, rfl, ?_⟩
        replace hS := hS.add hk hn -- +rowd
        clear hn hk
        refine hK _ _ ?_; clear hK K
        refine rg_step 29 rfl (by kernel_rfl) (want_0) (oks_drop hS 5 rfl) ?_; intro K hK
        refine ow_call Tryd.func66 rfl rfl (evs_cons (tmI rfl rfl) <| evs_cons (ev_cN 2) <| evs_nil) (rbytes_c a6 2 _ (by omega) (by omega)) ?_
        rintro e w ⟨ge, rfl, hn, hk⟩
        refine ⟨_, rfl, ?_⟩
        replace hS := hS.add hk hn -- +rowe
        clear hn hk
        refine hK _ _ ?_; clear hK K
        refine rg_step 33 rfl (by kernel_rfl) (want_0) (oks_drop hS 6 rfl) ?_; intro K hK
        refine ow_call Tryd.func66 rfl rfl (evs_cons (tmI rfl rfl) <| evs_cons (ev_cN 2) <| evs_nil) (rbytes_c a7 2 _ (by omega) (by omega)) ?_
        rintro e w ⟨gf, rfl, hn, hk⟩
        refine ⟨_, rfl, ?_⟩
        replace hS := hS.add hk hn -- +rowf
        clear hn hk
        refine hK _ _ ?_; clear hK K
        refine rg_step 37 rfl (by kernel_rfl) (want_0) (oks_drop hS 7 rfl) ?_; intro K hK
        refine ow_call Tryd.func66 rfl rfl (evs_cons (tmI rfl rfl) <| evs_cons (ev_cN 2) <| evs_nil) (rbytes_c a8 2 _ (by omega) (by omega)) ?_
        rintro e w ⟨gh, rfl, hn, hk⟩
        refine ⟨_, rfl, ?_⟩
        replace hS := hS.add hk hn -- +rowh
        clear hn hk
        refine hK _ _ ?_; clear hK K
        refine rg_step 42 rfl (by kernel_rfl) (want_0) (oks_drop hS 8 rfl) ?_; intro K hK
        refine ow_build hS Tryd.underlying110 tz_22 (bc_take (tmS rfl rfl) <| bc_take (tmS rfl rfl) <| bc_take (tmS rfl rfl) <| bc_take (tmS rfl rfl) <| bc_take (tmS rfl rfl) <| bc_take (tmS rfl rfl) <| bc_take (tmS rfl rfl) <| bc_take (tmS rfl rfl) <| bc_take (tmS rfl rfl) <| bc_take (tmS rfl rfl) <| bc_nil) rfl rfl (by kernel_rfl) ?_
        clear hS; intro g1_42 w hg1_42 hS
        refine hK _ _ ?_; clear hK K
        refine rg_step 43 rfl (by kernel_rfl) (want_0) (oks_drop hS 9 rfl) ?_; intro K hK
        refine ow_call Tryd.func47 rfl rfl (evs_cons (tmS rfl rfl) <| evs_nil) (join_c 10 _ _ [(some ⟨ga, 0, none⟩, be a1 2, 2), (some ⟨gb, 0, none⟩, be a2 2, 2), (some ⟨gc, 0, none⟩, be a3 4, 4), (some ⟨gd, 0, none⟩, be a4 4, 4), (some ⟨g1_25, 0, none⟩, [80 + o.length / 4 * 16, a5], 2), (some ⟨ge, 0, none⟩, be a6 2, 2), (some ⟨gf, 0, none⟩, be a7 2, 2), (some ⟨gh, 0, none⟩, be a8 2, 2), (O, o, c), (L, x, d)] _ (viewB hS.ok 0 rfl) (seen_cons (viewR hS.ok 8 rfl) <| seen_cons (viewR hS.ok 7 rfl) <| seen_cons (viewR hS.ok 5 rfl) <| seen_cons (viewR hS.ok 4 rfl) <| seen_cons (viewB hS.ok 6 rfl) <| seen_cons (viewR hS.ok 3 rfl) <| seen_cons (viewR hS.ok 2 rfl) <| seen_cons (viewR hS.ok 1 rfl) <| seen_cons (viewV hS.ok 11 rfl) <| seen_cons (viewV hS.ok 10 rfl) seen_nil) rfl (by omega) (by rw [hjo, hjl]; omega)) ?_
        rintro e w ⟨A', m', c', hm', rfl, hn, hk⟩
        refine ⟨_, rfl, ?_⟩
        rw [hjo] at hn hm'
        replace hS := hS.add hk hn -- +rowz
        clear hn hk
        refine hK _ _ ?_; clear hK K
        refine rg_take 44 rfl rfl (by kernel_rfl) (by kernel_rfl) (by kernel_rfl) (want_0) (fun w hok => x_assign (tmS rfl rfl)) ?_
        refine rg_done (oks_drop hS 10 rfl) (by kernel_rfl) ?_
        refine then_n (hK2 _ _ ?_); clear hK2 K2
        refine wp_ret ?_
        refine ret1 rfl (.tmp rfl (show _ = Value.slice _ _ _ from rfl)) ?_
        exact ⟨_, _, _, by rw [hm', hjl], rfl, hS.new 0 rfl rfl, hS.kp⟩
    · intro K hK
      refine ow_build hS Tryd.underlying22 tz_5 (bc_take (tmI rfl rfl) <| bc_take (tmI rfl rfl) <| bc_nil) rfl rfl (by kernel_rfl) ?_
      clear hS; intro g1_25 w hg1_25 hS
      refine hK _ _ ?_; clear hK K
      refine rg_step 7 rfl (by kernel_rfl) (want_0) (oks_drop hS 2 rfl) ?_; intro K hK
      refine ow_call Tryd.func66 rfl rfl (evs_cons (tmI rfl rfl) <| evs_cons (ev_cN 2) <| evs_nil) (rbytes_c a2 2 _ (by omega) (by omega)) ?_
      rintro e w ⟨gb, rfl, hn, hk⟩
      refine ⟨_, rfl, ?_⟩
      replace hS := hS.add hk hn -- +rowb
      clear hn hk
      refine hK _ _ ?_; clear hK K
      refine rg_step 11 rfl (by kernel_rfl) (want_0) (oks_drop hS 3 rfl) ?_; intro K hK
      refine ow_call Tryd.func66 rfl rfl (evs_cons (tmI rfl rfl) <| evs_cons (ev_cN 4) <| evs_nil) (rbytes_c a3 4 _ (by omega) (by omega)) ?_
      rintro e w ⟨gc, rfl, hn, hk⟩
      refine ⟨_, rfl, ?_⟩
      replace hS := hS.add hk hn -- +rowc
      clear hn hk
      refine hK _ _ ?_; clear hK K
      refine rg_step 15 rfl (by kernel_rfl) (want_0) (oks_drop hS 4 rfl) ?_; intro K hK
      refine ow_call Tryd.func66 rfl rfl (evs_cons (tmI rfl rfl) <| evs_cons (ev_cN 4) <| evs_nil) (rbytes_c a4 4 _ (by omega) (by omega)) ?_
      rintro e w ⟨gd, rfl, hn, hk⟩
      refine ⟨_, rfl, ?_⟩
      replace hS := hS.add hk hn -- +rowd
      clear hn hk
      refine hK _ _ ?_; clear hK K
      refine rg_step 29 rfl (by kernel_rfl) (want_0) (oks_drop hS 5 rfl) ?_; intro K hK
      refine ow_call Tryd.func66 rfl rfl (evs_cons (tmI rfl rfl) <| evs_cons (ev_cN 2) <| evs_nil) (rbytes_c a6 2 _ (by omega) (by omega)) ?_
      rintro e w ⟨ge, rfl, hn, hk⟩
      refine ⟨_, rfl, ?_⟩
      replace hS := hS.add hk hn -- +rowe
      clear hn hk
      refine hK _ _ ?_; clear hK K
      refine rg_step 33 rfl (by kernel_rfl) (want_0) (oks_drop hS 6 rfl) ?_; intro K hK
      refine ow_call Tryd.func66 rfl rfl (evs_cons (tmI rfl rfl) <| evs_cons (ev_cN 2) <| evs_nil) (rbytes_c a7 2 _ (by omega) (by omega)) ?_
      rintro e w ⟨gf, rfl, hn, hk⟩
      refine ⟨_, rfl, ?_⟩
      replace hS := hS.add hk hn -- +rowf
      clear hn hk
      refine hK _ _ ?_; clear hK K
      refine rg_step 37 rfl (by kernel_rfl) (want_0) (oks_drop hS 7 rfl) ?_; intro K hK
      refine ow_call Tryd.func66 rfl rfl (evs_cons (tmI rfl rfl) <| evs_cons (ev_cN 2) <| evs_nil) (rbytes_c a8 2 _ (by omega) (by omega)) ?_
      rintro e w ⟨gh, rfl, hn, hk⟩
      refine ⟨_, rfl, ?_⟩
      replace hS := hS.add hk hn -- +rowh
      clear hn hk
      refine hK _ _ ?_; clear hK K
      refine rg_step 42 rfl (by kernel_rfl) (want_0) (oks_drop hS 8 rfl) ?_; intro K hK
      refine ow_build hS Tryd.underlying110 tz_22 (bc_take (tmS rfl rfl) <| bc_take (tmS rfl rfl) <| bc_take (tmS rfl rfl) <| bc_take (tmS rfl rfl) <| bc_take (tmS rfl rfl) <| bc_take (tmS rfl rfl) <| bc_take (tmS rfl rfl) <| bc_take (tmS rfl rfl) <| bc_take (tmS rfl rfl) <| bc_take (tmS rfl rfl) <| bc_nil) rfl rfl (by kernel_rfl) ?_
      clear hS; intro g1_42 w hg1_42 hS
      refine hK _ _ ?_; clear hK K
      refine rg_step 43 rfl (by kernel_rfl) (want_0) (oks_drop hS 9 rfl) ?_; intro K hK
      refine ow_call Tryd.func47 rfl rfl (evs_cons (tmS rfl rfl) <| evs_nil) (join_c 10 _ _ [(some ⟨ga, 0, none⟩, be a1 2, 2), (some ⟨gb, 0, none⟩, be a2 2, 2), (some ⟨gc, 0, none⟩, be a3 4, 4), (some ⟨gd, 0, none⟩, be a4 4, 4), (some ⟨g1_25, 0, none⟩, [80 + o.length / 4 * 16, a5], 2), (some ⟨ge, 0, none⟩, be a6 2, 2), (some ⟨gf, 0, none⟩, be a7 2, 2), (some ⟨gh, 0, none⟩, be a8 2, 2), (O, o, c), (L, x, d)] _ (viewB hS.ok 0 rfl) (seen_cons (viewR hS.ok 8 rfl) <| seen_cons (viewR hS.ok 6 rfl) <| seen_cons (viewR hS.ok 5 rfl) <| seen_cons (viewR hS.ok 4 rfl) <| seen_cons (viewB hS.ok 7 rfl) <| seen_cons (viewR hS.ok 3 rfl) <| seen_cons (viewR hS.ok 2 rfl) <| seen_cons (viewR hS.ok 1 rfl) <| seen_cons (viewV hS.ok 11 rfl) <| seen_cons (viewV hS.ok 10 rfl) seen_nil) rfl (by omega) (by rw [hjo, hjl]; omega)) ?_
      rintro e w ⟨A', m', c', hm', rfl, hn, hk⟩
      refine ⟨_, rfl, ?_⟩
      rw [hjo] at hn hm'
      replace hS := hS.add hk hn -- +rowz
      clear hn hk
      refine hK _ _ ?_; clear hK K
      refine rg_take 44 rfl rfl (by kernel_rfl) (by kernel_rfl) (by kernel_rfl) (want_0) (fun w hok => x_assign (tmS rfl rfl)) ?_
      refine rg_done (oks_drop hS 10 rfl) (by kernel_rfl) ?_
      refine then_n (hK2 _ _ ?_); clear hK2 K2
      refine wp_ret ?_
      refine ret1 rfl (.tmp rfl (show _ = Value.slice _ _ _ from rfl)) ?_
      exact ⟨_, _, _, by rw [hm', hjl], rfl, hS.new 0 rfl rfl, hS.kp⟩
  · intro K hK
    refine ow_build hS Tryd.underlying22 tz_5 (bc_take (tmI rfl rfl) <| bc_take (tmI rfl rfl) <| bc_nil) rfl rfl (by kernel_rfl) ?_
    clear hS; intro g1_25 w hg1_25 hS
    refine hK _ _ ?_; clear hK K
    refine rg_step 3 rfl (by kernel_rfl) (want_0) (oks_drop hS 1 rfl) ?_; intro K hK
    refine ow_call Tryd.func66 rfl rfl (evs_cons (tmI rfl rfl) <| evs_cons (ev_cN 2) <| evs_nil) (rbytes_c a1 2 _ (by omega) (by omega)) ?_
    rintro e w ⟨ga, rfl, hn, hk⟩
    refine ⟨_, rfl, ?_⟩
    replace hS := hS.add hk hn -- +rowa
    clear hn hk
    refine hK _ _ ?_; clear hK K
    refine rg_step 7 rfl (by kernel_rfl) (want_0) (oks_drop hS 2 rfl) ?_; intro K hK
    refine ow_call Tryd.func66 rfl rfl (evs_cons (tmI rfl rfl) <| evs_cons (ev_cN 2) <| evs_nil) (rbytes_c a2 2 _ (by omega) (by omega)) ?_
    rintro e w ⟨gb, rfl, hn, hk⟩
    refine ⟨_, rfl, ?_⟩
    replace hS := hS.add hk hn -- +rowb
    clear hn hk
    refine hK _ _ ?_; clear hK K
    refine rg_step 11 rfl (by kernel_rfl) (want_0) (oks_drop hS 3 rfl) ?_; intro K hK
    refine ow_call Tryd.func66 rfl rfl (evs_cons (tmI rfl rfl) <| evs_cons (ev_cN 4) <| evs_nil) (rbytes_c a3 4 _ (by omega) (by omega)) ?_
    rintro e w ⟨gc, rfl, hn, hk⟩
    refine ⟨_, rfl, ?_⟩
    replace hS := hS.add hk hn -- +rowc
    clear hn hk
    refine hK _ _ ?_; clear hK K
    refine rg_step 15 rfl (by kernel_rfl) (want_0) (oks_drop hS 4 rfl) ?_; intro K hK
    refine ow_call Tryd.func66 rfl rfl (evs_cons (tmI rfl rfl) <| evs_cons (ev_cN 4) <| evs_nil) (rbytes_c a4 4 _ (by omega) (by omega)) ?_
    rintro e w ⟨gd, rfl, hn, hk⟩
    refine ⟨_, rfl, ?_⟩
    replace hS := hS.add hk hn -- +rowd
    clear hn hk
    refine hK _ _ ?_; clear hK K
    refine rg_step 29 rfl (by kernel_rfl) (want_0) (oks_drop hS 5 rfl) ?_; intro K hK
    refine ow_call Tryd.func66 rfl rfl (evs_cons (tmI rfl rfl) <| evs_cons (ev_cN 2) <| evs_nil) (rbytes_c a6 2 _ (by omega) (by omega)) ?_
    rintro e w ⟨ge, rfl, hn, hk⟩
    refine ⟨_, rfl, ?_⟩
    replace hS := hS.add hk hn -- +rowe
    clear hn hk
    refine hK _ _ ?_; clear hK K
    refine rg_step 33 rfl (by kernel_rfl) (want_0) (oks_drop hS 6 rfl) ?_; intro K hK
    refine ow_call Tryd.func66 rfl rfl (evs_cons (tmI rfl rfl) <| evs_cons (ev_cN 2) <| evs_nil) (rbytes_c a7 2 _ (by omega) (by omega)) ?_
    rintro e w ⟨gf, rfl, hn, hk⟩
    refine ⟨_, rfl, ?_⟩
    replace hS := hS.add hk hn -- +rowf
    clear hn hk
    refine hK _ _ ?_; clear hK K
    refine rg_step 37 rfl (by kernel_rfl) (want_0) (oks_drop hS 7 rfl) ?_; intro K hK
    refine ow_call Tryd.func66 rfl rfl (evs_cons (tmI rfl rfl) <| evs_cons (ev_cN 2) <| evs_nil) (rbytes_c a8 2 _ (by omega) (by omega)) ?_
    rintro e w ⟨gh, rfl, hn, hk⟩
    refine ⟨_, rfl, ?_⟩
    replace hS := hS.add hk hn -- +rowh
    clear hn hk
    refine hK _ _ ?_; clear hK K
    refine rg_step 42 rfl (by kernel_rfl) (want_0) (oks_drop hS 8 rfl) ?_; intro K hK
    refine ow_build hS Tryd.underlying110 tz_22 (bc_take (tmS rfl rfl) <| bc_take (tmS rfl rfl) <| bc_take (tmS rfl rfl) <| bc_take (tmS rfl rfl) <| bc_take (tmS rfl rfl) <| bc_take (tmS rfl rfl) <| bc_take (tmS rfl rfl) <| bc_take (tmS rfl rfl) <| bc_take (tmS rfl rfl) <| bc_take (tmS rfl rfl) <| bc_nil) rfl rfl (by kernel_rfl) ?_
    clear hS; intro g1_42 w hg1_42 hS
    refine hK _ _ ?_; clear hK K
    refine rg_step 43 rfl (by kernel_rfl) (want_0) (oks_drop hS 9 rfl) ?_; intro K hK
    refine ow_call Tryd.func47 rfl rfl (evs_cons (tmS rfl rfl) <| evs_nil) (join_c 10 _ _ [(some ⟨ga, 0, none⟩, be a1 2, 2), (some ⟨gb, 0, none⟩, be a2 2, 2), (some ⟨gc, 0, none⟩, be a3 4, 4), (some ⟨gd, 0, none⟩, be a4 4, 4), (some ⟨g1_25, 0, none⟩, [80 + o.length / 4 * 16, a5], 2), (some ⟨ge, 0, none⟩, be a6 2, 2), (some ⟨gf, 0, none⟩, be a7 2, 2), (some ⟨gh, 0, none⟩, be a8 2, 2), (O, o, c), (L, x, d)] _ (viewB hS.ok 0 rfl) (seen_cons (viewR hS.ok 7 rfl) <| seen_cons (viewR hS.ok 6 rfl) <| seen_cons (viewR hS.ok 5 rfl) <| seen_cons (viewR hS.ok 4 rfl) <| seen_cons (viewB hS.ok 8 rfl) <| seen_cons (viewR hS.ok 3 rfl) <| seen_cons (viewR hS.ok 2 rfl) <| seen_cons (viewR hS.ok 1 rfl) <| seen_cons (viewV hS.ok 11 rfl) <| seen_cons (viewV hS.ok 10 rfl) seen_nil) rfl (by omega) (by rw [hjo, hjl]; omega)) ?_
    rintro e w ⟨A', m', c', hm', rfl, hn, hk⟩
    refine ⟨_, rfl, ?_⟩
    rw [hjo] at hn hm'
    replace hS := hS.add hk hn -- +rowz
    clear hn hk
    refine hK _ _ ?_; clear hK K
    refine rg_take 44 rfl rfl (by kernel_rfl) (by kernel_rfl) (by kernel_rfl) (want_0) (fun w hok => x_assign (tmS rfl rfl)) ?_
    refine rg_done (oks_drop hS 10 rfl) (by kernel_rfl) ?_
    refine then_n (hK2 _ _ ?_); clear hK2 K2
    refine wp_ret ?_
    refine ret1 rfl (.tmp rfl (show _ = Value.slice _ _ _ from rfl)) ?_
    exact ⟨_, _, _, by rw [hm', hjl], rfl, hS.new 0 rfl rfl, hS.kp⟩
end Go.Proofs.YtmekadkmmddocaaDoor
