
/- ring and the reference's At, by contract. Conditions: none but bounds. -/
import Derived.Test.YtilgolflpdpfnaaSipN
namespace Go.Proofs.Ytilgolflpdpfnaa
open Go.RowKit
def rgC (k : Nat → Nat) (u : Nat) : List Value := [u8v (k 0), u8v (k 1), u8v (k 2), u8v (k 3), u8v (k 4), u8v (k 5), u8v (k 6), u8v (k 7), u8v (k 8), u8v (k 9), u8v (k 10), u8v (k 11), u8v (k 12), u8v (k 13), u8v (k 14), u8v (k 15), .int .u64 (u : Int)]
set_option maxRecDepth 100000 in
set_option maxHeartbeats 4000000 in
theorem ring_new_c (k : Nat → Nat) (u : Nat) (w0 : World) :
    Calls Try.prog 36 #[.agg (kC k).toArray, .int .u64 (u : Int)] w0 fun e w' => e = .returned (.agg (rgC k u).toArray) ∧ Kp [] w0 w' := by
  have hS := St.sv w0
  refine ent (n := 8) Try.func36 rfl rfl ?_
  refine wp_seq_k ?_; intro K1 hK1
  refine wlit ?_
  refine wl_e rfl ?_; intro K hK
  refine ow_box hS (tmA rfl rfl) rfl ?_
  clear hS; intro g0_0 w hg0_0 hS
  refine hK _ _ ?_; clear hK K
  refine wl_e rfl ?_; intro K hK
  refine ow_alloc hS tz_69 rfl ?_
  clear hS; intro g0_1 w hg0_1 hS
  refine hK _ _ ?_; clear hK K
  refine wl_nil ?_
  refine then_n (hK1 _ _ ?_); clear hK1 K1
  refine wp_seq_k ?_; intro K2 hK2
  refine wlit ?_
  refine wl_v (x_loadA (cs := [_, _, _, _, _, _, _, _, _, _, _, _, _, _, _, _]) Try.underlying67 rfl ts_67 (tmP rfl rfl) (rangeB hS.ok 1 rfl rfl)) ?_
  refine wl_v (x_move (tmI rfl rfl)) ?_
  refine wl_v (x_build (bc_takeL (tmA rfl rfl) <| bc_take (tmI rfl rfl) <| bc_nil) (by kernel_rfl)) ?_
  refine wl_e rfl ?_; intro K hK
  refine ow_storeA hS 0 rfl ts_69 (tmP rfl rfl) (tmA rfl rfl) rfl rfl rfl ?_
  clear hS; intro w hS
  try replace hS := St.nm (M' := [.blk _ _ [_, _, _, _, _, _, _, _, _, _, _, _, _, _, _, _, _], .blk _ _ [_, _, _, _, _, _, _, _, _, _, _, _, _, _, _, _], _]) hS rfl
  refine hK _ _ ?_; clear hK K
  refine wl_nil ?_
  refine then_n (hK2 _ _ ?_); clear hK2 K2
  refine wp_ret ?_
  refine ret1 rfl (.cell rfl rfl (load_rowB (cs := [_, _, _, _, _, _, _, _, _, _, _, _, _, _, _, _, _]) hS.ok 0 rfl Try.underlying69 rfl ts_69 rfl)) ?_
  exact ⟨rfl, hS.kp⟩
set_option maxRecDepth 100000 in
set_option maxHeartbeats 4000000 in
theorem ring_epoch_c (k : Nat → Nat) (u : Nat) (w0 : World) :
    Calls Try.prog 39 #[.agg (rgC k u).toArray] w0 fun e w' => e = .returned (.int .u64 (u : Int)) ∧ Kp [] w0 w' := by
  have hS := St.sv w0
  refine ent (n := 5) Try.func39 rfl rfl ?_
  refine wp_seq_k ?_; intro K1 hK1
  refine wlit ?_
  refine wl_e rfl ?_; intro K hK
  refine ow_box hS (tmA rfl rfl) rfl ?_
  clear hS; intro g0_0 w hg0_0 hS
  refine hK _ _ ?_; clear hK K
  refine wl_v (x_assign (ev_cN 0)) ?_
  refine wl_nil ?_
  refine then_n (hK1 _ _ ?_); clear hK1 K1
  refine wp_seq_k ?_; intro K2 hK2
  refine wlit ?_
  refine wl_v (x_fa 16 Try.underlying69 rfl rfl ts_24 (tmP rfl rfl)) ?_
  first
   | refine wl_v (x_load Try.underlying24 rfl (tmP rfl rfl) (cellB hS.ok 0 rfl rfl)) ?_
   | refine wl_v (x_load Try.underlying24 rfl (tmP rfl rfl) (cellB hS.ok 0 rfl (getm (by omega)))) ?_
  refine wl_v (x_assign (tmI rfl rfl)) ?_
  refine wl_nil ?_
  refine then_n (hK2 _ _ ?_); clear hK2 K2
  refine wp_ret ?_
  refine ret1 rfl (.tmp rfl (show _ = Value.int _ _ from rfl)) ?_
  exact ⟨rfl, hS.kp⟩
set_option maxRecDepth 100000 in
set_option maxHeartbeats 4000000 in
theorem ring_bit_c (k : Nat → Nat) (u : Nat) (w0 : World) :
    Calls Try.prog 40 #[.agg (rgC k u).toArray] w0 fun e w' => e = .returned (.int .i64 ((u % 2 : Nat) : Int)) ∧ Kp [] w0 w' := by
  have hS := St.sv w0
  refine ent (n := 7) Try.func40 rfl rfl ?_
  refine wp_seq_k ?_; intro K1 hK1
  refine wlit ?_
  refine wl_e rfl ?_; intro K hK
  refine ow_box hS (tmA rfl rfl) rfl ?_
  clear hS; intro g0_0 w hg0_0 hS
  refine hK _ _ ?_; clear hK K
  refine wl_v (x_assign (ev_cN 0)) ?_
  refine wl_nil ?_
  refine then_n (hK1 _ _ ?_); clear hK1 K1
  refine wp_seq_k ?_; intro K2 hK2
  refine wlit ?_
  refine wl_v (x_fa 16 Try.underlying69 rfl rfl ts_24 (tmP rfl rfl)) ?_
  first
   | refine wl_v (x_load Try.underlying24 rfl (tmP rfl rfl) (cellB hS.ok 0 rfl rfl)) ?_
   | refine wl_v (x_load Try.underlying24 rfl (tmP rfl rfl) (cellB hS.ok 0 rfl (getm (by omega)))) ?_
  first
   | refine wl_v (x_remN (tmI rfl rfl) (ev_cN 2) (by omega)) ?_
   | refine wl_v (x_rem (tmI rfl rfl) (ev_cN 2) (by omega)) ?_
  first
   | refine wl_v (x_convN Try.underlying24 Try.underlying3 (tmI rfl rfl) (fit_i64 (by omega))) ?_
   | refine wl_v (x_conv Try.underlying24 Try.underlying3 (tmI rfl rfl)) ?_
  refine wl_v (x_assign (tmI rfl rfl)) ?_
  refine wl_nil ?_
  refine then_n (hK2 _ _ ?_); clear hK2 K2
  refine wp_ret ?_
  refine ret1 rfl (.tmp rfl (show _ = Value.int _ _ from rfl)) ?_
  exact ⟨rfl, hS.kp⟩
set_option maxRecDepth 100000 in
set_option maxHeartbeats 4000000 in
theorem ring_next_c (k : Nat → Nat) (u : Nat) (w0 : World) :
    Calls Try.prog 41 #[.agg (rgC k u).toArray] w0 fun e w' => e = .returned (.agg (rgC k ((u + 1) % 2 ^ 64)).toArray) ∧ Kp [] w0 w' := by
  have hS := St.sv w0
  refine ent (n := 9) Try.func41 rfl rfl ?_
  refine wp_seq_k ?_; intro K1 hK1
  refine wlit ?_
  refine wl_e rfl ?_; intro K hK
  refine ow_box hS (tmA rfl rfl) rfl ?_
  clear hS; intro g0_0 w hg0_0 hS
  refine hK _ _ ?_; clear hK K
  refine wl_e rfl ?_; intro K hK
  refine ow_alloc hS tz_69 rfl ?_
  clear hS; intro g0_1 w hg0_1 hS
  refine hK _ _ ?_; clear hK K
  refine wl_nil ?_
  refine then_n (hK1 _ _ ?_); clear hK1 K1
  refine wp_seq_k ?_; intro K2 hK2
  refine wlit ?_
  refine wl_v (x_fa 0 Try.underlying69 rfl rfl ts_67 (tmP rfl rfl)) ?_
  refine wl_v (x_loadA (cs := [_, _, _, _, _, _, _, _, _, _, _, _, _, _, _, _]) Try.underlying67 rfl ts_67 (tmP rfl rfl) (rangeB hS.ok 1 rfl rfl)) ?_
  refine wl_v (x_fa 16 Try.underlying69 rfl rfl ts_24 (tmP rfl rfl)) ?_
  first
   | refine wl_v (x_load Try.underlying24 rfl (tmP rfl rfl) (cellB hS.ok 1 rfl rfl)) ?_
   | refine wl_v (x_load Try.underlying24 rfl (tmP rfl rfl) (cellB hS.ok 1 rfl (getm (by omega)))) ?_
  refine wl_v (x_addU (tmI rfl rfl) (ev_cN 1) rfl) ?_
  refine wl_v (x_build (bc_takeL (tmA rfl rfl) <| bc_take (tmI rfl rfl) <| bc_nil) (by kernel_rfl)) ?_
  refine wl_e rfl ?_; intro K hK
  refine ow_storeA hS 0 rfl ts_69 (tmP rfl rfl) (tmA rfl rfl) rfl rfl rfl ?_
  clear hS; intro w hS
  try replace hS := St.nm (M' := [.blk _ _ [_, _, _, _, _, _, _, _, _, _, _, _, _, _, _, _, _], .blk _ _ [_, _, _, _, _, _, _, _, _, _, _, _, _, _, _, _, _], _]) hS rfl
  refine hK _ _ ?_; clear hK K
  refine wl_nil ?_
  refine then_n (hK2 _ _ ?_); clear hK2 K2
  refine wp_ret ?_
  refine ret1 rfl (.cell rfl rfl (load_rowB (cs := [_, _, _, _, _, _, _, _, _, _, _, _, _, _, _, _, _]) hS.ok 0 rfl Try.underlying69 rfl ts_69 rfl)) ?_
  exact ⟨rfl, hS.kp⟩
def atK (k : Nat → Nat) (u : Nat) (bit : Int) : Nat → Nat := if bit = ((u % 2 : Nat) : Int) then derF k u else if bit = 1 - ((u % 2 : Nat) : Int) ∧ u ≠ 0 then derF k (u - 1) else fun _ => 0
def atB (u : Nat) (bit : Int) : Bool := decide (bit = ((u % 2 : Nat) : Int) ∨ bit = 1 - ((u % 2 : Nat) : Int) ∧ u ≠ 0)
theorem at1 {k : Nat → Nat} {u : Nat} {bit : Int} (h : bit = ((u % 2 : Nat) : Int)) : atK k u bit = derF k u ∧ atB u bit = true := ⟨if_pos h, decide_eq_true (.inl h)⟩
theorem at2 {k : Nat → Nat} {u : Nat} {bit : Int} (h : bit ≠ ((u % 2 : Nat) : Int)) (h2 : bit = 1 - ((u % 2 : Nat) : Int)) (h3 : u ≠ 0) : atK k u bit = derF k (u - 1) ∧ atB u bit = true := ⟨by unfold atK; rw [if_neg h, if_pos ⟨h2, h3⟩], decide_eq_true (.inr ⟨h2, h3⟩)⟩
theorem at3 {k : Nat → Nat} {u : Nat} {bit : Int} (h : bit ≠ ((u % 2 : Nat) : Int)) (h2 : ¬ (bit = 1 - ((u % 2 : Nat) : Int) ∧ u ≠ 0)) : atK k u bit = (fun _ => 0) ∧ atB u bit = false := ⟨by unfold atK; rw [if_neg h, if_neg h2], decide_eq_false (fun hh => hh.elim h h2)⟩
theorem atK_bytes {k : Nat → Nat} {u : Nat} {bit : Int} : Bytes (kL (atK k u bit)) := by
  unfold atK
  split
  · exact derF_bytes _ _
  · split
    · exact derF_bytes _ _
    · intro x hx
      simp [kL] at hx
      omega
set_option maxRecDepth 100000 in
set_option maxHeartbeats 4000000 in
theorem ring_at_c (k : Nat → Nat) (u : Nat) (bit : Int) (w0 : World) (hkb : Bytes (kL k)) (hu : u ≤ 18446744073709551615) :
    Calls Try.prog 37 #[.agg (rgC k u).toArray, .int .i64 bit] w0 fun e w' => e = .returned (.tuple #[.agg (kC (atK k u bit)).toArray, .bool (atB u bit)]) ∧ Kp [] w0 w' := by
  have hS := St.sv w0
  refine ent (n := 32) Try.func37 rfl rfl ?_
  refine wp_seq_k ?_; intro K1 hK1
  refine wlit ?_
  refine wl_e rfl ?_; intro K hK
  refine ow_box hS (tmA rfl rfl) rfl ?_
  clear hS; intro g0_0 w hg0_0 hS
  refine hK _ _ ?_; clear hK K
  refine wl_e rfl ?_; intro K hK
  refine ow_alloc hS tz_67 rfl ?_
  clear hS; intro g0_1 w hg0_1 hS
  refine hK _ _ ?_; clear hK K
  refine wl_v (x_assign ev_c) ?_
  refine wl_nil ?_
  refine then_n (hK1 _ _ ?_); clear hK1 K1
  refine wp_seq_k ?_; intro K2 hK2
  refine wp_seq_k ?_; intro K3 hK3
  refine wlit ?_
  refine wl_v (x_move (tmI rfl rfl)) ?_
  refine wl_v (x_loadA (cs := [_, _, _, _, _, _, _, _, _, _, _, _, _, _, _, _, _]) Try.underlying69 rfl ts_69 (tmP rfl rfl) (rangeB hS.ok 1 rfl rfl)) ?_
  refine wl_e rfl ?_; intro K hK
  refine ow_call Try.func40 rfl rfl (evs_cons (tmA rfl rfl) <| evs_nil) (ring_bit_c k u _) ?_
  rintro e w ⟨rfl, hk⟩
  refine ⟨_, rfl, ?_⟩
  replace hS := hS.kept hk
  clear hk
  refine hK _ _ ?_; clear hK K
  refine wl_v (x_eql (tmI rfl rfl) (tmI rfl rfl)) ?_
  refine wl_nil ?_
  refine then_n (hK3 _ _ ?_); clear hK3 K3
  refine cnd (tm rfl) (fun hc0 => ?_) (fun hc0 => ?_)
  · try (exfalso; first | with_reducible exact absurd hc0 Bool.false_ne_true | with_reducible exact absurd hc0.symm Bool.false_ne_true | (simp only [nrm] at hc0; omega) | (simp at hc0; done))
    all_goals
     try simp only [nrm] at hc0
     refine wp_seq_k ?_; intro K4 hK4
     refine wlit ?_
     refine wl_v (x_fa 0 Try.underlying69 rfl rfl ts_67 (tmP rfl rfl)) ?_
     refine wl_v (x_loadA (cs := [_, _, _, _, _, _, _, _, _, _, _, _, _, _, _, _]) Try.underlying67 rfl ts_67 (tmP rfl rfl) (rangeB hS.ok 1 rfl rfl)) ?_
     refine wl_v (x_fa 16 Try.underlying69 rfl rfl ts_24 (tmP rfl rfl)) ?_
     first
      | refine wl_v (x_load Try.underlying24 rfl (tmP rfl rfl) (cellB hS.ok 1 rfl rfl)) ?_
      | refine wl_v (x_load Try.underlying24 rfl (tmP rfl rfl) (cellB hS.ok 1 rfl (getm (by omega)))) ?_
     refine wl_e rfl ?_; intro K hK
     refine ow_call Try.func98 rfl rfl (evs_cons (tmA rfl rfl) <| evs_cons (tmI rfl rfl) <| evs_nil) (derive_c k u _ hkb hu) ?_
     rintro e w ⟨rfl, hk⟩
     refine ⟨_, rfl, ?_⟩
     replace hS := hS.kept hk
     clear hk
     refine hK _ _ ?_; clear hK K
     refine wl_e rfl ?_; intro K hK
     refine ow_storeA hS 0 rfl ts_67 (tmP rfl rfl) (tmA rfl rfl) rfl rfl rfl ?_
     clear hS; intro w hS
     try replace hS := St.nm (M' := [.blk _ _ [_, _, _, _, _, _, _, _, _, _, _, _, _, _, _, _], .blk _ _ [_, _, _, _, _, _, _, _, _, _, _, _, _, _, _, _, _], _]) hS rfl
     refine hK _ _ ?_; clear hK K
     refine wl_v (x_assign ev_c) ?_
     refine wl_nil ?_
     refine then_n (hK4 _ _ ?_); clear hK4 K4
     refine wp_ret ?_
     refine then_r ?_
     refine ret2 rfl (.cell rfl rfl (load_rowB (cs := [_, _, _, _, _, _, _, _, _, _, _, _, _, _, _, _]) hS.ok 0 rfl Try.underlying67 rfl ts_67 rfl)) (.tmp rfl (show _ = Value.bool _ from rfl)) ?_
     refine ⟨?_, hS.kp⟩
     first
       | (have h1 : bit = ((u % 2 : Nat) : Int) := by omega
          obtain ⟨e1, e2⟩ := at1 (k := k) h1; rw [e1, e2]; first | done | rfl)
       | (have h1 : bit ≠ ((u % 2 : Nat) : Int) := by omega
          have h2 : bit = 1 - ((u % 2 : Nat) : Int) := by omega
          have h3 : u ≠ 0 := by omega
          obtain ⟨e1, e2⟩ := at2 (k := k) h1 h2 h3; rw [e1, e2]; first | done | rfl)
       | (have h1 : bit ≠ ((u % 2 : Nat) : Int) := by omega
          have h2 : ¬ (bit = 1 - ((u % 2 : Nat) : Int) ∧ u ≠ 0) := by omega
          obtain ⟨e1, e2⟩ := at3 (k := k) h1 h2; rw [e1, e2]; first | done | rfl)
  try (exfalso; first | with_reducible exact absurd hc0 Bool.false_ne_true | with_reducible exact absurd hc0.symm Bool.false_ne_true | (simp only [nrm] at hc0; omega) | (simp at hc0; done))
  all_goals
   try simp only [nrm] at hc0
   refine wp_skip ?_
   refine then_n (hK2 _ _ ?_); clear hK2 K2
   refine wp_seq_k ?_; intro K6 hK6
   refine wp_seq_k ?_; intro K7 hK7
   refine wlit ?_
   refine wl_v (x_move (tmI rfl rfl)) ?_
   refine wl_v (x_loadA (cs := [_, _, _, _, _, _, _, _, _, _, _, _, _, _, _, _, _]) Try.underlying69 rfl ts_69 (tmP rfl rfl) (rangeB hS.ok 1 rfl rfl)) ?_
   refine wl_e rfl ?_; intro K hK
   refine ow_call Try.func40 rfl rfl (evs_cons (tmA rfl rfl) <| evs_nil) (ring_bit_c k u _) ?_
   rintro e w ⟨rfl, hk⟩
   refine ⟨_, rfl, ?_⟩
   replace hS := hS.kept hk
   clear hk
   refine hK _ _ ?_; clear hK K
   first
    | refine wl_v (x_subN (ev_cN 1) (tmI rfl rfl) (fit_i64 (by omega)) (by omega)) ?_
    | refine wl_v (x_subI (ev_cN 1) (tmI rfl rfl) (IntWalk.i64_in _ (by omega))) ?_
    | refine wl_v (x_sub (ev_cN 1) (tmI rfl rfl)) ?_
   refine wl_v (x_eql (tmI rfl rfl) (tmI rfl rfl)) ?_
   refine wl_v (x_move (tmB rfl rfl)) ?_
   refine gs_wl (tm (t := 20) rfl) (fun hg3_5 => ?_) (fun hg3_5 => ?_)
   · have hg3_5' := hg3_5; (try simp only [nrm] at hg3_5'); try (exfalso; first | with_reducible exact absurd hg3_5 Bool.false_ne_true | with_reducible exact absurd hg3_5.symm Bool.false_ne_true | omega | (simp at hg3_5; done))
     all_goals
      refine wl_gv (want_y rfl rfl rfl rfl (by rw [hg3_5]; rfl)) (x_fa 16 Try.underlying69 rfl rfl ts_24 (tmP rfl rfl)) ?_
      first
       | refine wl_gv (want_y rfl rfl rfl rfl (by rw [hg3_5]; rfl)) (x_load Try.underlying24 rfl (tmP rfl rfl) (cellB hS.ok 1 rfl rfl)) ?_
       | refine wl_gv (want_y rfl rfl rfl rfl (by rw [hg3_5]; rfl)) (x_load Try.underlying24 rfl (tmP rfl rfl) (cellB hS.ok 1 rfl (getm (by omega)))) ?_
      refine wl_gv (want_y rfl rfl rfl rfl (by rw [hg3_5]; rfl)) (x_neq (tmI rfl rfl) (ev_cN 0)) ?_
      refine wl_v (x_pickT (tmB rfl rfl) hg3_5 (tmB rfl rfl)) ?_
      refine wl_nil ?_
      refine then_n (hK7 _ _ ?_); clear hK7 K7
      refine cnd (tm rfl) (fun hc1 => ?_) (fun hc1 => ?_)
      · try (exfalso; first | with_reducible exact absurd hc1 Bool.false_ne_true | with_reducible exact absurd hc1.symm Bool.false_ne_true | (simp only [nrm] at hc1; omega) | (simp at hc1; done))
        all_goals
         try simp only [nrm] at hc1
         refine wp_seq_k ?_; intro K8 hK8
         refine wlit ?_
         refine wl_v (x_fa 0 Try.underlying69 rfl rfl ts_67 (tmP rfl rfl)) ?_
         refine wl_v (x_loadA (cs := [_, _, _, _, _, _, _, _, _, _, _, _, _, _, _, _]) Try.underlying67 rfl ts_67 (tmP rfl rfl) (rangeB hS.ok 1 rfl rfl)) ?_
         refine wl_v (x_fa 16 Try.underlying69 rfl rfl ts_24 (tmP rfl rfl)) ?_
         first
          | refine wl_v (x_load Try.underlying24 rfl (tmP rfl rfl) (cellB hS.ok 1 rfl rfl)) ?_
          | refine wl_v (x_load Try.underlying24 rfl (tmP rfl rfl) (cellB hS.ok 1 rfl (getm (by omega)))) ?_
         first
          | refine wl_v (x_subN (tmI rfl rfl) (ev_cN 1) (fit_u64 (by omega)) (by omega)) ?_
          | refine wl_v (x_subI (tmI rfl rfl) (ev_cN 1) (IntWalk.u64_in _ (by omega))) ?_
          | refine wl_v (x_subU (tmI rfl rfl) (ev_cN 1) rfl (fit_u64 (by omega))) ?_
          | refine wl_v (x_sub (tmI rfl rfl) (ev_cN 1)) ?_
         refine wl_e rfl ?_; intro K hK
         refine ow_call Try.func98 rfl rfl (evs_cons (tmA rfl rfl) <| evs_cons (tmI rfl rfl) <| evs_nil) (derive_c k (u - 1) _ hkb (by omega)) ?_
         rintro e w ⟨rfl, hk⟩
         refine ⟨_, rfl, ?_⟩
         replace hS := hS.kept hk
         clear hk
         refine hK _ _ ?_; clear hK K
         refine wl_e rfl ?_; intro K hK
         refine ow_storeA hS 0 rfl ts_67 (tmP rfl rfl) (tmA rfl rfl) rfl rfl rfl ?_
         clear hS; intro w hS
         try replace hS := St.nm (M' := [.blk _ _ [_, _, _, _, _, _, _, _, _, _, _, _, _, _, _, _], .blk _ _ [_, _, _, _, _, _, _, _, _, _, _, _, _, _, _, _, _], _]) hS rfl
         refine hK _ _ ?_; clear hK K
         refine wl_v (x_assign ev_c) ?_
         refine wl_nil ?_
         refine then_n (hK8 _ _ ?_); clear hK8 K8
         refine wp_ret ?_
         refine then_r ?_
         refine ret2 rfl (.cell rfl rfl (load_rowB (cs := [_, _, _, _, _, _, _, _, _, _, _, _, _, _, _, _]) hS.ok 0 rfl Try.underlying67 rfl ts_67 rfl)) (.tmp rfl (show _ = Value.bool _ from rfl)) ?_
         refine ⟨?_, hS.kp⟩
         first
           | (have h1 : bit = ((u % 2 : Nat) : Int) := by omega
              obtain ⟨e1, e2⟩ := at1 (k := k) h1; rw [e1, e2]; first | done | rfl)
           | (have h1 : bit ≠ ((u % 2 : Nat) : Int) := by omega
              have h2 : bit = 1 - ((u % 2 : Nat) : Int) := by omega
              have h3 : u ≠ 0 := by omega
              obtain ⟨e1, e2⟩ := at2 (k := k) h1 h2 h3; rw [e1, e2]; first | done | rfl)
           | (have h1 : bit ≠ ((u % 2 : Nat) : Int) := by omega
              have h2 : ¬ (bit = 1 - ((u % 2 : Nat) : Int) ∧ u ≠ 0) := by omega
              obtain ⟨e1, e2⟩ := at3 (k := k) h1 h2; rw [e1, e2]; first | done | rfl)
      try (exfalso; first | with_reducible exact absurd hc1 Bool.false_ne_true | with_reducible exact absurd hc1.symm Bool.false_ne_true | (simp only [nrm] at hc1; omega) | (simp at hc1; done))
      all_goals
       try simp only [nrm] at hc1
       refine wp_skip ?_
       refine then_n (hK6 _ _ ?_); clear hK6 K6
       refine wp_seq_k ?_; intro K10 hK10
       refine wlit ?_
       refine wl_v (x_build (bc_skip (.int .u8 0) <| bc_skip (.int .u8 0) <| bc_skip (.int .u8 0) <| bc_skip (.int .u8 0) <| bc_skip (.int .u8 0) <| bc_skip (.int .u8 0) <| bc_skip (.int .u8 0) <| bc_skip (.int .u8 0) <| bc_skip (.int .u8 0) <| bc_skip (.int .u8 0) <| bc_skip (.int .u8 0) <| bc_skip (.int .u8 0) <| bc_skip (.int .u8 0) <| bc_skip (.int .u8 0) <| bc_skip (.int .u8 0) <| bc_skip (.int .u8 0) <| bc_nil) (by kernel_rfl)) ?_
       refine wl_e rfl ?_; intro K hK
       refine ow_storeA hS 0 rfl ts_67 (tmP rfl rfl) (tmA rfl rfl) rfl rfl rfl ?_
       clear hS; intro w hS
       try replace hS := St.nm (M' := [.blk _ _ [_, _, _, _, _, _, _, _, _, _, _, _, _, _, _, _], .blk _ _ [_, _, _, _, _, _, _, _, _, _, _, _, _, _, _, _, _], _]) hS rfl
       refine hK _ _ ?_; clear hK K
       refine wl_v (x_assign ev_c) ?_
       refine wl_nil ?_
       refine then_n (hK10 _ _ ?_); clear hK10 K10
       refine wp_ret ?_
       refine ret2 rfl (.cell rfl rfl (load_rowB (cs := [_, _, _, _, _, _, _, _, _, _, _, _, _, _, _, _]) hS.ok 0 rfl Try.underlying67 rfl ts_67 rfl)) (.tmp rfl (show _ = Value.bool _ from rfl)) ?_
       refine ⟨?_, hS.kp⟩
       first
         | (have h1 : bit = ((u % 2 : Nat) : Int) := by omega
            obtain ⟨e1, e2⟩ := at1 (k := k) h1; rw [e1, e2]; first | done | rfl)
         | (have h1 : bit ≠ ((u % 2 : Nat) : Int) := by omega
            have h2 : bit = 1 - ((u % 2 : Nat) : Int) := by omega
            have h3 : u ≠ 0 := by omega
            obtain ⟨e1, e2⟩ := at2 (k := k) h1 h2 h3; rw [e1, e2]; first | done | rfl)
         | (have h1 : bit ≠ ((u % 2 : Nat) : Int) := by omega
            have h2 : ¬ (bit = 1 - ((u % 2 : Nat) : Int) ∧ u ≠ 0) := by omega
            obtain ⟨e1, e2⟩ := at3 (k := k) h1 h2; rw [e1, e2]; first | done | rfl)
   have hg3_5' := hg3_5; (try simp only [nrm] at hg3_5'); try (exfalso; first | with_reducible exact absurd hg3_5 Bool.false_ne_true | with_reducible exact absurd hg3_5.symm Bool.false_ne_true | omega | (simp at hg3_5; done))
   all_goals
    refine wl_s rfl (want_n rfl rfl rfl rfl (by rw [hg3_5]; rfl)) ?_
    refine wl_s rfl (want_n rfl rfl rfl rfl (by rw [hg3_5]; rfl)) ?_
    refine wl_s rfl (want_n rfl rfl rfl rfl (by rw [hg3_5]; rfl)) ?_
    refine wl_v (x_pickF (tmB rfl rfl) hg3_5 ev_c) ?_
    refine wl_nil ?_
    refine then_n (hK7 _ _ ?_); clear hK7 K7
    refine cnd_f (tmB rfl rfl) rfl ?_
    refine wp_skip ?_
    refine then_n (hK6 _ _ ?_); clear hK6 K6
    refine wp_seq_k ?_; intro K12 hK12
    refine wlit ?_
    refine wl_v (x_build (bc_skip (.int .u8 0) <| bc_skip (.int .u8 0) <| bc_skip (.int .u8 0) <| bc_skip (.int .u8 0) <| bc_skip (.int .u8 0) <| bc_skip (.int .u8 0) <| bc_skip (.int .u8 0) <| bc_skip (.int .u8 0) <| bc_skip (.int .u8 0) <| bc_skip (.int .u8 0) <| bc_skip (.int .u8 0) <| bc_skip (.int .u8 0) <| bc_skip (.int .u8 0) <| bc_skip (.int .u8 0) <| bc_skip (.int .u8 0) <| bc_skip (.int .u8 0) <| bc_nil) (by kernel_rfl)) ?_
    refine wl_e rfl ?_; intro K hK
    refine ow_storeA hS 0 rfl ts_67 (tmP rfl rfl) (tmA rfl rfl) rfl rfl rfl ?_
    clear hS; intro w hS
    try replace hS := St.nm (M' := [.blk _ _ [_, _, _, _, _, _, _, _, _, _, _, _, _, _, _, _], .blk _ _ [_, _, _, _, _, _, _, _, _, _, _, _, _, _, _, _, _], _]) hS rfl
    refine hK _ _ ?_; clear hK K
    refine wl_v (x_assign ev_c) ?_
    refine wl_nil ?_
    refine then_n (hK12 _ _ ?_); clear hK12 K12
    refine wp_ret ?_
    refine ret2 rfl (.cell rfl rfl (load_rowB (cs := [_, _, _, _, _, _, _, _, _, _, _, _, _, _, _, _]) hS.ok 0 rfl Try.underlying67 rfl ts_67 rfl)) (.tmp rfl (show _ = Value.bool _ from rfl)) ?_
    refine ⟨?_, hS.kp⟩
    first
      | (have h1 : bit = ((u % 2 : Nat) : Int) := by omega
         obtain ⟨e1, e2⟩ := at1 (k := k) h1; rw [e1, e2]; first | done | rfl)
      | (have h1 : bit ≠ ((u % 2 : Nat) : Int) := by omega
         have h2 : bit = 1 - ((u % 2 : Nat) : Int) := by omega
         have h3 : u ≠ 0 := by omega
         obtain ⟨e1, e2⟩ := at2 (k := k) h1 h2 h3; rw [e1, e2]; first | done | rfl)
      | (have h1 : bit ≠ ((u % 2 : Nat) : Int) := by omega
         have h2 : ¬ (bit = 1 - ((u % 2 : Nat) : Int) ∧ u ≠ 0) := by omega
         obtain ⟨e1, e2⟩ := at3 (k := k) h1 h2; rw [e1, e2]; first | done | rfl)
set_option maxRecDepth 100000 in
set_option maxHeartbeats 4000000 in
theorem rring_at_b (k : Nat → Nat) (u : Nat) (b : Nat) (w0 : World) (hkb : Bytes (kL k)) (hu : u ≤ 18446744073709551615) (hb : b < 2) :
    Calls Try.prog 38 #[.agg (rgC k u).toArray, .int .i64 (b : Int)] w0 fun e w' => e = .returned (.tuple #[.agg (kC (atK k u b)).toArray, .bool (atB u b)]) ∧ Kp [] w0 w' := by
  have hS := St.sv w0
  refine ent (n := 30) Try.func38 rfl rfl ?_
  refine wp_seq_k ?_; intro K1 hK1
  refine wlit ?_
  refine wl_e rfl ?_; intro K hK
  refine ow_box hS (tmA rfl rfl) rfl ?_
  clear hS; intro g0_0 w hg0_0 hS
  refine hK _ _ ?_; clear hK K
  refine wl_e rfl ?_; intro K hK
  refine ow_alloc hS tz_64 rfl ?_
  clear hS; intro g0_1 w hg0_1 hS
  refine hK _ _ ?_; clear hK K
  refine wl_v (x_assign ev_c) ?_
  refine wl_nil ?_
  refine then_n (hK1 _ _ ?_); clear hK1 K1
  refine wp_seq_k ?_; intro K2 hK2
  refine wp_seq_k ?_; intro K3 hK3
  refine wlit ?_
  refine wl_v (x_move (tmI rfl rfl)) ?_
  refine wl_v (x_neq (tmI rfl rfl) (ev_cN 0)) ?_
  refine wl_v (x_move (tmB rfl rfl)) ?_
  refine gs_wl (tm (t := 9) rfl) (fun hg1_2 => ?_) (fun hg1_2 => ?_)
  · have hg1_2' := hg1_2; (try simp only [nrm] at hg1_2'); try (exfalso; first | with_reducible exact absurd hg1_2 Bool.false_ne_true | with_reducible exact absurd hg1_2.symm Bool.false_ne_true | omega | (simp at hg1_2; done))
    all_goals
     refine wl_gv (want_y rfl rfl rfl rfl (by rw [hg1_2]; rfl)) (x_move (tmI rfl rfl)) ?_
     refine wl_gv (want_y rfl rfl rfl rfl (by rw [hg1_2]; rfl)) (x_neq (tmI rfl rfl) (ev_cN 1)) ?_
     refine wl_v (x_pickT (tmB rfl rfl) hg1_2 (tmB rfl rfl)) ?_
     refine wl_nil ?_
     refine then_n (hK3 _ _ ?_); clear hK3 K3
     refine cnd (tm rfl) (fun hc0 => ?_) (fun hc0 => ?_)
     · exfalso
       simp only [nrm] at hc0 hg1_2
       omega
     try (exfalso; first | with_reducible exact absurd hc0 Bool.false_ne_true | with_reducible exact absurd hc0.symm Bool.false_ne_true | (simp only [nrm] at hc0; omega) | (simp at hc0; done))
     all_goals
      try simp only [nrm] at hc0
      refine wp_skip ?_
      refine then_n (hK2 _ _ ?_); clear hK2 K2
      refine wp_seq_k ?_; intro K4 hK4
      refine wlit ?_
      refine wl_v (x_fa 16 Try.underlying66 rfl rfl ts_24 (tmP rfl rfl)) ?_
      first
       | refine wl_v (x_load Try.underlying24 rfl (tmP rfl rfl) (cellB hS.ok 1 rfl rfl)) ?_
       | refine wl_v (x_load Try.underlying24 rfl (tmP rfl rfl) (cellB hS.ok 1 rfl (getm (by omega)))) ?_
      refine wl_v (x_assign (tmI rfl rfl)) ?_
      refine wl_nil ?_
      refine then_n (hK4 _ _ ?_); clear hK4 K4
      refine wp_seq_k ?_; intro K5 hK5
      refine wp_seq_k ?_; intro K6 hK6
      refine wlit ?_
      refine wl_v (x_move (tmI rfl rfl)) ?_
      first
       | refine wl_v (x_convN Try.underlying3 Try.underlying24 (tmI rfl rfl) (fit_u64 (by omega))) ?_
       | refine wl_v (x_convU Try.underlying3 Try.underlying24 (tmI rfl rfl) rfl) ?_
       | refine wl_v (x_conv Try.underlying3 Try.underlying24 (tmI rfl rfl)) ?_
      refine wl_v (x_move (tmI rfl rfl)) ?_
      first
       | refine wl_v (x_remN (tmI rfl rfl) (ev_cN 2) (by omega)) ?_
       | refine wl_v (x_rem (tmI rfl rfl) (ev_cN 2) (by omega)) ?_
      refine wl_v (x_neq (tmI rfl rfl) (tmI rfl rfl)) ?_
      refine wl_nil ?_
      refine then_n (hK6 _ _ ?_); clear hK6 K6
      refine cnd (tm rfl) (fun hc1 => ?_) (fun hc1 => ?_)
      · try (exfalso; first | with_reducible exact absurd hc1 Bool.false_ne_true | with_reducible exact absurd hc1.symm Bool.false_ne_true | (simp only [nrm] at hc1; omega) | (simp at hc1; done))
        all_goals
         try simp only [nrm] at hc1
         refine wp_seq_k ?_; intro K7 hK7
         refine wp_seq_k ?_; intro K8 hK8
         refine wlit ?_
         refine wl_v (x_move (tmI rfl rfl)) ?_
         refine wl_v (x_eql (tmI rfl rfl) (ev_cN 0)) ?_
         refine wl_nil ?_
         refine then_n (hK8 _ _ ?_); clear hK8 K8
         refine cnd (tm rfl) (fun hc2 => ?_) (fun hc2 => ?_)
         · try (exfalso; first | with_reducible exact absurd hc2 Bool.false_ne_true | with_reducible exact absurd hc2.symm Bool.false_ne_true | (simp only [nrm] at hc2; omega) | (simp at hc2; done))
           all_goals
            try simp only [nrm] at hc2
            refine wp_seq_k ?_; intro K9 hK9
            refine wlit ?_
            refine wl_v (x_build (bc_skip (.int .u8 0) <| bc_skip (.int .u8 0) <| bc_skip (.int .u8 0) <| bc_skip (.int .u8 0) <| bc_skip (.int .u8 0) <| bc_skip (.int .u8 0) <| bc_skip (.int .u8 0) <| bc_skip (.int .u8 0) <| bc_skip (.int .u8 0) <| bc_skip (.int .u8 0) <| bc_skip (.int .u8 0) <| bc_skip (.int .u8 0) <| bc_skip (.int .u8 0) <| bc_skip (.int .u8 0) <| bc_skip (.int .u8 0) <| bc_skip (.int .u8 0) <| bc_nil) (by kernel_rfl)) ?_
            refine wl_e rfl ?_; intro K hK
            refine ow_storeA hS 0 rfl ts_64 (tmP rfl rfl) (tmA rfl rfl) rfl rfl rfl ?_
            clear hS; intro w hS
            try replace hS := St.nm (M' := [.blk _ _ [_, _, _, _, _, _, _, _, _, _, _, _, _, _, _, _], .blk _ _ [_, _, _, _, _, _, _, _, _, _, _, _, _, _, _, _, _], _]) hS rfl
            refine hK _ _ ?_; clear hK K
            refine wl_v (x_assign ev_c) ?_
            refine wl_nil ?_
            refine then_n (hK9 _ _ ?_); clear hK9 K9
            refine wp_ret ?_
            refine then_r ?_
            refine then_r ?_
            refine ret2 rfl (.cell rfl rfl (load_rowB (cs := [_, _, _, _, _, _, _, _, _, _, _, _, _, _, _, _]) hS.ok 0 rfl Try.underlying64 rfl ts_64 rfl)) (.tmp rfl (show _ = Value.bool _ from rfl)) ?_
            refine ⟨?_, hS.kp⟩
            first
              | (have h1 : ((b : Nat) : Int) = ((u % 2 : Nat) : Int) := by omega
                 obtain ⟨e1, e2⟩ := at1 (k := k) h1; rw [e1, e2]; first | done | rfl)
              | (have h1 : ((b : Nat) : Int) ≠ ((u % 2 : Nat) : Int) := by omega
                 have h2 : ((b : Nat) : Int) = 1 - ((u % 2 : Nat) : Int) := by omega
                 have h3 : u ≠ 0 := by omega
                 obtain ⟨e1, e2⟩ := at2 (k := k) h1 h2 h3; rw [e1, e2]; first | done | rfl)
              | (have h1 : ((b : Nat) : Int) ≠ ((u % 2 : Nat) : Int) := by omega
                 have h2 : ¬ (((b : Nat) : Int) = 1 - ((u % 2 : Nat) : Int) ∧ u ≠ 0) := by omega
                 obtain ⟨e1, e2⟩ := at3 (k := k) h1 h2; rw [e1, e2]; first | done | rfl)
         try (exfalso; first | with_reducible exact absurd hc2 Bool.false_ne_true | with_reducible exact absurd hc2.symm Bool.false_ne_true | (simp only [nrm] at hc2; omega) | (simp at hc2; done))
         all_goals
          try simp only [nrm] at hc2
          refine wp_skip ?_
          refine then_n (hK7 _ _ ?_); clear hK7 K7
          refine wlit ?_
          refine wl_v (x_move (tmI rfl rfl)) ?_
          first
           | refine wl_v (x_subN (tmI rfl rfl) (ev_cN 1) (fit_u64 (by omega)) (by omega)) ?_
           | refine wl_v (x_subI (tmI rfl rfl) (ev_cN 1) (IntWalk.u64_in _ (by omega))) ?_
           | refine wl_v (x_subU (tmI rfl rfl) (ev_cN 1) rfl (fit_u64 (by omega))) ?_
           | refine wl_v (x_sub (tmI rfl rfl) (ev_cN 1)) ?_
          refine wl_v (x_assign (tmI rfl rfl)) ?_
          refine wl_nil ?_
          refine then_n (hK5 _ _ ?_); clear hK5 K5
          refine wp_seq_k ?_; intro K11 hK11
          refine wlit ?_
          refine wl_v (x_fa 0 Try.underlying66 rfl rfl ts_64 (tmP rfl rfl)) ?_
          refine wl_v (x_loadA (cs := [_, _, _, _, _, _, _, _, _, _, _, _, _, _, _, _]) Try.underlying64 rfl ts_64 (tmP rfl rfl) (rangeB hS.ok 1 rfl rfl)) ?_
          refine wl_v (x_move (tmI rfl rfl)) ?_
          refine wl_e rfl ?_; intro K hK
          refine ow_call Try.func99 rfl rfl (evs_cons (tmA rfl rfl) <| evs_cons (tmI rfl rfl) <| evs_nil) (rderive_c k _ _ hkb (by omega)) ?_
          rintro e w ⟨rfl, hk⟩
          refine ⟨_, rfl, ?_⟩
          replace hS := hS.kept hk
          clear hk
          refine hK _ _ ?_; clear hK K
          refine wl_e rfl ?_; intro K hK
          refine ow_storeA hS 0 rfl ts_64 (tmP rfl rfl) (tmA rfl rfl) rfl rfl rfl ?_
          clear hS; intro w hS
          try replace hS := St.nm (M' := [.blk _ _ [_, _, _, _, _, _, _, _, _, _, _, _, _, _, _, _], .blk _ _ [_, _, _, _, _, _, _, _, _, _, _, _, _, _, _, _, _], _]) hS rfl
          refine hK _ _ ?_; clear hK K
          refine wl_v (x_assign ev_c) ?_
          refine wl_nil ?_
          refine then_n (hK11 _ _ ?_); clear hK11 K11
          refine wp_ret ?_
          refine ret2 rfl (.cell rfl rfl (load_rowB (cs := [_, _, _, _, _, _, _, _, _, _, _, _, _, _, _, _]) hS.ok 0 rfl Try.underlying64 rfl ts_64 rfl)) (.tmp rfl (show _ = Value.bool _ from rfl)) ?_
          refine ⟨?_, hS.kp⟩
          first
            | (have h1 : ((b : Nat) : Int) = ((u % 2 : Nat) : Int) := by omega
               obtain ⟨e1, e2⟩ := at1 (k := k) h1; rw [e1, e2]; first | done | rfl)
            | (have h1 : ((b : Nat) : Int) ≠ ((u % 2 : Nat) : Int) := by omega
               have h2 : ((b : Nat) : Int) = 1 - ((u % 2 : Nat) : Int) := by omega
               have h3 : u ≠ 0 := by omega
               obtain ⟨e1, e2⟩ := at2 (k := k) h1 h2 h3; rw [e1, e2]; first | done | rfl)
            | (have h1 : ((b : Nat) : Int) ≠ ((u % 2 : Nat) : Int) := by omega
               have h2 : ¬ (((b : Nat) : Int) = 1 - ((u % 2 : Nat) : Int) ∧ u ≠ 0) := by omega
               obtain ⟨e1, e2⟩ := at3 (k := k) h1 h2; rw [e1, e2]; first | done | rfl)
      try (exfalso; first | with_reducible exact absurd hc1 Bool.false_ne_true | with_reducible exact absurd hc1.symm Bool.false_ne_true | (simp only [nrm] at hc1; omega) | (simp at hc1; done))
      all_goals
       try simp only [nrm] at hc1
       refine wp_skip ?_
       refine then_n (hK5 _ _ ?_); clear hK5 K5
       refine wp_seq_k ?_; intro K13 hK13
       refine wlit ?_
       refine wl_v (x_fa 0 Try.underlying66 rfl rfl ts_64 (tmP rfl rfl)) ?_
       refine wl_v (x_loadA (cs := [_, _, _, _, _, _, _, _, _, _, _, _, _, _, _, _]) Try.underlying64 rfl ts_64 (tmP rfl rfl) (rangeB hS.ok 1 rfl rfl)) ?_
       refine wl_v (x_move (tmI rfl rfl)) ?_
       refine wl_e rfl ?_; intro K hK
       refine ow_call Try.func99 rfl rfl (evs_cons (tmA rfl rfl) <| evs_cons (tmI rfl rfl) <| evs_nil) (rderive_c k _ _ hkb (by omega)) ?_
       rintro e w ⟨rfl, hk⟩
       refine ⟨_, rfl, ?_⟩
       replace hS := hS.kept hk
       clear hk
       refine hK _ _ ?_; clear hK K
       refine wl_e rfl ?_; intro K hK
       refine ow_storeA hS 0 rfl ts_64 (tmP rfl rfl) (tmA rfl rfl) rfl rfl rfl ?_
       clear hS; intro w hS
       try replace hS := St.nm (M' := [.blk _ _ [_, _, _, _, _, _, _, _, _, _, _, _, _, _, _, _], .blk _ _ [_, _, _, _, _, _, _, _, _, _, _, _, _, _, _, _, _], _]) hS rfl
       refine hK _ _ ?_; clear hK K
       refine wl_v (x_assign ev_c) ?_
       refine wl_nil ?_
       refine then_n (hK13 _ _ ?_); clear hK13 K13
       refine wp_ret ?_
       refine ret2 rfl (.cell rfl rfl (load_rowB (cs := [_, _, _, _, _, _, _, _, _, _, _, _, _, _, _, _]) hS.ok 0 rfl Try.underlying64 rfl ts_64 rfl)) (.tmp rfl (show _ = Value.bool _ from rfl)) ?_
       refine ⟨?_, hS.kp⟩
       first
         | (have h1 : ((b : Nat) : Int) = ((u % 2 : Nat) : Int) := by omega
            obtain ⟨e1, e2⟩ := at1 (k := k) h1; rw [e1, e2]; first | done | rfl)
         | (have h1 : ((b : Nat) : Int) ≠ ((u % 2 : Nat) : Int) := by omega
            have h2 : ((b : Nat) : Int) = 1 - ((u % 2 : Nat) : Int) := by omega
            have h3 : u ≠ 0 := by omega
            obtain ⟨e1, e2⟩ := at2 (k := k) h1 h2 h3; rw [e1, e2]; first | done | rfl)
         | (have h1 : ((b : Nat) : Int) ≠ ((u % 2 : Nat) : Int) := by omega
            have h2 : ¬ (((b : Nat) : Int) = 1 - ((u % 2 : Nat) : Int) ∧ u ≠ 0) := by omega
            obtain ⟨e1, e2⟩ := at3 (k := k) h1 h2; rw [e1, e2]; first | done | rfl)
  have hg1_2' := hg1_2; (try simp only [nrm] at hg1_2'); try (exfalso; first | with_reducible exact absurd hg1_2 Bool.false_ne_true | with_reducible exact absurd hg1_2.symm Bool.false_ne_true | omega | (simp at hg1_2; done))
  all_goals
   refine wl_s rfl (want_n rfl rfl rfl rfl (by rw [hg1_2]; rfl)) ?_
   refine wl_s rfl (want_n rfl rfl rfl rfl (by rw [hg1_2]; rfl)) ?_
   refine wl_v (x_pickF (tmB rfl rfl) hg1_2 ev_c) ?_
   refine wl_nil ?_
   refine then_n (hK3 _ _ ?_); clear hK3 K3
   refine cnd_f (tmB rfl rfl) rfl ?_
   refine wp_skip ?_
   refine then_n (hK2 _ _ ?_); clear hK2 K2
   refine wp_seq_k ?_; intro K15 hK15
   refine wlit ?_
   refine wl_v (x_fa 16 Try.underlying66 rfl rfl ts_24 (tmP rfl rfl)) ?_
   first
    | refine wl_v (x_load Try.underlying24 rfl (tmP rfl rfl) (cellB hS.ok 1 rfl rfl)) ?_
    | refine wl_v (x_load Try.underlying24 rfl (tmP rfl rfl) (cellB hS.ok 1 rfl (getm (by omega)))) ?_
   refine wl_v (x_assign (tmI rfl rfl)) ?_
   refine wl_nil ?_
   refine then_n (hK15 _ _ ?_); clear hK15 K15
   refine wp_seq_k ?_; intro K16 hK16
   refine wp_seq_k ?_; intro K17 hK17
   refine wlit ?_
   refine wl_v (x_move (tmI rfl rfl)) ?_
   first
    | refine wl_v (x_convN Try.underlying3 Try.underlying24 (tmI rfl rfl) (fit_u64 (by omega))) ?_
    | refine wl_v (x_convU Try.underlying3 Try.underlying24 (tmI rfl rfl) rfl) ?_
    | refine wl_v (x_conv Try.underlying3 Try.underlying24 (tmI rfl rfl)) ?_
   refine wl_v (x_move (tmI rfl rfl)) ?_
   first
    | refine wl_v (x_remN (tmI rfl rfl) (ev_cN 2) (by omega)) ?_
    | refine wl_v (x_rem (tmI rfl rfl) (ev_cN 2) (by omega)) ?_
   refine wl_v (x_neq (tmI rfl rfl) (tmI rfl rfl)) ?_
   refine wl_nil ?_
   refine then_n (hK17 _ _ ?_); clear hK17 K17
   refine cnd (tm rfl) (fun hc1 => ?_) (fun hc1 => ?_)
   · try (exfalso; first | with_reducible exact absurd hc1 Bool.false_ne_true | with_reducible exact absurd hc1.symm Bool.false_ne_true | (simp only [nrm] at hc1; omega) | (simp at hc1; done))
     all_goals
      try simp only [nrm] at hc1
      refine wp_seq_k ?_; intro K18 hK18
      refine wp_seq_k ?_; intro K19 hK19
      refine wlit ?_
      refine wl_v (x_move (tmI rfl rfl)) ?_
      refine wl_v (x_eql (tmI rfl rfl) (ev_cN 0)) ?_
      refine wl_nil ?_
      refine then_n (hK19 _ _ ?_); clear hK19 K19
      refine cnd (tm rfl) (fun hc2 => ?_) (fun hc2 => ?_)
      · try (exfalso; first | with_reducible exact absurd hc2 Bool.false_ne_true | with_reducible exact absurd hc2.symm Bool.false_ne_true | (simp only [nrm] at hc2; omega) | (simp at hc2; done))
        all_goals
         try simp only [nrm] at hc2
         refine wp_seq_k ?_; intro K20 hK20
         refine wlit ?_
         refine wl_v (x_build (bc_skip (.int .u8 0) <| bc_skip (.int .u8 0) <| bc_skip (.int .u8 0) <| bc_skip (.int .u8 0) <| bc_skip (.int .u8 0) <| bc_skip (.int .u8 0) <| bc_skip (.int .u8 0) <| bc_skip (.int .u8 0) <| bc_skip (.int .u8 0) <| bc_skip (.int .u8 0) <| bc_skip (.int .u8 0) <| bc_skip (.int .u8 0) <| bc_skip (.int .u8 0) <| bc_skip (.int .u8 0) <| bc_skip (.int .u8 0) <| bc_skip (.int .u8 0) <| bc_nil) (by kernel_rfl)) ?_
         refine wl_e rfl ?_; intro K hK
         refine ow_storeA hS 0 rfl ts_64 (tmP rfl rfl) (tmA rfl rfl) rfl rfl rfl ?_
         clear hS; intro w hS
         try replace hS := St.nm (M' := [.blk _ _ [_, _, _, _, _, _, _, _, _, _, _, _, _, _, _, _], .blk _ _ [_, _, _, _, _, _, _, _, _, _, _, _, _, _, _, _, _], _]) hS rfl
         refine hK _ _ ?_; clear hK K
         refine wl_v (x_assign ev_c) ?_
         refine wl_nil ?_
         refine then_n (hK20 _ _ ?_); clear hK20 K20
         refine wp_ret ?_
         refine then_r ?_
         refine then_r ?_
         refine ret2 rfl (.cell rfl rfl (load_rowB (cs := [_, _, _, _, _, _, _, _, _, _, _, _, _, _, _, _]) hS.ok 0 rfl Try.underlying64 rfl ts_64 rfl)) (.tmp rfl (show _ = Value.bool _ from rfl)) ?_
         refine ⟨?_, hS.kp⟩
         first
           | (have h1 : ((b : Nat) : Int) = ((u % 2 : Nat) : Int) := by omega
              obtain ⟨e1, e2⟩ := at1 (k := k) h1; rw [e1, e2]; first | done | rfl)
           | (have h1 : ((b : Nat) : Int) ≠ ((u % 2 : Nat) : Int) := by omega
              have h2 : ((b : Nat) : Int) = 1 - ((u % 2 : Nat) : Int) := by omega
              have h3 : u ≠ 0 := by omega
              obtain ⟨e1, e2⟩ := at2 (k := k) h1 h2 h3; rw [e1, e2]; first | done | rfl)
           | (have h1 : ((b : Nat) : Int) ≠ ((u % 2 : Nat) : Int) := by omega
              have h2 : ¬ (((b : Nat) : Int) = 1 - ((u % 2 : Nat) : Int) ∧ u ≠ 0) := by omega
              obtain ⟨e1, e2⟩ := at3 (k := k) h1 h2; rw [e1, e2]; first | done | rfl)
      try (exfalso; first | with_reducible exact absurd hc2 Bool.false_ne_true | with_reducible exact absurd hc2.symm Bool.false_ne_true | (simp only [nrm] at hc2; omega) | (simp at hc2; done))
      all_goals
       try simp only [nrm] at hc2
       refine wp_skip ?_
       refine then_n (hK18 _ _ ?_); clear hK18 K18
       refine wlit ?_
       refine wl_v (x_move (tmI rfl rfl)) ?_
       first
        | refine wl_v (x_subN (tmI rfl rfl) (ev_cN 1) (fit_u64 (by omega)) (by omega)) ?_
        | refine wl_v (x_subI (tmI rfl rfl) (ev_cN 1) (IntWalk.u64_in _ (by omega))) ?_
        | refine wl_v (x_subU (tmI rfl rfl) (ev_cN 1) rfl (fit_u64 (by omega))) ?_
        | refine wl_v (x_sub (tmI rfl rfl) (ev_cN 1)) ?_
       refine wl_v (x_assign (tmI rfl rfl)) ?_
       refine wl_nil ?_
       refine then_n (hK16 _ _ ?_); clear hK16 K16
       refine wp_seq_k ?_; intro K22 hK22
       refine wlit ?_
       refine wl_v (x_fa 0 Try.underlying66 rfl rfl ts_64 (tmP rfl rfl)) ?_
       refine wl_v (x_loadA (cs := [_, _, _, _, _, _, _, _, _, _, _, _, _, _, _, _]) Try.underlying64 rfl ts_64 (tmP rfl rfl) (rangeB hS.ok 1 rfl rfl)) ?_
       refine wl_v (x_move (tmI rfl rfl)) ?_
       refine wl_e rfl ?_; intro K hK
       refine ow_call Try.func99 rfl rfl (evs_cons (tmA rfl rfl) <| evs_cons (tmI rfl rfl) <| evs_nil) (rderive_c k _ _ hkb (by omega)) ?_
       rintro e w ⟨rfl, hk⟩
       refine ⟨_, rfl, ?_⟩
       replace hS := hS.kept hk
       clear hk
       refine hK _ _ ?_; clear hK K
       refine wl_e rfl ?_; intro K hK
       refine ow_storeA hS 0 rfl ts_64 (tmP rfl rfl) (tmA rfl rfl) rfl rfl rfl ?_
       clear hS; intro w hS
       try replace hS := St.nm (M' := [.blk _ _ [_, _, _, _, _, _, _, _, _, _, _, _, _, _, _, _], .blk _ _ [_, _, _, _, _, _, _, _, _, _, _, _, _, _, _, _, _], _]) hS rfl
       refine hK _ _ ?_; clear hK K
       refine wl_v (x_assign ev_c) ?_
       refine wl_nil ?_
       refine then_n (hK22 _ _ ?_); clear hK22 K22
       refine wp_ret ?_
       refine ret2 rfl (.cell rfl rfl (load_rowB (cs := [_, _, _, _, _, _, _, _, _, _, _, _, _, _, _, _]) hS.ok 0 rfl Try.underlying64 rfl ts_64 rfl)) (.tmp rfl (show _ = Value.bool _ from rfl)) ?_
       refine ⟨?_, hS.kp⟩
       first
         | (have h1 : ((b : Nat) : Int) = ((u % 2 : Nat) : Int) := by omega
            obtain ⟨e1, e2⟩ := at1 (k := k) h1; rw [e1, e2]; first | done | rfl)
         | (have h1 : ((b : Nat) : Int) ≠ ((u % 2 : Nat) : Int) := by omega
            have h2 : ((b : Nat) : Int) = 1 - ((u % 2 : Nat) : Int) := by omega
            have h3 : u ≠ 0 := by omega
            obtain ⟨e1, e2⟩ := at2 (k := k) h1 h2 h3; rw [e1, e2]; first | done | rfl)
         | (have h1 : ((b : Nat) : Int) ≠ ((u % 2 : Nat) : Int) := by omega
            have h2 : ¬ (((b : Nat) : Int) = 1 - ((u % 2 : Nat) : Int) ∧ u ≠ 0) := by omega
            obtain ⟨e1, e2⟩ := at3 (k := k) h1 h2; rw [e1, e2]; first | done | rfl)
   try (exfalso; first | with_reducible exact absurd hc1 Bool.false_ne_true | with_reducible exact absurd hc1.symm Bool.false_ne_true | (simp only [nrm] at hc1; omega) | (simp at hc1; done))
   all_goals
    try simp only [nrm] at hc1
    refine wp_skip ?_
    refine then_n (hK16 _ _ ?_); clear hK16 K16
    refine wp_seq_k ?_; intro K24 hK24
    refine wlit ?_
    refine wl_v (x_fa 0 Try.underlying66 rfl rfl ts_64 (tmP rfl rfl)) ?_
    refine wl_v (x_loadA (cs := [_, _, _, _, _, _, _, _, _, _, _, _, _, _, _, _]) Try.underlying64 rfl ts_64 (tmP rfl rfl) (rangeB hS.ok 1 rfl rfl)) ?_
    refine wl_v (x_move (tmI rfl rfl)) ?_
    refine wl_e rfl ?_; intro K hK
    refine ow_call Try.func99 rfl rfl (evs_cons (tmA rfl rfl) <| evs_cons (tmI rfl rfl) <| evs_nil) (rderive_c k _ _ hkb (by omega)) ?_
    rintro e w ⟨rfl, hk⟩
    refine ⟨_, rfl, ?_⟩
    replace hS := hS.kept hk
    clear hk
    refine hK _ _ ?_; clear hK K
    refine wl_e rfl ?_; intro K hK
    refine ow_storeA hS 0 rfl ts_64 (tmP rfl rfl) (tmA rfl rfl) rfl rfl rfl ?_
    clear hS; intro w hS
    try replace hS := St.nm (M' := [.blk _ _ [_, _, _, _, _, _, _, _, _, _, _, _, _, _, _, _], .blk _ _ [_, _, _, _, _, _, _, _, _, _, _, _, _, _, _, _, _], _]) hS rfl
    refine hK _ _ ?_; clear hK K
    refine wl_v (x_assign ev_c) ?_
    refine wl_nil ?_
    refine then_n (hK24 _ _ ?_); clear hK24 K24
    refine wp_ret ?_
    refine ret2 rfl (.cell rfl rfl (load_rowB (cs := [_, _, _, _, _, _, _, _, _, _, _, _, _, _, _, _]) hS.ok 0 rfl Try.underlying64 rfl ts_64 rfl)) (.tmp rfl (show _ = Value.bool _ from rfl)) ?_
    refine ⟨?_, hS.kp⟩
    first
      | (have h1 : ((b : Nat) : Int) = ((u % 2 : Nat) : Int) := by omega
         obtain ⟨e1, e2⟩ := at1 (k := k) h1; rw [e1, e2]; first | done | rfl)
      | (have h1 : ((b : Nat) : Int) ≠ ((u % 2 : Nat) : Int) := by omega
         have h2 : ((b : Nat) : Int) = 1 - ((u % 2 : Nat) : Int) := by omega
         have h3 : u ≠ 0 := by omega
         obtain ⟨e1, e2⟩ := at2 (k := k) h1 h2 h3; rw [e1, e2]; first | done | rfl)
      | (have h1 : ((b : Nat) : Int) ≠ ((u % 2 : Nat) : Int) := by omega
         have h2 : ¬ (((b : Nat) : Int) = 1 - ((u % 2 : Nat) : Int) ∧ u ≠ 0) := by omega
         obtain ⟨e1, e2⟩ := at3 (k := k) h1 h2; rw [e1, e2]; first | done | rfl)
set_option maxRecDepth 100000 in
set_option maxHeartbeats 4000000 in
theorem rring_at_n (k : Nat → Nat) (u : Nat) (bit : Int) (w0 : World) (h0 : bit ≠ 0) (h1 : bit ≠ 1) :
    Calls Try.prog 38 #[.agg (rgC k u).toArray, .int .i64 bit] w0 fun e w' => e = .returned (.tuple #[.agg (kC (atK k u bit)).toArray, .bool (atB u bit)]) ∧ Kp [] w0 w' := by
  have hS := St.sv w0
  refine ent (n := 30) Try.func38 rfl rfl ?_
  refine wp_seq_k ?_; intro K1 hK1
  refine wlit ?_
  refine wl_e rfl ?_; intro K hK
  refine ow_box hS (tmA rfl rfl) rfl ?_
  clear hS; intro g0_0 w hg0_0 hS
  refine hK _ _ ?_; clear hK K
  refine wl_e rfl ?_; intro K hK
  refine ow_alloc hS tz_64 rfl ?_
  clear hS; intro g0_1 w hg0_1 hS
  refine hK _ _ ?_; clear hK K
  refine wl_v (x_assign ev_c) ?_
  refine wl_nil ?_
  refine then_n (hK1 _ _ ?_); clear hK1 K1
  refine wp_seq_k ?_; intro K2 hK2
  refine wp_seq_k ?_; intro K3 hK3
  refine wlit ?_
  refine wl_v (x_move (tmI rfl rfl)) ?_
  refine wl_v (x_neq (tmI rfl rfl) (ev_cN 0)) ?_
  refine wl_v (x_move (tmB rfl rfl)) ?_
  refine gs_wl (tm (t := 9) rfl) (fun hg1_2 => ?_) (fun hg1_2 => ?_)
  · have hg1_2' := hg1_2; (try simp only [nrm] at hg1_2'); try (exfalso; first | with_reducible exact absurd hg1_2 Bool.false_ne_true | with_reducible exact absurd hg1_2.symm Bool.false_ne_true | omega | (simp at hg1_2; done))
    all_goals
     refine wl_gv (want_y rfl rfl rfl rfl (by rw [hg1_2]; rfl)) (x_move (tmI rfl rfl)) ?_
     refine wl_gv (want_y rfl rfl rfl rfl (by rw [hg1_2]; rfl)) (x_neq (tmI rfl rfl) (ev_cN 1)) ?_
     refine wl_v (x_pickT (tmB rfl rfl) hg1_2 (tmB rfl rfl)) ?_
     refine wl_nil ?_
     refine then_n (hK3 _ _ ?_); clear hK3 K3
     refine cnds (tm rfl) (fun hc0 => ?_) (fun hc0 => ?_)
     · exfalso
       simp only [nrm] at hc0 hg1_2
       omega
     try (exfalso; first | with_reducible exact absurd hc0 Bool.false_ne_true | with_reducible exact absurd hc0.symm Bool.false_ne_true | (simp only [nrm] at hc0; omega) | (simp at hc0; done))
     all_goals
      try simp only [nrm] at hc0
      refine wp_seq_k ?_; intro K4 hK4
      refine wlit ?_
      refine wl_v (x_build (bc_skip (.int .u8 0) <| bc_skip (.int .u8 0) <| bc_skip (.int .u8 0) <| bc_skip (.int .u8 0) <| bc_skip (.int .u8 0) <| bc_skip (.int .u8 0) <| bc_skip (.int .u8 0) <| bc_skip (.int .u8 0) <| bc_skip (.int .u8 0) <| bc_skip (.int .u8 0) <| bc_skip (.int .u8 0) <| bc_skip (.int .u8 0) <| bc_skip (.int .u8 0) <| bc_skip (.int .u8 0) <| bc_skip (.int .u8 0) <| bc_skip (.int .u8 0) <| bc_nil) (by kernel_rfl)) ?_
      refine wl_e rfl ?_; intro K hK
      refine ow_storeA hS 0 rfl ts_64 (tmP rfl rfl) (tmA rfl rfl) rfl rfl rfl ?_
      clear hS; intro w hS
      try replace hS := St.nm (M' := [.blk _ _ [_, _, _, _, _, _, _, _, _, _, _, _, _, _, _, _], .blk _ _ [_, _, _, _, _, _, _, _, _, _, _, _, _, _, _, _, _], _]) hS rfl
      refine hK _ _ ?_; clear hK K
      refine wl_v (x_assign ev_c) ?_
      refine wl_nil ?_
      refine then_n (hK4 _ _ ?_); clear hK4 K4
      refine wp_ret ?_
      refine then_r ?_
      refine ret2 rfl (.cell rfl rfl (load_rowB (cs := [_, _, _, _, _, _, _, _, _, _, _, _, _, _, _, _]) hS.ok 0 rfl Try.underlying64 rfl ts_64 rfl)) (.tmp rfl (show _ = Value.bool _ from rfl)) ?_
      refine ⟨?_, hS.kp⟩
      obtain ⟨e1, e2⟩ := at3 (k := k) (u := u) (bit := bit) (by omega) (by omega)
      rw [e1, e2]
      first | done | rfl
  have hg1_2' := hg1_2; (try simp only [nrm] at hg1_2'); try (exfalso; first | with_reducible exact absurd hg1_2 Bool.false_ne_true | with_reducible exact absurd hg1_2.symm Bool.false_ne_true | omega | (simp at hg1_2; done))
  all_goals
   refine wl_s rfl (want_n rfl rfl rfl rfl (by rw [hg1_2]; rfl)) ?_
   refine wl_s rfl (want_n rfl rfl rfl rfl (by rw [hg1_2]; rfl)) ?_
   refine wl_v (x_pickF (tmB rfl rfl) hg1_2 ev_c) ?_
   refine wl_nil ?_
   refine then_n (hK3 _ _ ?_); clear hK3 K3
   refine cnd_f (tmB rfl rfl) rfl ?_
   refine wp_skip ?_
   refine then_n (hK2 _ _ ?_); clear hK2 K2
   refine wp_seq_k ?_; intro K6 hK6
   refine wlit ?_
   refine wl_v (x_fa 16 Try.underlying66 rfl rfl ts_24 (tmP rfl rfl)) ?_
   first
    | refine wl_v (x_load Try.underlying24 rfl (tmP rfl rfl) (cellB hS.ok 1 rfl rfl)) ?_
    | refine wl_v (x_load Try.underlying24 rfl (tmP rfl rfl) (cellB hS.ok 1 rfl (getm (by omega)))) ?_
   refine wl_v (x_assign (tmI rfl rfl)) ?_
   refine wl_nil ?_
   refine then_n (hK6 _ _ ?_); clear hK6 K6
   refine wp_seq_k ?_; intro K7 hK7
   refine wp_seq_k ?_; intro K8 hK8
   refine wlit ?_
   refine wl_v (x_move (tmI rfl rfl)) ?_
   first
    | refine wl_v (x_convN Try.underlying3 Try.underlying24 (tmI rfl rfl) (fit_u64 (by omega))) ?_
    | refine wl_v (x_convU Try.underlying3 Try.underlying24 (tmI rfl rfl) rfl) ?_
    | refine wl_v (x_conv Try.underlying3 Try.underlying24 (tmI rfl rfl)) ?_
   refine wl_v (x_move (tmI rfl rfl)) ?_
   first
    | refine wl_v (x_remN (tmI rfl rfl) (ev_cN 2) (by omega)) ?_
    | refine wl_v (x_rem (tmI rfl rfl) (ev_cN 2) (by omega)) ?_
   refine wl_v (x_neq (tmI rfl rfl) (tmI rfl rfl)) ?_
   refine wl_nil ?_
   refine then_n (hK8 _ _ ?_); clear hK8 K8
   refine cnd (tm rfl) (fun hc1 => ?_) (fun hc1 => ?_)
   · try (exfalso; first | with_reducible exact absurd hc1 Bool.false_ne_true | with_reducible exact absurd hc1.symm Bool.false_ne_true | (simp only [nrm] at hc1; omega) | (simp at hc1; done))
     all_goals
      try simp only [nrm] at hc1
      refine wp_seq_k ?_; intro K9 hK9
      refine wp_seq_k ?_; intro K10 hK10
      refine wlit ?_
      refine wl_v (x_move (tmI rfl rfl)) ?_
      refine wl_v (x_eql (tmI rfl rfl) (ev_cN 0)) ?_
      refine wl_nil ?_
      refine then_n (hK10 _ _ ?_); clear hK10 K10
      refine cnd (tm rfl) (fun hc2 => ?_) (fun hc2 => ?_)
      · try (exfalso; first | with_reducible exact absurd hc2 Bool.false_ne_true | with_reducible exact absurd hc2.symm Bool.false_ne_true | (simp only [nrm] at hc2; omega) | (simp at hc2; done))
        all_goals
         try simp only [nrm] at hc2
         refine wp_seq_k ?_; intro K11 hK11
         refine wlit ?_
         refine wl_v (x_build (bc_skip (.int .u8 0) <| bc_skip (.int .u8 0) <| bc_skip (.int .u8 0) <| bc_skip (.int .u8 0) <| bc_skip (.int .u8 0) <| bc_skip (.int .u8 0) <| bc_skip (.int .u8 0) <| bc_skip (.int .u8 0) <| bc_skip (.int .u8 0) <| bc_skip (.int .u8 0) <| bc_skip (.int .u8 0) <| bc_skip (.int .u8 0) <| bc_skip (.int .u8 0) <| bc_skip (.int .u8 0) <| bc_skip (.int .u8 0) <| bc_skip (.int .u8 0) <| bc_nil) (by kernel_rfl)) ?_
         refine wl_e rfl ?_; intro K hK
         refine ow_storeA hS 0 rfl ts_64 (tmP rfl rfl) (tmA rfl rfl) rfl rfl rfl ?_
         clear hS; intro w hS
         try replace hS := St.nm (M' := [.blk _ _ [_, _, _, _, _, _, _, _, _, _, _, _, _, _, _, _], .blk _ _ [_, _, _, _, _, _, _, _, _, _, _, _, _, _, _, _, _], _]) hS rfl
         refine hK _ _ ?_; clear hK K
         refine wl_v (x_assign ev_c) ?_
         refine wl_nil ?_
         refine then_n (hK11 _ _ ?_); clear hK11 K11
         refine wp_ret ?_
         refine then_r ?_
         refine then_r ?_
         refine ret2 rfl (.cell rfl rfl (load_rowB (cs := [_, _, _, _, _, _, _, _, _, _, _, _, _, _, _, _]) hS.ok 0 rfl Try.underlying64 rfl ts_64 rfl)) (.tmp rfl (show _ = Value.bool _ from rfl)) ?_
         refine ⟨?_, hS.kp⟩
         obtain ⟨e1, e2⟩ := at3 (k := k) (u := u) (bit := bit) (by omega) (by omega)
         rw [e1, e2]
         first | done | rfl
      try (exfalso; first | with_reducible exact absurd hc2 Bool.false_ne_true | with_reducible exact absurd hc2.symm Bool.false_ne_true | (simp only [nrm] at hc2; omega) | (simp at hc2; done))
      all_goals
       try simp only [nrm] at hc2
       refine wp_skip ?_
       refine then_n (hK9 _ _ ?_); clear hK9 K9
       refine wlit ?_
       refine wl_v (x_move (tmI rfl rfl)) ?_
       first
        | refine wl_v (x_subN (tmI rfl rfl) (ev_cN 1) (fit_u64 (by omega)) (by omega)) ?_
        | refine wl_v (x_subI (tmI rfl rfl) (ev_cN 1) (IntWalk.u64_in _ (by omega))) ?_
        | refine wl_v (x_subU (tmI rfl rfl) (ev_cN 1) rfl (fit_u64 (by omega))) ?_
        | refine wl_v (x_sub (tmI rfl rfl) (ev_cN 1)) ?_
       refine wl_v (x_assign (tmI rfl rfl)) ?_
       refine wl_nil ?_
       refine then_n (hK7 _ _ ?_); clear hK7 K7
       refine wp_seq_k ?_; intro K13 hK13
       refine wlit ?_
       refine wl_v (x_fa 0 Try.underlying66 rfl rfl ts_64 (tmP rfl rfl)) ?_
       refine wl_v (x_loadA (cs := [_, _, _, _, _, _, _, _, _, _, _, _, _, _, _, _]) Try.underlying64 rfl ts_64 (tmP rfl rfl) (rangeB hS.ok 1 rfl rfl)) ?_
       refine wl_v (x_move (tmI rfl rfl)) ?_
       refine wl_e rfl ?_; intro K hK
       fail "no contract for counterfoil/counterfoilref10.Derive (r8.3)"
   try (exfalso; first | with_reducible exact absurd hc1 Bool.false_ne_true | with_reducible exact absurd hc1.symm Bool.false_ne_true | (simp only [nrm] at hc1; omega) | (simp at hc1; done))
   all_goals
    try simp only [nrm] at hc1
    refine wp_skip ?_
    refine then_n (hK7 _ _ ?_); clear hK7 K7
    refine wp_seq_k ?_; intro K14 hK14
    refine wlit ?_
    refine wl_v (x_fa 0 Try.underlying66 rfl rfl ts_64 (tmP rfl rfl)) ?_
    refine wl_v (x_loadA (cs := [_, _, _, _, _, _, _, _, _, _, _, _, _, _, _, _]) Try.underlying64 rfl ts_64 (tmP rfl rfl) (rangeB hS.ok 1 rfl rfl)) ?_
    refine wl_v (x_move (tmI rfl rfl)) ?_
    refine wl_e rfl ?_; intro K hK
    fail "no contract for counterfoil/counterfoilref10.Derive (r8.3)"
theorem rring_at_c (k : Nat → Nat) (u : Nat) (bit : Int) (w0 : World) (hkb : Bytes (kL k)) (hu : u ≤ 18446744073709551615) :
    Calls Try.prog 38 #[.agg (rgC k u).toArray, .int .i64 bit] w0 fun e w' => e = .returned (.tuple #[.agg (kC (atK k u bit)).toArray, .bool (atB u bit)]) ∧ Kp [] w0 w' := by
  by_cases h0 : bit = 0
  · subst h0; exact rring_at_b k u 0 w0 hkb hu (by omega)
  · by_cases h1 : bit = 1
    · subst h1; exact rring_at_b k u 1 w0 hkb hu (by omega)
    · exact rring_at_n k u bit w0 h0 h1
end Go.Proofs.Ytilgolflpdpfnaa
