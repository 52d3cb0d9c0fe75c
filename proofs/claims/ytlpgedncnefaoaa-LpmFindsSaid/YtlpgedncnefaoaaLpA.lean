
/- lpm: Bits, first, Cut, by contract. Conditions: none but bounds. -/
import Derived.Test.YtlpgedncnefaoaaAd
namespace Go.Proofs.Ytlpgedncnefaoaa
open Go.ChangeShapes Go.WideShapes Go.ChangeAt Go.RowKit
def adBits (a : Ad) : Nat := if a.six then 128 else 32
set_option maxRecDepth 100000 in
set_option maxHeartbeats 4000000 in
theorem lbits_c (a : Ad) (w0 : World) : Calls Try.prog 19 #[.agg a.V.toArray] w0 fun e w' => e = .returned (.int .i64 (adBits a : Int)) ∧ Kp [] w0 w' := by
  have hS := St.sv w0
  unfold adBits
  obtain ⟨six, high, low⟩ := a
  cases six with
  | true =>
    refine ent (n := 5) Try.func19 rfl rfl ?_
    refine wp_seq_k ?_; intro K1 hK1
    refine wlit ?_
    refine wl_e rfl ?_; intro K hK
    refine ow_box hS (tmA rfl rfl) rfl ?_
    clear hS; intro g0_0 w hg0_0 hS
    refine hK _ _ ?_; clear hK K
    refine wl_v (x_assign (ev_cN 0)) ?_
    refine wl_nil ?_
    refine then_n (hK1 _ _ ?_); clear hK1 K1
    refine wp_seq_k ?_; intro K2 hK2
    refine wp_seq_k ?_; intro K3 hK3
    refine wlit ?_
    refine wl_v (x_fa 0 Try.underlying25 rfl rfl ts_4 (tmP rfl rfl)) ?_
    first
     | refine wl_v (x_load Try.underlying4 rfl (tmP rfl rfl) (cellB hS.ok 0 rfl rfl)) ?_
     | refine wl_v (x_load Try.underlying4 rfl (tmP rfl rfl) (cellB hS.ok 0 rfl (getm (by omega)))) ?_
    refine wl_nil ?_
    refine then_n (hK3 _ _ ?_); clear hK3 K3
    refine cnd (tm rfl) (fun hc0 => ?_) (fun hc0 => ?_)
    · try (exfalso; first | with_reducible exact absurd hc0 Bool.false_ne_true | with_reducible exact absurd hc0.symm Bool.false_ne_true | (simp only [nrm] at hc0; omega) | (simp at hc0; done))
      all_goals
       try simp only [nrm] at hc0
       refine wp_seq_k ?_; intro K4 hK4
       refine wlit ?_
       refine wl_v (x_assign (ev_cN 128)) ?_
       refine wl_nil ?_
       refine then_n (hK4 _ _ ?_); clear hK4 K4
       refine wp_ret ?_
       refine then_r ?_
       refine ret1 rfl (.tmp rfl (show _ = Value.int _ _ from rfl)) ?_
       exact ⟨rfl, hS.kp⟩
    try (exfalso; first | with_reducible exact absurd hc0 Bool.false_ne_true | with_reducible exact absurd hc0.symm Bool.false_ne_true | (simp only [nrm] at hc0; omega) | (simp at hc0; done))
    all_goals
     try simp only [nrm] at hc0
     refine wp_skip ?_
     refine then_n (hK2 _ _ ?_); clear hK2 K2
     refine wp_seq_k ?_; intro K5 hK5
     refine wlit ?_
     refine wl_v (x_assign (ev_cN 32)) ?_
     refine wl_nil ?_
     refine then_n (hK5 _ _ ?_); clear hK5 K5
     refine wp_ret ?_
     refine ret1 rfl (.tmp rfl (show _ = Value.int _ _ from rfl)) ?_
     exact ⟨rfl, hS.kp⟩
  | false =>
    refine ent (n := 5) Try.func19 rfl rfl ?_
    refine wp_seq_k ?_; intro K1 hK1
    refine wlit ?_
    refine wl_e rfl ?_; intro K hK
    refine ow_box hS (tmA rfl rfl) rfl ?_
    clear hS; intro g0_0 w hg0_0 hS
    refine hK _ _ ?_; clear hK K
    refine wl_v (x_assign (ev_cN 0)) ?_
    refine wl_nil ?_
    refine then_n (hK1 _ _ ?_); clear hK1 K1
    refine wp_seq_k ?_; intro K2 hK2
    refine wp_seq_k ?_; intro K3 hK3
    refine wlit ?_
    refine wl_v (x_fa 0 Try.underlying25 rfl rfl ts_4 (tmP rfl rfl)) ?_
    first
     | refine wl_v (x_load Try.underlying4 rfl (tmP rfl rfl) (cellB hS.ok 0 rfl rfl)) ?_
     | refine wl_v (x_load Try.underlying4 rfl (tmP rfl rfl) (cellB hS.ok 0 rfl (getm (by omega)))) ?_
    refine wl_nil ?_
    refine then_n (hK3 _ _ ?_); clear hK3 K3
    refine cnd (tm rfl) (fun hc0 => ?_) (fun hc0 => ?_)
    · try (exfalso; first | with_reducible exact absurd hc0 Bool.false_ne_true | with_reducible exact absurd hc0.symm Bool.false_ne_true | (simp only [nrm] at hc0; omega) | (simp at hc0; done))
      all_goals
       try simp only [nrm] at hc0
       refine wp_seq_k ?_; intro K4 hK4
       refine wlit ?_
       refine wl_v (x_assign (ev_cN 128)) ?_
       refine wl_nil ?_
       refine then_n (hK4 _ _ ?_); clear hK4 K4
       refine wp_ret ?_
       refine then_r ?_
       refine ret1 rfl (.tmp rfl (show _ = Value.int _ _ from rfl)) ?_
       exact ⟨rfl, hS.kp⟩
    try (exfalso; first | with_reducible exact absurd hc0 Bool.false_ne_true | with_reducible exact absurd hc0.symm Bool.false_ne_true | (simp only [nrm] at hc0; omega) | (simp at hc0; done))
    all_goals
     try simp only [nrm] at hc0
     refine wp_skip ?_
     refine then_n (hK2 _ _ ?_); clear hK2 K2
     refine wp_seq_k ?_; intro K5 hK5
     refine wlit ?_
     refine wl_v (x_assign (ev_cN 32)) ?_
     refine wl_nil ?_
     refine then_n (hK5 _ _ ?_); clear hK5 K5
     refine wp_ret ?_
     refine ret1 rfl (.tmp rfl (show _ = Value.int _ _ from rfl)) ?_
     exact ⟨rfl, hS.kp⟩
set_option maxRecDepth 100000 in
set_option maxHeartbeats 4000000 in
theorem rlbits_c (a : Ad) (w0 : World) : Calls Try.prog 34 #[.agg a.V.toArray] w0 fun e w' => e = .returned (.int .i64 (adBits a : Int)) ∧ Kp [] w0 w' := by
  have hS := St.sv w0
  unfold adBits
  obtain ⟨six, high, low⟩ := a
  cases six with
  | true =>
    refine ent (n := 5) Try.func34 rfl rfl ?_
    refine wp_seq_k ?_; intro K1 hK1
    refine wlit ?_
    refine wl_e rfl ?_; intro K hK
    refine ow_box hS (tmA rfl rfl) rfl ?_
    clear hS; intro g0_0 w hg0_0 hS
    refine hK _ _ ?_; clear hK K
    refine wl_v (x_assign (ev_cN 0)) ?_
    refine wl_nil ?_
    refine then_n (hK1 _ _ ?_); clear hK1 K1
    refine wp_seq_k ?_; intro K2 hK2
    refine wp_seq_k ?_; intro K3 hK3
    refine wlit ?_
    refine wl_v (x_fa 0 Try.underlying25 rfl rfl ts_4 (tmP rfl rfl)) ?_
    first
     | refine wl_v (x_load Try.underlying4 rfl (tmP rfl rfl) (cellB hS.ok 0 rfl rfl)) ?_
     | refine wl_v (x_load Try.underlying4 rfl (tmP rfl rfl) (cellB hS.ok 0 rfl (getm (by omega)))) ?_
    refine wl_nil ?_
    refine then_n (hK3 _ _ ?_); clear hK3 K3
    refine cnd (tm rfl) (fun hc0 => ?_) (fun hc0 => ?_)
    · try (exfalso; first | with_reducible exact absurd hc0 Bool.false_ne_true | with_reducible exact absurd hc0.symm Bool.false_ne_true | (simp only [nrm] at hc0; omega) | (simp at hc0; done))
      all_goals
       try simp only [nrm] at hc0
       refine wp_seq_k ?_; intro K4 hK4
       refine wlit ?_
       refine wl_v (x_assign (ev_cN 128)) ?_
       refine wl_nil ?_
       refine then_n (hK4 _ _ ?_); clear hK4 K4
       refine wp_ret ?_
       refine then_r ?_
       refine ret1 rfl (.tmp rfl (show _ = Value.int _ _ from rfl)) ?_
       exact ⟨rfl, hS.kp⟩
    try (exfalso; first | with_reducible exact absurd hc0 Bool.false_ne_true | with_reducible exact absurd hc0.symm Bool.false_ne_true | (simp only [nrm] at hc0; omega) | (simp at hc0; done))
    all_goals
     try simp only [nrm] at hc0
     refine wp_skip ?_
     refine then_n (hK2 _ _ ?_); clear hK2 K2
     refine wp_seq_k ?_; intro K5 hK5
     refine wlit ?_
     refine wl_v (x_assign (ev_cN 32)) ?_
     refine wl_nil ?_
     refine then_n (hK5 _ _ ?_); clear hK5 K5
     refine wp_ret ?_
     refine ret1 rfl (.tmp rfl (show _ = Value.int _ _ from rfl)) ?_
     exact ⟨rfl, hS.kp⟩
  | false =>
    refine ent (n := 5) Try.func34 rfl rfl ?_
    refine wp_seq_k ?_; intro K1 hK1
    refine wlit ?_
    refine wl_e rfl ?_; intro K hK
    refine ow_box hS (tmA rfl rfl) rfl ?_
    clear hS; intro g0_0 w hg0_0 hS
    refine hK _ _ ?_; clear hK K
    refine wl_v (x_assign (ev_cN 0)) ?_
    refine wl_nil ?_
    refine then_n (hK1 _ _ ?_); clear hK1 K1
    refine wp_seq_k ?_; intro K2 hK2
    refine wp_seq_k ?_; intro K3 hK3
    refine wlit ?_
    refine wl_v (x_fa 0 Try.underlying25 rfl rfl ts_4 (tmP rfl rfl)) ?_
    first
     | refine wl_v (x_load Try.underlying4 rfl (tmP rfl rfl) (cellB hS.ok 0 rfl rfl)) ?_
     | refine wl_v (x_load Try.underlying4 rfl (tmP rfl rfl) (cellB hS.ok 0 rfl (getm (by omega)))) ?_
    refine wl_nil ?_
    refine then_n (hK3 _ _ ?_); clear hK3 K3
    refine cnd (tm rfl) (fun hc0 => ?_) (fun hc0 => ?_)
    · try (exfalso; first | with_reducible exact absurd hc0 Bool.false_ne_true | with_reducible exact absurd hc0.symm Bool.false_ne_true | (simp only [nrm] at hc0; omega) | (simp at hc0; done))
      all_goals
       try simp only [nrm] at hc0
       refine wp_seq_k ?_; intro K4 hK4
       refine wlit ?_
       refine wl_v (x_assign (ev_cN 128)) ?_
       refine wl_nil ?_
       refine then_n (hK4 _ _ ?_); clear hK4 K4
       refine wp_ret ?_
       refine then_r ?_
       refine ret1 rfl (.tmp rfl (show _ = Value.int _ _ from rfl)) ?_
       exact ⟨rfl, hS.kp⟩
    try (exfalso; first | with_reducible exact absurd hc0 Bool.false_ne_true | with_reducible exact absurd hc0.symm Bool.false_ne_true | (simp only [nrm] at hc0; omega) | (simp at hc0; done))
    all_goals
     try simp only [nrm] at hc0
     refine wp_skip ?_
     refine then_n (hK2 _ _ ?_); clear hK2 K2
     refine wp_seq_k ?_; intro K5 hK5
     refine wlit ?_
     refine wl_v (x_assign (ev_cN 32)) ?_
     refine wl_nil ?_
     refine then_n (hK5 _ _ ?_); clear hK5 K5
     refine wp_ret ?_
     refine ret1 rfl (.tmp rfl (show _ = Value.int _ _ from rfl)) ?_
     exact ⟨rfl, hS.kp⟩
theorem xor_ones64 (x : Nat) (h : x < 2 ^ 64) : 18446744073709551615 ^^^ x = 18446744073709551615 - x := by
  have h1 : (BitVec.allOnes 64 ^^^ BitVec.ofNat 64 x).toNat = (2 ^ 64 - 1) ^^^ x := by
    rw [BitVec.toNat_xor, BitVec.toNat_allOnes, BitVec.toNat_ofNat, Nat.mod_eq_of_lt h]
  have h2 : (2 ^ 64 - 1) ^^^ x = 2 ^ 64 - 1 - x := by
    rw [← h1, BitVec.allOnes_xor, BitVec.toNat_not, BitVec.toNat_ofNat, Nat.mod_eq_of_lt h]
  exact h2
theorem x_not64 {P : Program} {a : Act} {w : World} {x : Operand} {d : Option Tmp} {t ty : TypeId} {pos : String} {aft : Array Edge} {g : Option (Nat × Bool)} {m : Nat} (hx : a.eval x = .int .u64 (m : Int)) (hm : m ≤ 18446744073709551615) : (execOp a.eval ⟨d, .unOp .xor t x, ty, pos, aft, g⟩).run P w = .ok (.value (.int .u64 ((18446744073709551615 - m : Nat) : Int))) w := by
  have e : (if IntKind.u64.signed = true then (-1 : Int) else IntKind.u64.max) = ((18446744073709551615 : Nat) : Int) := by decide
  unfold execOp
  simp only [hx, Op.unary, Sem.run_bind, Sem.run_pure, Result.andThen_ok]
  rw [e]
  simp only [Op.intBits, BitVec.toNat_xor, ofInt_nat (fit_u64 (by omega) : fitsN .u64 18446744073709551615), ofInt_nat (fit_u64 (by omega) : fitsN .u64 m)]
  rw [show (18446744073709551615 ^^^ m : Nat) = 18446744073709551615 - m from xor_ones64 m (by omega)]
  rw [show IntKind.u64.wrap ((18446744073709551615 - m : Nat) : Int) = ((18446744073709551615 - m : Nat) : Int) from fit_u64 (by omega)]
  rfl
/-- A number of 64 bits of which the first n are 1. -/
def fst64 (n : Nat) : Nat := 18446744073709551615 - 18446744073709551615 / 2 ^ n
theorem fst64_lt (n : Nat) : fst64 n ≤ 18446744073709551615 := Nat.sub_le _ _
set_option maxRecDepth 100000 in
set_option maxHeartbeats 4000000 in
theorem first_c (n : Nat) (w0 : World) (hn : n ≤ 64) : Calls Try.prog 30 #[.int .i64 (n : Int)] w0 fun e w' => e = .returned (.int .u64 (fst64 n : Int)) ∧ Kp [] w0 w' := by
  have hS := St.sv w0
  have hq : 18446744073709551615 / 2 ^ n ≤ 18446744073709551615 := Nat.div_le_self _ _
  refine ent (n := 6) Try.func30 rfl rfl ?_
  refine wp_seq_k ?_; intro K1 hK1
  refine wlit ?_
  refine wl_v (x_assign (ev_cN 0)) ?_
  refine wl_nil ?_
  refine then_n (hK1 _ _ ?_); clear hK1 K1
  refine wp_seq_k ?_; intro K2 hK2
  refine wlit ?_
  refine wl_v (x_move (tmI rfl rfl)) ?_
  refine wl_v (x_shrN (ev_cN 18446744073709551615) (tmI rfl rfl) (fit_u64 (by omega))) ?_
  refine wl_v (x_not64 (tmI rfl rfl) hq) ?_
  refine wl_v (x_assign (tmI rfl rfl)) ?_
  refine wl_nil ?_
  refine then_n (hK2 _ _ ?_); clear hK2 K2
  refine wp_ret ?_
  refine ret1 rfl (.tmp rfl (show _ = Value.int _ _ from rfl)) ?_
  exact ⟨rfl, hS.kp⟩
/-- An address of which all but the first m bits are 0, by the masks. -/
def cutM (a : Ad) (m : Nat) : Ad := if a.six then ⟨true, a.high &&& fst64 (min m 64), a.low &&& fst64 (m - 64)⟩ else ⟨false, a.high, a.low &&& fst64 (32 + m)⟩
set_option maxRecDepth 100000 in
set_option maxHeartbeats 4000000 in
theorem lcut4_c (high low m : Nat) (z : Int) (w0 : World) (hh : high ≤ 18446744073709551615) (hl : low ≤ 18446744073709551615) (hz : min (max z 0) 32 = (m : Int)) : Calls Try.prog 21 #[.agg (Ad.V ⟨false, high, low⟩).toArray, .int .i64 z] w0 fun e w' => e = .returned (.agg (Ad.V (cutM ⟨false, high, low⟩ m)).toArray) ∧ Kp [] w0 w' := by
  have hS := St.sv w0
  have hm : m ≤ 32 := by omega
  have hf := fst64_lt (32 + m)
  refine ent (n := 37) Try.func21 rfl rfl ?_
  refine wp_seq_k ?_; intro K1 hK1
  refine wlit ?_
  refine wl_e rfl ?_; intro K hK
  refine ow_box hS (tmA rfl rfl) rfl ?_
  clear hS; intro g0_0 w hg0_0 hS
  refine hK _ _ ?_; clear hK K
  refine wl_e rfl ?_; intro K hK
  refine ow_alloc hS tz_25 rfl ?_
  clear hS; intro g0_1 w hg0_1 hS
  refine hK _ _ ?_; clear hK K
  refine wl_nil ?_
  refine then_n (hK1 _ _ ?_); clear hK1 K1
  refine wp_seq_k ?_; intro K2 hK2
  refine wlit ?_
  refine wl_v (x_move (tmI rfl rfl)) ?_
  first
   | refine wl_v (x_max (tmI rfl rfl) (ev_cN 0)) ?_
   | refine wl_v (x_maxI (tmI rfl rfl) (ev_cN 0)) ?_
  refine wl_v (x_loadA (cs := [_, _, _]) Try.underlying25 rfl ts_25 (tmP rfl rfl) (rangeB hS.ok 1 rfl rfl)) ?_
  refine wl_e rfl ?_; intro K hK
  refine ow_call Try.func19 rfl rfl (evs_cons (tmA rfl rfl) <| evs_nil) (lbits_c ⟨false, high, low⟩ _) ?_
  rintro e w ⟨rfl, hk⟩
  refine ⟨_, rfl, ?_⟩
  replace hS := hS.kept hk
  clear hk
  refine hK _ _ ?_; clear hK K
  first
   | refine wl_v (x_min (tmI rfl rfl) (tmI rfl rfl)) ?_
   | refine wl_v (x_minI (tmI rfl rfl) (tmI rfl rfl)) ?_
  refine wl_v (x_assign (tmI rfl (congrArg (Value.int .i64) hz))) ?_
  refine wl_nil ?_
  refine then_n (hK2 _ _ ?_); clear hK2 K2
  refine wp_seq_k ?_; intro K3 hK3
  refine wp_seq_k ?_; intro K4 hK4
  refine wlit ?_
  refine wl_v (x_fa 0 Try.underlying25 rfl rfl ts_4 (tmP rfl rfl)) ?_
  first
   | refine wl_v (x_load Try.underlying4 rfl (tmP rfl rfl) (cellB hS.ok 1 rfl rfl)) ?_
   | refine wl_v (x_load Try.underlying4 rfl (tmP rfl rfl) (cellB hS.ok 1 rfl (getm (by omega)))) ?_
  refine wl_v (x_not (tmB rfl rfl)) ?_
  refine wl_nil ?_
  refine then_n (hK4 _ _ ?_); clear hK4 K4
  refine cnds (tm rfl) (fun hc0 => ?_) (fun hc0 => ?_)
  · exfalso
    simp at hc0
  try (exfalso; first | with_reducible exact absurd hc0 Bool.false_ne_true | with_reducible exact absurd hc0.symm Bool.false_ne_true | (simp only [nrm] at hc0; omega) | (simp at hc0; done))
  all_goals
   try simp only [nrm] at hc0
   refine wp_seq_k ?_; intro K5 hK5
   replace hS := hS.pick [1, 0] rfl rfl
   try replace hS := St.nm (M' := [.blk _ _ [_, _, _], .blk _ _ [_, _, _]]) hS rfl
   refine rg_startk 1 hS mixed_ ?_
   clear hS; intro w hS
   refine rg_take 0 rfl rfl (by kernel_rfl) (by kernel_rfl) (by kernel_rfl) (want_0) (fun w hok => x_fa 2 Try.underlying25 rfl rfl ts_23 (tmP rfl rfl)) ?_
   refine rg_take 2 rfl rfl (by kernel_rfl) (by kernel_rfl) (by kernel_rfl) (want_0) (fun w hok => x_move (tmI rfl rfl)) ?_
   first
    | refine rg_take 3 rfl rfl (by kernel_rfl) (by kernel_rfl) (by kernel_rfl) (want_0) (fun w hok => x_addN (ev_cN 32) (tmI rfl rfl) (fit_i64 (by omega))) ?_
    | refine rg_take 3 rfl rfl (by kernel_rfl) (by kernel_rfl) (by kernel_rfl) (want_0) (fun w hok => x_addI (ev_cN 32) (tmI rfl rfl) (IntWalk.i64_in _ (by omega))) ?_
    | refine rg_take 3 rfl rfl (by kernel_rfl) (by kernel_rfl) (by kernel_rfl) (want_0) (fun w hok => x_add (ev_cN 32) (tmI rfl rfl)) ?_
   refine rg_step2 1 4 rfl rfl (by kernel_rfl) (want_0) (want_0) (oks_drop hS 1 rfl) ?_ ?_
   · intro K hK
     first
      | refine ow_v (x_load Try.underlying23 rfl (tmP rfl rfl) (cellB hS.ok 0 rfl rfl)) ?_
      | refine ow_v (x_load Try.underlying23 rfl (tmP rfl rfl) (cellB hS.ok 0 rfl (getm (by omega)))) ?_
     refine hK _ _ ?_; clear hK K
     refine rg_step 4 rfl (by kernel_rfl) (want_0) (oks_drop hS 1 rfl) ?_; intro K hK
     refine ow_call Try.func30 rfl rfl (evs_cons (tmI rfl rfl) <| evs_nil) (first_c (32 + m) _ (by omega)) ?_
     rintro e w ⟨rfl, hk⟩
     refine ⟨_, rfl, ?_⟩
     replace hS := hS.kept hk
     clear hk
     refine hK _ _ ?_; clear hK K
     refine rg_take 5 rfl rfl (by kernel_rfl) (by kernel_rfl) (by kernel_rfl) (want_0) (fun w hok => x_andN (tmI rfl rfl) (tmI rfl rfl) (fit_u64 (by omega)) (fit_u64 (by omega))) ?_
     refine rg_take 6 rfl rfl (by kernel_rfl) (by kernel_rfl) (by kernel_rfl) (want_0) (fun w hok => x_fa 2 Try.underlying25 rfl rfl ts_23 (tmP rfl rfl)) ?_
     refine rg_step 7 rfl (by kernel_rfl) (want_0) (oks_drop hS 1 rfl) ?_; intro K hK
     first
      | refine ow_store hS 0 rfl ts_23 (tmP rfl rfl) (tmI rfl rfl) rfl rfl ?_
      | refine ow_storeX hS 0 rfl ts_23 (tmP rfl rfl) (tmI rfl rfl) rfl (by simp; omega) ?_
     clear hS; intro w hS
     try replace hS := St.nm (M' := [.blk _ _ [_, _, _], .blk _ _ [_, _, _]]) hS rfl
     refine hK _ _ ?_; clear hK K
     refine rg_done (oks_drop hS 1 rfl) (by kernel_rfl) ?_
     refine then_n (hK5 _ _ ?_); clear hK5 K5
     refine wp_seq_k ?_; intro K6 hK6
     refine wlit ?_
     refine wl_v (x_loadA (cs := [_, _, _]) Try.underlying25 rfl ts_25 (tmP rfl rfl) (rangeB hS.ok 0 rfl rfl)) ?_
     refine wl_e rfl ?_; intro K hK
     refine ow_storeA hS 1 rfl ts_25 (tmP rfl rfl) (tmA rfl rfl) rfl rfl rfl ?_
     clear hS; intro w hS
     try replace hS := St.nm (M' := [.blk _ _ [_, _, _], .blk _ _ [_, _, _]]) hS rfl
     refine hK _ _ ?_; clear hK K
     refine wl_nil ?_
     refine then_n (hK6 _ _ ?_); clear hK6 K6
     refine wp_ret ?_
     refine then_r ?_
     refine ret1 rfl (.cell rfl rfl (load_rowB (cs := [_, _, _]) hS.ok 1 rfl Try.underlying25 rfl ts_25 rfl)) ?_
     exact ⟨rfl, hS.kp⟩
   · intro K hK
     refine ow_call Try.func30 rfl rfl (evs_cons (tmI rfl rfl) <| evs_nil) (first_c (32 + m) _ (by omega)) ?_
     rintro e w ⟨rfl, hk⟩
     refine ⟨_, rfl, ?_⟩
     replace hS := hS.kept hk
     clear hk
     refine hK _ _ ?_; clear hK K
     refine rg_step 1 rfl (by kernel_rfl) (want_0) (oks_drop hS 1 rfl) ?_; intro K hK
     first
      | refine ow_v (x_load Try.underlying23 rfl (tmP rfl rfl) (cellB hS.ok 0 rfl rfl)) ?_
      | refine ow_v (x_load Try.underlying23 rfl (tmP rfl rfl) (cellB hS.ok 0 rfl (getm (by omega)))) ?_
     refine hK _ _ ?_; clear hK K
     refine rg_take 5 rfl rfl (by kernel_rfl) (by kernel_rfl) (by kernel_rfl) (want_0) (fun w hok => x_andN (tmI rfl rfl) (tmI rfl rfl) (fit_u64 (by omega)) (fit_u64 (by omega))) ?_
     refine rg_take 6 rfl rfl (by kernel_rfl) (by kernel_rfl) (by kernel_rfl) (want_0) (fun w hok => x_fa 2 Try.underlying25 rfl rfl ts_23 (tmP rfl rfl)) ?_
     refine rg_step 7 rfl (by kernel_rfl) (want_0) (oks_drop hS 1 rfl) ?_; intro K hK
     first
      | refine ow_store hS 0 rfl ts_23 (tmP rfl rfl) (tmI rfl rfl) rfl rfl ?_
      | refine ow_storeX hS 0 rfl ts_23 (tmP rfl rfl) (tmI rfl rfl) rfl (by simp; omega) ?_
     clear hS; intro w hS
     try replace hS := St.nm (M' := [.blk _ _ [_, _, _], .blk _ _ [_, _, _]]) hS rfl
     refine hK _ _ ?_; clear hK K
     refine rg_done (oks_drop hS 1 rfl) (by kernel_rfl) ?_
     refine then_n (hK5 _ _ ?_); clear hK5 K5
     refine wp_seq_k ?_; intro K8 hK8
     refine wlit ?_
     refine wl_v (x_loadA (cs := [_, _, _]) Try.underlying25 rfl ts_25 (tmP rfl rfl) (rangeB hS.ok 0 rfl rfl)) ?_
     refine wl_e rfl ?_; intro K hK
     refine ow_storeA hS 1 rfl ts_25 (tmP rfl rfl) (tmA rfl rfl) rfl rfl rfl ?_
     clear hS; intro w hS
     try replace hS := St.nm (M' := [.blk _ _ [_, _, _], .blk _ _ [_, _, _]]) hS rfl
     refine hK _ _ ?_; clear hK K
     refine wl_nil ?_
     refine then_n (hK8 _ _ ?_); clear hK8 K8
     refine wp_ret ?_
     refine then_r ?_
     refine ret1 rfl (.cell rfl rfl (load_rowB (cs := [_, _, _]) hS.ok 1 rfl Try.underlying25 rfl ts_25 rfl)) ?_
     exact ⟨rfl, hS.kp⟩
set_option maxRecDepth 100000 in
set_option maxHeartbeats 4000000 in
theorem lcut6_c (high low m : Nat) (z : Int) (w0 : World) (hh : high ≤ 18446744073709551615) (hl : low ≤ 18446744073709551615) (hz : min (max z 0) 128 = (m : Int)) : Calls Try.prog 21 #[.agg (Ad.V ⟨true, high, low⟩).toArray, .int .i64 z] w0 fun e w' => e = .returned (.agg (Ad.V (cutM ⟨true, high, low⟩ m)).toArray) ∧ Kp [] w0 w' := by
  have hS := St.sv w0
  have hm : m ≤ 128 := by omega
  have hf1 := fst64_lt (min m 64)
  have hf2 := fst64_lt (m - 64)
  refine ent (n := 37) Try.func21 rfl rfl ?_
  refine wp_seq_k ?_; intro K1 hK1
  refine wlit ?_
  refine wl_e rfl ?_; intro K hK
  refine ow_box hS (tmA rfl rfl) rfl ?_
  clear hS; intro g0_0 w hg0_0 hS
  refine hK _ _ ?_; clear hK K
  refine wl_e rfl ?_; intro K hK
  refine ow_alloc hS tz_25 rfl ?_
  clear hS; intro g0_1 w hg0_1 hS
  refine hK _ _ ?_; clear hK K
  refine wl_nil ?_
  refine then_n (hK1 _ _ ?_); clear hK1 K1
  refine wp_seq_k ?_; intro K2 hK2
  refine wlit ?_
  refine wl_v (x_move (tmI rfl rfl)) ?_
  first
   | refine wl_v (x_max (tmI rfl rfl) (ev_cN 0)) ?_
   | refine wl_v (x_maxI (tmI rfl rfl) (ev_cN 0)) ?_
  refine wl_v (x_loadA (cs := [_, _, _]) Try.underlying25 rfl ts_25 (tmP rfl rfl) (rangeB hS.ok 1 rfl rfl)) ?_
  refine wl_e rfl ?_; intro K hK
  refine ow_call Try.func19 rfl rfl (evs_cons (tmA rfl rfl) <| evs_nil) (lbits_c ⟨true, high, low⟩ _) ?_
  rintro e w ⟨rfl, hk⟩
  refine ⟨_, rfl, ?_⟩
  replace hS := hS.kept hk
  clear hk
  refine hK _ _ ?_; clear hK K
  first
   | refine wl_v (x_min (tmI rfl rfl) (tmI rfl rfl)) ?_
   | refine wl_v (x_minI (tmI rfl rfl) (tmI rfl rfl)) ?_
  refine wl_v (x_assign (tmI rfl (congrArg (Value.int .i64) hz))) ?_
  refine wl_nil ?_
  refine then_n (hK2 _ _ ?_); clear hK2 K2
  refine wp_seq_k ?_; intro K3 hK3
  refine wp_seq_k ?_; intro K4 hK4
  refine wlit ?_
  refine wl_v (x_fa 0 Try.underlying25 rfl rfl ts_4 (tmP rfl rfl)) ?_
  first
   | refine wl_v (x_load Try.underlying4 rfl (tmP rfl rfl) (cellB hS.ok 1 rfl rfl)) ?_
   | refine wl_v (x_load Try.underlying4 rfl (tmP rfl rfl) (cellB hS.ok 1 rfl (getm (by omega)))) ?_
  refine wl_v (x_not (tmB rfl rfl)) ?_
  refine wl_nil ?_
  refine then_n (hK4 _ _ ?_); clear hK4 K4
  refine cnd (tm rfl) (fun hc0 => ?_) (fun hc0 => ?_)
  · exfalso
    simp at hc0
  try (exfalso; first | with_reducible exact absurd hc0 Bool.false_ne_true | with_reducible exact absurd hc0.symm Bool.false_ne_true | (simp only [nrm] at hc0; omega) | (simp at hc0; done))
  all_goals
   try simp only [nrm] at hc0
   refine wp_skip ?_
   refine then_n (hK3 _ _ ?_); clear hK3 K3
   refine wp_seq_k ?_; intro K5 hK5
   replace hS := hS.pick [1, 0] rfl rfl
   try replace hS := St.nm (M' := [.blk _ _ [_, _, _], .blk _ _ [_, _, _]]) hS rfl
   refine rg_startk 1 hS mixed_ ?_
   clear hS; intro w hS
   refine rg_take 0 rfl rfl (by kernel_rfl) (by kernel_rfl) (by kernel_rfl) (want_0) (fun w hok => x_fa 1 Try.underlying25 rfl rfl ts_23 (tmP rfl rfl)) ?_
   refine rg_take 2 rfl rfl (by kernel_rfl) (by kernel_rfl) (by kernel_rfl) (want_0) (fun w hok => x_move (tmI rfl rfl)) ?_
   first
    | refine rg_take 3 rfl rfl (by kernel_rfl) (by kernel_rfl) (by kernel_rfl) (want_0) (fun w hok => x_min (tmI rfl rfl) (ev_cN 64)) ?_
    | refine rg_take 3 rfl rfl (by kernel_rfl) (by kernel_rfl) (by kernel_rfl) (want_0) (fun w hok => x_minI (tmI rfl rfl) (ev_cN 64)) ?_
   refine rg_step2 1 4 rfl rfl (by kernel_rfl) (want_0) (want_0) (oks_drop hS 1 rfl) ?_ ?_
   · intro K hK
     first
      | refine ow_v (x_load Try.underlying23 rfl (tmP rfl rfl) (cellB hS.ok 0 rfl rfl)) ?_
      | refine ow_v (x_load Try.underlying23 rfl (tmP rfl rfl) (cellB hS.ok 0 rfl (getm (by omega)))) ?_
     refine hK _ _ ?_; clear hK K
     refine rg_step 4 rfl (by kernel_rfl) (want_0) (oks_drop hS 1 rfl) ?_; intro K hK
     refine ow_call Try.func30 rfl rfl (evs_cons (tmI rfl rfl) <| evs_nil) (first_c (min m 64) _ (by omega)) ?_
     rintro e w ⟨rfl, hk⟩
     refine ⟨_, rfl, ?_⟩
     replace hS := hS.kept hk
     clear hk
     refine hK _ _ ?_; clear hK K
     refine rg_take 5 rfl rfl (by kernel_rfl) (by kernel_rfl) (by kernel_rfl) (want_0) (fun w hok => x_andN (tmI rfl rfl) (tmI rfl rfl) (fit_u64 (by omega)) (fit_u64 (by omega))) ?_
     refine rg_take 6 rfl rfl (by kernel_rfl) (by kernel_rfl) (by kernel_rfl) (want_0) (fun w hok => x_fa 1 Try.underlying25 rfl rfl ts_23 (tmP rfl rfl)) ?_
     refine rg_step 7 rfl (by kernel_rfl) (want_0) (oks_drop hS 1 rfl) ?_; intro K hK
     first
      | refine ow_store hS 0 rfl ts_23 (tmP rfl rfl) (tmI rfl rfl) rfl rfl ?_
      | refine ow_storeX hS 0 rfl ts_23 (tmP rfl rfl) (tmI rfl rfl) rfl (by simp; omega) ?_
     clear hS; intro w hS
     try replace hS := St.nm (M' := [.blk _ _ [_, _, _], .blk _ _ [_, _, _]]) hS rfl
     refine hK _ _ ?_; clear hK K
     refine rg_done (oks_drop hS 1 rfl) (by kernel_rfl) ?_
     refine then_n (hK5 _ _ ?_); clear hK5 K5
     refine wp_seq_k ?_; intro K6 hK6
     refine rg_startk 1 hS mixed_ ?_
     clear hS; intro w hS
     refine rg_take 0 rfl rfl (by kernel_rfl) (by kernel_rfl) (by kernel_rfl) (want_0) (fun w hok => x_fa 2 Try.underlying25 rfl rfl ts_23 (tmP rfl rfl)) ?_
     refine rg_take 2 rfl rfl (by kernel_rfl) (by kernel_rfl) (by kernel_rfl) (want_0) (fun w hok => x_move (tmI rfl rfl)) ?_
     refine rg_take 3 rfl rfl (by kernel_rfl) (by kernel_rfl) (by kernel_rfl) (want_0) (fun w hok => x_subI (tmI rfl rfl) (ev_cN 64) (IntWalk.i64_in _ (by omega))) ?_
     refine rg_take 4 rfl rfl (by kernel_rfl) (by kernel_rfl) (by kernel_rfl) (want_0) (fun w hok => (congrArg (Value.int .i64) (show max ((m : Int) - ((64 : Nat) : Int)) ((0 : Nat) : Int) = ((m - 64 : Nat) : Int) by omega)) ▸ x_maxI (tmI rfl rfl) (ev_cN 0)) ?_
     refine rg_step2 1 5 rfl rfl (by kernel_rfl) (want_0) (want_0) (oks_drop hS 1 rfl) ?_ ?_
     · intro K hK
       first
        | refine ow_v (x_load Try.underlying23 rfl (tmP rfl rfl) (cellB hS.ok 0 rfl rfl)) ?_
        | refine ow_v (x_load Try.underlying23 rfl (tmP rfl rfl) (cellB hS.ok 0 rfl (getm (by omega)))) ?_
       refine hK _ _ ?_; clear hK K
       refine rg_step 5 rfl (by kernel_rfl) (want_0) (oks_drop hS 1 rfl) ?_; intro K hK
       refine ow_call Try.func30 rfl rfl (evs_cons (tmI rfl rfl) <| evs_nil) (first_c (m - 64) _ (by omega)) ?_
       rintro e w ⟨rfl, hk⟩
       refine ⟨_, rfl, ?_⟩
       replace hS := hS.kept hk
       clear hk
       refine hK _ _ ?_; clear hK K
       refine rg_take 6 rfl rfl (by kernel_rfl) (by kernel_rfl) (by kernel_rfl) (want_0) (fun w hok => x_andN (tmI rfl rfl) (tmI rfl rfl) (fit_u64 (by omega)) (fit_u64 (by omega))) ?_
       refine rg_take 7 rfl rfl (by kernel_rfl) (by kernel_rfl) (by kernel_rfl) (want_0) (fun w hok => x_fa 2 Try.underlying25 rfl rfl ts_23 (tmP rfl rfl)) ?_
       refine rg_step 8 rfl (by kernel_rfl) (want_0) (oks_drop hS 1 rfl) ?_; intro K hK
       first
        | refine ow_store hS 0 rfl ts_23 (tmP rfl rfl) (tmI rfl rfl) rfl rfl ?_
        | refine ow_storeX hS 0 rfl ts_23 (tmP rfl rfl) (tmI rfl rfl) rfl (by simp; omega) ?_
       clear hS; intro w hS
       try replace hS := St.nm (M' := [.blk _ _ [_, _, _], .blk _ _ [_, _, _]]) hS rfl
       refine hK _ _ ?_; clear hK K
       refine rg_done (oks_drop hS 1 rfl) (by kernel_rfl) ?_
       refine then_n (hK6 _ _ ?_); clear hK6 K6
       refine wp_seq_k ?_; intro K7 hK7
       refine wlit ?_
       refine wl_v (x_loadA (cs := [_, _, _]) Try.underlying25 rfl ts_25 (tmP rfl rfl) (rangeB hS.ok 0 rfl rfl)) ?_
       refine wl_e rfl ?_; intro K hK
       refine ow_storeA hS 1 rfl ts_25 (tmP rfl rfl) (tmA rfl rfl) rfl rfl rfl ?_
       clear hS; intro w hS
       try replace hS := St.nm (M' := [.blk _ _ [_, _, _], .blk _ _ [_, _, _]]) hS rfl
       refine hK _ _ ?_; clear hK K
       refine wl_nil ?_
       refine then_n (hK7 _ _ ?_); clear hK7 K7
       refine wp_ret ?_
       refine ret1 rfl (.cell rfl rfl (load_rowB (cs := [_, _, _]) hS.ok 1 rfl Try.underlying25 rfl ts_25 rfl)) ?_
       exact ⟨rfl, hS.kp⟩
     · intro K hK
       refine ow_call Try.func30 rfl rfl (evs_cons (tmI rfl rfl) <| evs_nil) (first_c (m - 64) _ (by omega)) ?_
       rintro e w ⟨rfl, hk⟩
       refine ⟨_, rfl, ?_⟩
       replace hS := hS.kept hk
       clear hk
       refine hK _ _ ?_; clear hK K
       refine rg_step 1 rfl (by kernel_rfl) (want_0) (oks_drop hS 1 rfl) ?_; intro K hK
       first
        | refine ow_v (x_load Try.underlying23 rfl (tmP rfl rfl) (cellB hS.ok 0 rfl rfl)) ?_
        | refine ow_v (x_load Try.underlying23 rfl (tmP rfl rfl) (cellB hS.ok 0 rfl (getm (by omega)))) ?_
       refine hK _ _ ?_; clear hK K
       refine rg_take 6 rfl rfl (by kernel_rfl) (by kernel_rfl) (by kernel_rfl) (want_0) (fun w hok => x_andN (tmI rfl rfl) (tmI rfl rfl) (fit_u64 (by omega)) (fit_u64 (by omega))) ?_
       refine rg_take 7 rfl rfl (by kernel_rfl) (by kernel_rfl) (by kernel_rfl) (want_0) (fun w hok => x_fa 2 Try.underlying25 rfl rfl ts_23 (tmP rfl rfl)) ?_
       refine rg_step 8 rfl (by kernel_rfl) (want_0) (oks_drop hS 1 rfl) ?_; intro K hK
       first
        | refine ow_store hS 0 rfl ts_23 (tmP rfl rfl) (tmI rfl rfl) rfl rfl ?_
        | refine ow_storeX hS 0 rfl ts_23 (tmP rfl rfl) (tmI rfl rfl) rfl (by simp; omega) ?_
       clear hS; intro w hS
       try replace hS := St.nm (M' := [.blk _ _ [_, _, _], .blk _ _ [_, _, _]]) hS rfl
       refine hK _ _ ?_; clear hK K
       refine rg_done (oks_drop hS 1 rfl) (by kernel_rfl) ?_
       refine then_n (hK6 _ _ ?_); clear hK6 K6
       refine wp_seq_k ?_; intro K9 hK9
       refine wlit ?_
       refine wl_v (x_loadA (cs := [_, _, _]) Try.underlying25 rfl ts_25 (tmP rfl rfl) (rangeB hS.ok 0 rfl rfl)) ?_
       refine wl_e rfl ?_; intro K hK
       refine ow_storeA hS 1 rfl ts_25 (tmP rfl rfl) (tmA rfl rfl) rfl rfl rfl ?_
       clear hS; intro w hS
       try replace hS := St.nm (M' := [.blk _ _ [_, _, _], .blk _ _ [_, _, _]]) hS rfl
       refine hK _ _ ?_; clear hK K
       refine wl_nil ?_
       refine then_n (hK9 _ _ ?_); clear hK9 K9
       refine wp_ret ?_
       refine ret1 rfl (.cell rfl rfl (load_rowB (cs := [_, _, _]) hS.ok 1 rfl Try.underlying25 rfl ts_25 rfl)) ?_
       exact ⟨rfl, hS.kp⟩
   · intro K hK
     refine ow_call Try.func30 rfl rfl (evs_cons (tmI rfl rfl) <| evs_nil) (first_c (min m 64) _ (by omega)) ?_
     rintro e w ⟨rfl, hk⟩
     refine ⟨_, rfl, ?_⟩
     replace hS := hS.kept hk
     clear hk
     refine hK _ _ ?_; clear hK K
     refine rg_step 1 rfl (by kernel_rfl) (want_0) (oks_drop hS 1 rfl) ?_; intro K hK
     first
      | refine ow_v (x_load Try.underlying23 rfl (tmP rfl rfl) (cellB hS.ok 0 rfl rfl)) ?_
      | refine ow_v (x_load Try.underlying23 rfl (tmP rfl rfl) (cellB hS.ok 0 rfl (getm (by omega)))) ?_
     refine hK _ _ ?_; clear hK K
     refine rg_take 5 rfl rfl (by kernel_rfl) (by kernel_rfl) (by kernel_rfl) (want_0) (fun w hok => x_andN (tmI rfl rfl) (tmI rfl rfl) (fit_u64 (by omega)) (fit_u64 (by omega))) ?_
     refine rg_take 6 rfl rfl (by kernel_rfl) (by kernel_rfl) (by kernel_rfl) (want_0) (fun w hok => x_fa 1 Try.underlying25 rfl rfl ts_23 (tmP rfl rfl)) ?_
     refine rg_step 7 rfl (by kernel_rfl) (want_0) (oks_drop hS 1 rfl) ?_; intro K hK
     first
      | refine ow_store hS 0 rfl ts_23 (tmP rfl rfl) (tmI rfl rfl) rfl rfl ?_
      | refine ow_storeX hS 0 rfl ts_23 (tmP rfl rfl) (tmI rfl rfl) rfl (by simp; omega) ?_
     clear hS; intro w hS
     try replace hS := St.nm (M' := [.blk _ _ [_, _, _], .blk _ _ [_, _, _]]) hS rfl
     refine hK _ _ ?_; clear hK K
     refine rg_done (oks_drop hS 1 rfl) (by kernel_rfl) ?_
     refine then_n (hK5 _ _ ?_); clear hK5 K5
     refine wp_seq_k ?_; intro K11 hK11
     refine rg_startk 1 hS mixed_ ?_
     clear hS; intro w hS
     refine rg_take 0 rfl rfl (by kernel_rfl) (by kernel_rfl) (by kernel_rfl) (want_0) (fun w hok => x_fa 2 Try.underlying25 rfl rfl ts_23 (tmP rfl rfl)) ?_
     refine rg_take 2 rfl rfl (by kernel_rfl) (by kernel_rfl) (by kernel_rfl) (want_0) (fun w hok => x_move (tmI rfl rfl)) ?_
     refine rg_take 3 rfl rfl (by kernel_rfl) (by kernel_rfl) (by kernel_rfl) (want_0) (fun w hok => x_subI (tmI rfl rfl) (ev_cN 64) (IntWalk.i64_in _ (by omega))) ?_
     refine rg_take 4 rfl rfl (by kernel_rfl) (by kernel_rfl) (by kernel_rfl) (want_0) (fun w hok => (congrArg (Value.int .i64) (show max ((m : Int) - ((64 : Nat) : Int)) ((0 : Nat) : Int) = ((m - 64 : Nat) : Int) by omega)) ▸ x_maxI (tmI rfl rfl) (ev_cN 0)) ?_
     refine rg_step2 1 5 rfl rfl (by kernel_rfl) (want_0) (want_0) (oks_drop hS 1 rfl) ?_ ?_
     · intro K hK
       first
        | refine ow_v (x_load Try.underlying23 rfl (tmP rfl rfl) (cellB hS.ok 0 rfl rfl)) ?_
        | refine ow_v (x_load Try.underlying23 rfl (tmP rfl rfl) (cellB hS.ok 0 rfl (getm (by omega)))) ?_
       refine hK _ _ ?_; clear hK K
       refine rg_step 5 rfl (by kernel_rfl) (want_0) (oks_drop hS 1 rfl) ?_; intro K hK
       refine ow_call Try.func30 rfl rfl (evs_cons (tmI rfl rfl) <| evs_nil) (first_c (m - 64) _ (by omega)) ?_
       rintro e w ⟨rfl, hk⟩
       refine ⟨_, rfl, ?_⟩
       replace hS := hS.kept hk
       clear hk
       refine hK _ _ ?_; clear hK K
       refine rg_take 6 rfl rfl (by kernel_rfl) (by kernel_rfl) (by kernel_rfl) (want_0) (fun w hok => x_andN (tmI rfl rfl) (tmI rfl rfl) (fit_u64 (by omega)) (fit_u64 (by omega))) ?_
       refine rg_take 7 rfl rfl (by kernel_rfl) (by kernel_rfl) (by kernel_rfl) (want_0) (fun w hok => x_fa 2 Try.underlying25 rfl rfl ts_23 (tmP rfl rfl)) ?_
       refine rg_step 8 rfl (by kernel_rfl) (want_0) (oks_drop hS 1 rfl) ?_; intro K hK
       first
        | refine ow_store hS 0 rfl ts_23 (tmP rfl rfl) (tmI rfl rfl) rfl rfl ?_
        | refine ow_storeX hS 0 rfl ts_23 (tmP rfl rfl) (tmI rfl rfl) rfl (by simp; omega) ?_
       clear hS; intro w hS
       try replace hS := St.nm (M' := [.blk _ _ [_, _, _], .blk _ _ [_, _, _]]) hS rfl
       refine hK _ _ ?_; clear hK K
       refine rg_done (oks_drop hS 1 rfl) (by kernel_rfl) ?_
       refine then_n (hK11 _ _ ?_); clear hK11 K11
       refine wp_seq_k ?_; intro K12 hK12
       refine wlit ?_
       refine wl_v (x_loadA (cs := [_, _, _]) Try.underlying25 rfl ts_25 (tmP rfl rfl) (rangeB hS.ok 0 rfl rfl)) ?_
       refine wl_e rfl ?_; intro K hK
       refine ow_storeA hS 1 rfl ts_25 (tmP rfl rfl) (tmA rfl rfl) rfl rfl rfl ?_
       clear hS; intro w hS
       try replace hS := St.nm (M' := [.blk _ _ [_, _, _], .blk _ _ [_, _, _]]) hS rfl
       refine hK _ _ ?_; clear hK K
       refine wl_nil ?_
       refine then_n (hK12 _ _ ?_); clear hK12 K12
       refine wp_ret ?_
       refine ret1 rfl (.cell rfl rfl (load_rowB (cs := [_, _, _]) hS.ok 1 rfl Try.underlying25 rfl ts_25 rfl)) ?_
       exact ⟨rfl, hS.kp⟩
     · intro K hK
       refine ow_call Try.func30 rfl rfl (evs_cons (tmI rfl rfl) <| evs_nil) (first_c (m - 64) _ (by omega)) ?_
       rintro e w ⟨rfl, hk⟩
       refine ⟨_, rfl, ?_⟩
       replace hS := hS.kept hk
       clear hk
       refine hK _ _ ?_; clear hK K
       refine rg_step 1 rfl (by kernel_rfl) (want_0) (oks_drop hS 1 rfl) ?_; intro K hK
       first
        | refine ow_v (x_load Try.underlying23 rfl (tmP rfl rfl) (cellB hS.ok 0 rfl rfl)) ?_
        | refine ow_v (x_load Try.underlying23 rfl (tmP rfl rfl) (cellB hS.ok 0 rfl (getm (by omega)))) ?_
       refine hK _ _ ?_; clear hK K
       refine rg_take 6 rfl rfl (by kernel_rfl) (by kernel_rfl) (by kernel_rfl) (want_0) (fun w hok => x_andN (tmI rfl rfl) (tmI rfl rfl) (fit_u64 (by omega)) (fit_u64 (by omega))) ?_
       refine rg_take 7 rfl rfl (by kernel_rfl) (by kernel_rfl) (by kernel_rfl) (want_0) (fun w hok => x_fa 2 Try.underlying25 rfl rfl ts_23 (tmP rfl rfl)) ?_
       refine rg_step 8 rfl (by kernel_rfl) (want_0) (oks_drop hS 1 rfl) ?_; intro K hK
       first
        | refine ow_store hS 0 rfl ts_23 (tmP rfl rfl) (tmI rfl rfl) rfl rfl ?_
        | refine ow_storeX hS 0 rfl ts_23 (tmP rfl rfl) (tmI rfl rfl) rfl (by simp; omega) ?_
       clear hS; intro w hS
       try replace hS := St.nm (M' := [.blk _ _ [_, _, _], .blk _ _ [_, _, _]]) hS rfl
       refine hK _ _ ?_; clear hK K
       refine rg_done (oks_drop hS 1 rfl) (by kernel_rfl) ?_
       refine then_n (hK11 _ _ ?_); clear hK11 K11
       refine wp_seq_k ?_; intro K14 hK14
       refine wlit ?_
       refine wl_v (x_loadA (cs := [_, _, _]) Try.underlying25 rfl ts_25 (tmP rfl rfl) (rangeB hS.ok 0 rfl rfl)) ?_
       refine wl_e rfl ?_; intro K hK
       refine ow_storeA hS 1 rfl ts_25 (tmP rfl rfl) (tmA rfl rfl) rfl rfl rfl ?_
       clear hS; intro w hS
       try replace hS := St.nm (M' := [.blk _ _ [_, _, _], .blk _ _ [_, _, _]]) hS rfl
       refine hK _ _ ?_; clear hK K
       refine wl_nil ?_
       refine then_n (hK14 _ _ ?_); clear hK14 K14
       refine wp_ret ?_
       refine ret1 rfl (.cell rfl rfl (load_rowB (cs := [_, _, _]) hS.ok 1 rfl Try.underlying25 rfl ts_25 rfl)) ?_
       exact ⟨rfl, hS.kp⟩
end Go.Proofs.Ytlpgedncnefaoaa
