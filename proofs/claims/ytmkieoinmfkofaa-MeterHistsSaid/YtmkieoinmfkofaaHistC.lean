
/- Histograms: the program's and the reference's functions by contract (under way). Conditions: none but bounds. -/
import Derived.Test.YtmkieoinmfkofaaHist
import Derived.Test.YtmkieoinmfkofaaTy
namespace Go.Proofs.Ytmkieoinmfkofaa
open Go.RowKit
namespace HistC
set_option maxRecDepth 100000 in
set_option maxHeartbeats 4000000 in
theorem bits_c (x : Nat) (w0 : World) (hx : x < 18446744073709551616) :
    Calls Try.prog 14 #[.int .u64 (x : Int)] w0 fun e w' => e = .returned (.int .i64 ((bl x : Nat) : Int)) ∧ Kp [] w0 w' := by
  have hS := St.sv w0
  refine ent (n := 11) Try.func14 rfl rfl ?_
  refine wp_seq_k ?_; intro K1 hK1
  refine wlit ?_
  refine wl_v (x_assign (ev_cN 0)) ?_
  refine wl_nil ?_
  refine then_n (hK1 _ _ ?_); clear hK1 K1
  refine wp_seq_k ?_; intro K2 hK2
  refine wlit ?_
  refine wl_v (x_assign (ev_cN 0)) ?_
  refine wl_nil ?_
  refine then_n (hK2 _ _ ?_); clear hK2 K2
  refine wp_seq_k ?_; intro K3 hK3
  refine wp_block ?_
  refine lp [0, 3, 4, 5, 6, 7, 8, 9] (fun mz g w => ∃ (k : Nat), ∃ (y : Nat), mz = 2 * y ∧ g 3 = .int .i64 (k : Int) ∧ g 0 = .int .u64 (y : Int) ∧ St [] w0 [] w ∧ (k + bl y = bl x) ∧ (y ≤ x) ∧ (k ≤ 64)) ?_ ?_
  · exact ⟨_, 0, x, rfl, (by first | rfl | go_num | exact congrArg (Value.int _) (by first | omega | (simp; done) | (simp; omega))), (by first | rfl | go_num | exact congrArg (Value.int _) (by first | omega | (simp; done) | (simp; omega))), hS, (by first | exact hk1 | omega), (by omega), (by omega)⟩
  · clear hS; intro mz g w hI
    obtain ⟨k, y, rfl, hs3, hs0, hS, hk, hy, hb⟩ := hI
    refine fr_know (d := 3) hs3 ?_; clear hs3
    refine fr_know (d := 0) hs0 ?_; clear hs0
    refine wp_seq_k ?_; intro K4 hK4
    refine wp_seq_k ?_; intro K5 hK5
    refine wlit ?_
    refine wl_v (x_move (tmI rfl rfl)) ?_
    refine wl_v (x_gtr (tmI rfl rfl) (ev_cN 0)) ?_
    refine wl_nil ?_
    refine then_n (hK5 _ _ ?_); clear hK5 K5
    refine cnd (tm rfl) (fun hc0 => ?_) (fun hc0 => ?_)
    · try (exfalso; first | with_reducible exact absurd hc0 Bool.false_ne_true | with_reducible exact absurd hc0.symm Bool.false_ne_true | (simp only [nrm] at hc0; omega) | (simp at hc0; done))
      all_goals
       try simp only [nrm] at hc0
       have h64 : bl x ≤ 64 := bl_lt (s := 64) (by omega)
       have hst := bl_step (x := y) (by omega)
       have hk1 : k + 1 + bl (y / 2) = bl x := by omega
       refine wp_skip ?_
       refine then_n (hK4 _ _ ?_); clear hK4 K4
       refine wp_block ?_
       refine wp_seq_k ?_; intro K6 hK6
       refine wlit ?_
       refine wl_v (x_move (tmI rfl rfl)) ?_
       first
        | refine wl_v (x_quoN (tmI rfl rfl) (ev_cN 2) (by omega) (fit_u64 (by omega))) ?_
        | refine wl_v (x_quo (tmI rfl rfl) (ev_cN 2) (by omega)) ?_
       refine wl_v (x_assign (tmI rfl rfl)) ?_
       refine wl_nil ?_
       refine then_n (hK6 _ _ ?_); clear hK6 K6
       refine wlit ?_
       refine wl_v (x_move (tmI rfl rfl)) ?_
       first
        | refine wl_v (x_addN (tmI rfl rfl) (ev_cN 1) (fit_i64 (by omega))) ?_
        | refine wl_v (x_addI (tmI rfl rfl) (ev_cN 1) (IntWalk.i64_in _ (by omega))) ?_
        | refine wl_v (x_add (tmI rfl rfl) (ev_cN 1)) ?_
       refine wl_v (x_assign (tmI rfl rfl)) ?_
       refine wl_nil ?_
       refine inb_n ?_
       exact then_n ⟨_, _, rfl, (by show _ < _; omega), (by repeat (first | exact agree_self | exact agree_refl | refine agree_upd rfl ?_ | refine agree_mix rfl ?_)), k + 1, y / 2, rfl, (by first | rfl | go_num | exact congrArg (Value.int _) (by first | omega | (simp; done) | (simp; omega))), (by first | rfl | go_num | exact congrArg (Value.int _) (by first | omega | (simp; done) | (simp; omega))), hS, (by first | exact hk1 | omega), (by omega), (by omega)⟩
    try (exfalso; first | with_reducible exact absurd hc0 Bool.false_ne_true | with_reducible exact absurd hc0.symm Bool.false_ne_true | (simp only [nrm] at hc0; omega) | (simp at hc0; done))
    all_goals
     try simp only [nrm] at hc0
     refine wp_exit ?_
     refine then_x ?_; clear hK4 K4
     refine then_x ?_
     refine inb_x ?_
     refine then_n (hK3 _ _ ?_); clear hK3 K3
     refine wp_seq_k ?_; intro K7 hK7
     refine wlit ?_
     refine wl_v (x_move (tmI rfl rfl)) ?_
     refine wl_v (x_assign (tmI rfl rfl)) ?_
     refine wl_nil ?_
     refine then_n (hK7 _ _ ?_); clear hK7 K7
     refine wp_ret ?_
     refine ret1 rfl (.tmp rfl (show _ = Value.int _ _ from rfl)) ?_
     obtain rfl : y = 0 := by omega
     rw [bl_zero] at hk
     exact ⟨by rw [← hk]; rfl, hS.kp⟩
set_option maxRecDepth 100000 in
set_option maxHeartbeats 4000000 in
theorem required_c (n p : Nat) (w0 : World) (hn : n ≤ 1000) (hp : p ≤ 100) :
    Calls Try.prog 13 #[.int .u64 (n : Int), .int .u64 (p : Int)] w0 fun e w' => e = .returned (.int .u64 ((needP n p : Nat) : Int)) ∧ Kp [] w0 w' := by
  have hS := St.sv w0
  have h1 : n / 100 * p ≤ 10 * 100 := Nat.mul_le_mul (by omega) hp
  have h2 : n % 100 * p ≤ 100 * 100 := Nat.mul_le_mul (by omega) hp
  have h3 := need_split n p
  refine ent (n := 19) Try.func13 rfl rfl ?_
  refine wp_seq_k ?_; intro K1 hK1
  refine wlit ?_
  refine wl_v (x_assign (ev_cN 0)) ?_
  refine wl_nil ?_
  refine then_n (hK1 _ _ ?_); clear hK1 K1
  refine wp_seq_k ?_; intro K2 hK2
  refine wlit ?_
  refine wl_v (x_move (tmI rfl rfl)) ?_
  first
   | refine wl_v (x_quoN (tmI rfl rfl) (ev_cN 100) (by omega) (fit_u64 (by omega))) ?_
   | refine wl_v (x_quo (tmI rfl rfl) (ev_cN 100) (by omega)) ?_
  refine wl_v (x_move (tmI rfl rfl)) ?_
  first
   | refine wl_v (x_mulN (tmI rfl rfl) (tmI rfl rfl) (fit_u64 (by omega))) ?_
   | refine wl_v (x_mulI (tmI rfl rfl) (tmI rfl rfl) (IntWalk.u64_in _ (by omega))) ?_
   | refine wl_v (x_mulU (tmI rfl rfl) (tmI rfl rfl) rfl) ?_
   | refine wl_v (x_mul (tmI rfl rfl) (tmI rfl rfl)) ?_
  refine wl_v (x_move (tmI rfl rfl)) ?_
  first
   | refine wl_v (x_remN (tmI rfl rfl) (ev_cN 100) (by omega)) ?_
   | refine wl_v (x_rem (tmI rfl rfl) (ev_cN 100) (by omega)) ?_
  refine wl_v (x_move (tmI rfl rfl)) ?_
  first
   | refine wl_v (x_mulN (tmI rfl rfl) (tmI rfl rfl) (fit_u64 (by omega))) ?_
   | refine wl_v (x_mulI (tmI rfl rfl) (tmI rfl rfl) (IntWalk.u64_in _ (by omega))) ?_
   | refine wl_v (x_mulU (tmI rfl rfl) (tmI rfl rfl) rfl) ?_
   | refine wl_v (x_mul (tmI rfl rfl) (tmI rfl rfl)) ?_
  first
   | refine wl_v (x_addN (tmI rfl rfl) (ev_cN 99) (fit_u64 (by omega))) ?_
   | refine wl_v (x_addI (tmI rfl rfl) (ev_cN 99) (IntWalk.u64_in _ (by omega))) ?_
   | refine wl_v (x_addU (tmI rfl rfl) (ev_cN 99) rfl) ?_
   | refine wl_v (x_add (tmI rfl rfl) (ev_cN 99)) ?_
  first
   | refine wl_v (x_quoN (tmI rfl rfl) (ev_cN 100) (by omega) (fit_u64 (by omega))) ?_
   | refine wl_v (x_quo (tmI rfl rfl) (ev_cN 100) (by omega)) ?_
  first
   | refine wl_v (x_addN (tmI rfl rfl) (tmI rfl rfl) (fit_u64 (by omega))) ?_
   | refine wl_v (x_addI (tmI rfl rfl) (tmI rfl rfl) (IntWalk.u64_in _ (by omega))) ?_
   | refine wl_v (x_addU (tmI rfl rfl) (tmI rfl rfl) rfl) ?_
   | refine wl_v (x_add (tmI rfl rfl) (tmI rfl rfl)) ?_
  refine wl_v (x_assign (tmI rfl rfl)) ?_
  refine wl_nil ?_
  refine then_n (hK2 _ _ ?_); clear hK2 K2
  refine wp_seq_k ?_; intro K3 hK3
  refine wlit ?_
  refine wl_v (x_move (tmI rfl rfl)) ?_
  first
   | refine wl_v (x_max (tmI rfl rfl) (ev_cN 1)) ?_
   | refine wl_v (x_maxI (tmI rfl rfl) (ev_cN 1)) ?_
  refine wl_v (x_assign (tmI rfl rfl)) ?_
  refine wl_nil ?_
  refine then_n (hK3 _ _ ?_); clear hK3 K3
  refine wp_ret ?_
  refine ret1 rfl (.tmp rfl (show _ = Value.int _ _ from rfl)) ?_
  refine ⟨?_, hS.kp⟩
  unfold needP
  rw [← h3]
  first | done | rfl
set_option maxRecDepth 100000 in
set_option maxHeartbeats 4000000 in
theorem total_c (gh : Nat) (f : Nat → Nat) (w0 : World) (hv : View w0 w0.heap.size (some ⟨gh, 0, none⟩) (hL f)) (hb : cum f 65 < 18446744073709551616) :
    Calls Try.prog 9 #[.pointer (some ⟨gh, 0, none⟩)] w0 fun e w' => e = .returned (.int .u64 ((cum f 65 : Nat) : Int)) ∧ Kp [] w0 w' := by
  have hS := (St.sv w0).vcons rfl hv
  refine ent (n := 20) Try.func9 rfl rfl ?_
  refine wp_seq_k ?_; intro K1 hK1
  refine wlit ?_
  refine wl_v (x_assign (ev_cN 0)) ?_
  refine wl_nil ?_
  refine then_n (hK1 _ _ ?_); clear hK1 K1
  refine wp_seq_k ?_; intro K2 hK2
  refine wp_seq_k ?_; intro K3 hK3
  refine wlit ?_
  refine wl_v (x_move (tmP rfl rfl)) ?_
  first
   | refine wl_v (x_peql Try.underlying24 (tmP rfl rfl) ev_c) ?_
   | refine wl_v (x_peqln Try.underlying24 (tmP rfl rfl) ev_c) ?_
  refine wl_nil ?_
  refine then_n (hK3 _ _ ?_); clear hK3 K3
  refine cnd (tm rfl) (fun hc0 => ?_) (fun hc0 => ?_)
  · exfalso
    cases hc0
  try (exfalso; first | with_reducible exact absurd hc0 Bool.false_ne_true | with_reducible exact absurd hc0.symm Bool.false_ne_true | (simp only [nrm] at hc0; omega) | (simp at hc0; done))
  all_goals
   try simp only [nrm] at hc0
   refine wp_skip ?_
   refine then_n (hK2 _ _ ?_); clear hK2 K2
   refine wp_seq_k ?_; intro K4 hK4
   refine wlit ?_
   refine wl_v (x_assign (ev_cN 0)) ?_
   refine wl_nil ?_
   refine then_n (hK4 _ _ ?_); clear hK4 K4
   refine wp_seq_k ?_; intro K5 hK5
   refine wp_seq_k ?_; intro K6 hK6
   refine wlit ?_
   refine wl_v (x_move (tmP rfl rfl)) ?_
   refine wl_v (x_nil (A := none) (tmP rfl rfl)) ?_
   refine wl_v (x_fa 0 Try.underlying28 rfl rfl ts_26 (tmP rfl rfl)) ?_
   refine wl_v (x_loadA (cs := hL f) Try.underlying26 rfl (by rw [hL_len]; exact ts_26) (tmP rfl rfl) (fun i v hv => cellV hS.ok 0 rfl hv)) ?_
   refine wl_v (x_move (ev_cN 0)) ?_
   refine wl_nil ?_
   refine then_n (hK6 _ _ ?_); clear hK6 K6
   refine wp_block ?_
   refine lp [3, 5, 12, 13, 14, 15, 16, 17, 18] (fun mz g w => ∃ (k : Nat), mz = 65 - k ∧ g 12 = .int .i64 (k : Int) ∧ g 3 = .int .u64 ((cum f k : Nat) : Int) ∧ St [] w0 [.vw (some ⟨gh, 0, none⟩) (hL f)] w ∧ (k ≤ 65)) ?_ ?_
   · exact ⟨_, 0, rfl, (by first | rfl | go_num | exact congrArg (Value.int _) (by first | omega | (simp; done) | (simp; omega))), (by first | rfl | go_num | exact congrArg (Value.int _) (by first | omega | (simp; done) | (simp; omega))), hS, (by omega)⟩
   · clear hS; intro mz g w hI
     obtain ⟨k, rfl, hs12, hs3, hS, hk⟩ := hI
     refine fr_know (d := 12) hs12 ?_; clear hs12
     refine fr_know (d := 3) hs3 ?_; clear hs3
     refine wp_seq_k ?_; intro K7 hK7
     refine wlit ?_
     refine wl_v (x_lss (tmI rfl rfl) (ev_cN 65)) ?_
     refine wl_nil ?_
     refine then_n (hK7 _ _ ?_); clear hK7 K7
     refine wp_seq_k ?_; intro K8 hK8
     refine cnd (tm rfl) (fun hc1 => ?_) (fun hc1 => ?_)
     · try (exfalso; first | with_reducible exact absurd hc1 Bool.false_ne_true | with_reducible exact absurd hc1.symm Bool.false_ne_true | (simp only [nrm] at hc1; omega) | (simp at hc1; done))
       all_goals
        try simp only [nrm] at hc1
        have hm := cum_mono f (show k + 1 ≤ 65 by omega)
        have hst : cum f (k + 1) = cum f k + f k := rfl
        refine wp_skip ?_
        refine then_n (hK8 _ _ ?_); clear hK8 K8
        refine wp_seq_k ?_; intro K9 hK9
        refine wp_block ?_
        refine wp_seq_k ?_; intro K10 hK10
        refine wlit ?_
        refine wl_v (x_index (cs := (hL f).toArray) Try.underlying26 ts_25 Try.underlying25 rfl (tmA rfl rfl) (tmI rfl rfl) (by omega) (by simpa using hL_get f (by omega))) ?_
        refine wl_v (x_assign (tmI rfl rfl)) ?_
        refine wl_nil ?_
        refine then_n (hK10 _ _ ?_); clear hK10 K10
        refine wlit ?_
        refine wl_v (x_move (tmI rfl rfl)) ?_
        refine wl_v (x_move (tmI rfl rfl)) ?_
        first
         | refine wl_v (x_addN (tmI rfl rfl) (tmI rfl rfl) (fit_u64 (by omega))) ?_
         | refine wl_v (x_addI (tmI rfl rfl) (tmI rfl rfl) (IntWalk.u64_in _ (by omega))) ?_
         | refine wl_v (x_addU (tmI rfl rfl) (tmI rfl rfl) rfl) ?_
         | refine wl_v (x_add (tmI rfl rfl) (tmI rfl rfl)) ?_
        refine wl_v (x_assign (tmI rfl rfl)) ?_
        refine wl_nil ?_
        refine inb_n ?_
        refine then_n (hK9 _ _ ?_); clear hK9 K9
        refine wlit ?_
        first
         | refine wl_v (x_addN (tmI rfl rfl) (ev_cN 1) (fit_i64 (by omega))) ?_
         | refine wl_v (x_addI (tmI rfl rfl) (ev_cN 1) (IntWalk.i64_in _ (by omega))) ?_
         | refine wl_v (x_add (tmI rfl rfl) (ev_cN 1)) ?_
        refine wl_v (x_move (tmI rfl rfl)) ?_
        refine wl_nil ?_
        exact then_n ⟨_, _, rfl, (by show _ < _; omega), (by repeat (first | exact agree_self | exact agree_refl | refine agree_upd rfl ?_ | refine agree_mix rfl ?_)), k + 1, rfl, (by first | rfl | go_num | exact congrArg (Value.int _) (by first | omega | (simp; done) | (simp; omega))), (by first | rfl | go_num | exact congrArg (Value.int _) (by first | omega | (simp; done) | (simp; omega))), hS, (by omega)⟩
     try (exfalso; first | with_reducible exact absurd hc1 Bool.false_ne_true | with_reducible exact absurd hc1.symm Bool.false_ne_true | (simp only [nrm] at hc1; omega) | (simp at hc1; done))
     all_goals
      try simp only [nrm] at hc1
      refine wp_exit ?_
      refine then_x ?_; clear hK8 K8
      refine then_x ?_
      refine inb_x ?_
      refine then_n (hK5 _ _ ?_); clear hK5 K5
      refine wp_seq_k ?_; intro K11 hK11
      refine wlit ?_
      refine wl_v (x_move (tmI rfl rfl)) ?_
      refine wl_v (x_assign (tmI rfl rfl)) ?_
      refine wl_nil ?_
      refine then_n (hK11 _ _ ?_); clear hK11 K11
      refine wp_ret ?_
      refine ret1 rfl (.tmp rfl (show _ = Value.int _ _ from rfl)) ?_
      obtain rfl : k = 65 := by omega
      exact ⟨rfl, hS.kp⟩
/-- A byte of a string. -/
theorem x_indexS {P : Program} {a : Act} {w : World} {d : Option Tmp} {x y : Operand} {ty : TypeId} {pos : String} {aft : Array Edge} {g : Option (Nat × Bool)} {k : IntKind} {j : Nat} {s : TypeId} {B : ByteArray} {m : Nat} (hm : m < 256) (hs : P.underlying s = some .string) (hx : a.eval x = .string B) (hy : a.eval y = .int k (j : Int)) (hv : B[j]? = some (UInt8.ofNat m)) :
    (execOp a.eval ⟨d, .index s x y, ty, pos, aft, g⟩).run P w = .ok (.value (.int .u8 (m : Int))) w := by
  unfold execOp
  simp only [hx, hy, Instr.index, asIntOf, Sem.run_bind, Sem.run_pure, Result.andThen_ok, run_underlying hs]
  simp [hv]
  omega
def tab8 : ByteArray := ⟨((List.range 256).map fun j => UInt8.ofNat (bl j)).toArray⟩
theorem tab8_at {j : Nat} (h : j < 256) : tab8[j]? = some (UInt8.ofNat (min (bl j) 8)) := by
  rw [Nat.min_eq_left (bl_lt (s := 8) h)]
  have h1 : tab8.size = 256 := by simp [tab8, ByteArray.size]
  rw [getElem?_pos tab8 j (by rw [h1]; exact h)]
  simp [tab8, ByteArray.getElem_eq_getElem_data]
set_option maxRecDepth 100000 in
set_option maxHeartbeats 4000000 in
theorem len64_c (x : Nat) (w0 : World) (hx : x < 18446744073709551616) :
    Calls Try.prog 12 #[.int .u64 (x : Int)] w0 fun e w' => e = .returned (.int .i64 ((bl x : Nat) : Int)) ∧ Kp [] w0 w' := by
  have hS := St.sv w0
  have hs := fun y s (h : 2 ^ s ≤ y) => bl_shift s y h
  have hlt := fun y (h : y < 256) => bl_lt (x := y) (s := 8) h
  refine ent (n := 25) Try.func12 rfl rfl ?_
  refine wp_seq_k ?_; intro K1 hK1
  refine wlit ?_
  refine wl_v (x_assign (ev_cN 0)) ?_
  refine wl_nil ?_
  refine then_n (hK1 _ _ ?_); clear hK1 K1
  refine wp_seq_k ?_; intro K2 hK2
  refine wp_seq_k ?_; intro K3 hK3
  refine wlit ?_
  refine wl_v (x_move (tmI rfl rfl)) ?_
  refine wl_v (x_geq (tmI rfl rfl) (ev_cN 4294967296)) ?_
  refine wl_nil ?_
  refine then_n (hK3 _ _ ?_); clear hK3 K3
  refine cnd (tm rfl) (fun hc0 => ?_) (fun hc0 => ?_)
  · try (exfalso; first | with_reducible exact absurd hc0 Bool.false_ne_true | with_reducible exact absurd hc0.symm Bool.false_ne_true | (simp only [nrm] at hc0; omega) | (simp at hc0; done))
    all_goals
     try simp only [nrm] at hc0
     refine wp_seq_k ?_; intro K4 hK4
     refine wlit ?_
     refine wl_v (x_move (tmI rfl rfl)) ?_
     refine wl_v (x_shrN (tmI rfl rfl) (ev_cN 32) (fit_u64 (by omega))) ?_
     refine wl_v (x_assign (tmI rfl rfl)) ?_
     refine wl_nil ?_
     refine then_n (hK4 _ _ ?_); clear hK4 K4
     refine wlit ?_
     refine wl_v (x_assign (ev_cN 32)) ?_
     refine wl_nil ?_
     refine then_n (hK2 _ _ ?_); clear hK2 K2
     refine wp_seq_k ?_; intro K5 hK5
     refine wp_seq_k ?_; intro K6 hK6
     refine wlit ?_
     refine wl_v (x_move (tmI rfl rfl)) ?_
     refine wl_v (x_geq (tmI rfl rfl) (ev_cN 65536)) ?_
     refine wl_nil ?_
     refine then_n (hK6 _ _ ?_); clear hK6 K6
     refine cnd (tm rfl) (fun hc1 => ?_) (fun hc1 => ?_)
     · try (exfalso; first | with_reducible exact absurd hc1 Bool.false_ne_true | with_reducible exact absurd hc1.symm Bool.false_ne_true | (simp only [nrm] at hc1; omega) | (simp at hc1; done))
       all_goals
        try simp only [nrm] at hc1
        refine wp_seq_k ?_; intro K7 hK7
        refine wlit ?_
        refine wl_v (x_move (tmI rfl rfl)) ?_
        refine wl_v (x_shrN (tmI rfl rfl) (ev_cN 16) (fit_u64 (by omega))) ?_
        refine wl_v (x_assign (tmI rfl rfl)) ?_
        refine wl_nil ?_
        refine then_n (hK7 _ _ ?_); clear hK7 K7
        refine wlit ?_
        refine wl_v (x_move (tmI rfl rfl)) ?_
        first
         | refine wl_v (x_addN (tmI rfl rfl) (ev_cN 16) (fit_i64 (by omega))) ?_
         | refine wl_v (x_addI (tmI rfl rfl) (ev_cN 16) (IntWalk.i64_in _ (by omega))) ?_
         | refine wl_v (x_add (tmI rfl rfl) (ev_cN 16)) ?_
        refine wl_v (x_assign (tmI rfl rfl)) ?_
        refine wl_nil ?_
        refine then_n (hK5 _ _ ?_); clear hK5 K5
        refine wp_seq_k ?_; intro K8 hK8
        refine wp_seq_k ?_; intro K9 hK9
        refine wlit ?_
        refine wl_v (x_move (tmI rfl rfl)) ?_
        refine wl_v (x_geq (tmI rfl rfl) (ev_cN 256)) ?_
        refine wl_nil ?_
        refine then_n (hK9 _ _ ?_); clear hK9 K9
        refine cnd (tm rfl) (fun hc2 => ?_) (fun hc2 => ?_)
        · try (exfalso; first | with_reducible exact absurd hc2 Bool.false_ne_true | with_reducible exact absurd hc2.symm Bool.false_ne_true | (simp only [nrm] at hc2; omega) | (simp at hc2; done))
          all_goals
           try simp only [nrm] at hc2
           refine wp_seq_k ?_; intro K10 hK10
           refine wlit ?_
           refine wl_v (x_move (tmI rfl rfl)) ?_
           refine wl_v (x_shrN (tmI rfl rfl) (ev_cN 8) (fit_u64 (by omega))) ?_
           refine wl_v (x_assign (tmI rfl rfl)) ?_
           refine wl_nil ?_
           refine then_n (hK10 _ _ ?_); clear hK10 K10
           refine wlit ?_
           refine wl_v (x_move (tmI rfl rfl)) ?_
           first
            | refine wl_v (x_addN (tmI rfl rfl) (ev_cN 8) (fit_i64 (by omega))) ?_
            | refine wl_v (x_addI (tmI rfl rfl) (ev_cN 8) (IntWalk.i64_in _ (by omega))) ?_
            | refine wl_v (x_add (tmI rfl rfl) (ev_cN 8)) ?_
           refine wl_v (x_assign (tmI rfl rfl)) ?_
           refine wl_nil ?_
           refine then_n (hK8 _ _ ?_); clear hK8 K8
           refine wp_seq_k ?_; intro K11 hK11
           refine wlit ?_
           refine wl_v (x_move (tmI rfl rfl)) ?_
           refine wl_v (x_move (tmI rfl rfl)) ?_
           first
            | refine wl_v (x_convN Try.underlying25 Try.underlying5 (tmI rfl rfl) (fit_u8 (by omega))) ?_
            | refine wl_v (x_convU Try.underlying25 Try.underlying5 (tmI rfl rfl) rfl) ?_
            | refine wl_v (x_conv Try.underlying25 Try.underlying5 (tmI rfl rfl)) ?_
           refine wl_v (x_indexS (by omega) Try.underlying9 (B := tab8) (by kernel_rfl) (tmI rfl rfl) (tab8_at (by omega))) ?_
           first
            | refine wl_v (x_convN Try.underlying5 Try.underlying3 (tmI rfl rfl) (fit_i64 (by omega))) ?_
            | refine wl_v (x_conv Try.underlying5 Try.underlying3 (tmI rfl rfl)) ?_
           first
            | refine wl_v (x_addN (tmI rfl rfl) (tmI rfl rfl) (fit_i64 (by omega))) ?_
            | refine wl_v (x_addI (tmI rfl rfl) (tmI rfl rfl) (IntWalk.i64_in _ (by omega))) ?_
            | refine wl_v (x_add (tmI rfl rfl) (tmI rfl rfl)) ?_
           refine wl_v (x_assign (tmI rfl rfl)) ?_
           refine wl_nil ?_
           refine then_n (hK11 _ _ ?_); clear hK11 K11
           refine wp_ret ?_
           refine ret1 rfl (.tmp rfl (show _ = Value.int _ _ from rfl)) ?_
           refine ⟨congrArg (fun q : Nat => Ending.returned (Value.int .i64 (q : Int))) ?_, hS.kp⟩
           first
             | (have h32 := hs (x) 32 (by omega); have h16 := hs (x / 2 ^ 32) 16 (by omega); have h8 := hs (x / 2 ^ 32 / 2 ^ 16) 8 (by omega); have h0 := hlt (x / 2 ^ 32 / 2 ^ 16 / 2 ^ 8) (by omega); omega)
             | (have h32 := hs (x) 32 (by omega); have h16 := hs (x / 2 ^ 32) 16 (by omega); have h0 := hlt (x / 2 ^ 32 / 2 ^ 16) (by omega); omega)
             | (have h32 := hs (x) 32 (by omega); have h8 := hs (x / 2 ^ 32) 8 (by omega); have h0 := hlt (x / 2 ^ 32 / 2 ^ 8) (by omega); omega)
             | (have h32 := hs (x) 32 (by omega); have h0 := hlt (x / 2 ^ 32) (by omega); omega)
             | (have h16 := hs (x) 16 (by omega); have h8 := hs (x / 2 ^ 16) 8 (by omega); have h0 := hlt (x / 2 ^ 16 / 2 ^ 8) (by omega); omega)
             | (have h16 := hs (x) 16 (by omega); have h0 := hlt (x / 2 ^ 16) (by omega); omega)
             | (have h8 := hs (x) 8 (by omega); have h0 := hlt (x / 2 ^ 8) (by omega); omega)
             | (have h0 := hlt (x) (by omega); omega)
        try (exfalso; first | with_reducible exact absurd hc2 Bool.false_ne_true | with_reducible exact absurd hc2.symm Bool.false_ne_true | (simp only [nrm] at hc2; omega) | (simp at hc2; done))
        all_goals
         try simp only [nrm] at hc2
         refine wp_skip ?_
         refine then_n (hK8 _ _ ?_); clear hK8 K8
         refine wp_seq_k ?_; intro K12 hK12
         refine wlit ?_
         refine wl_v (x_move (tmI rfl rfl)) ?_
         refine wl_v (x_move (tmI rfl rfl)) ?_
         first
          | refine wl_v (x_convN Try.underlying25 Try.underlying5 (tmI rfl rfl) (fit_u8 (by omega))) ?_
          | refine wl_v (x_convU Try.underlying25 Try.underlying5 (tmI rfl rfl) rfl) ?_
          | refine wl_v (x_conv Try.underlying25 Try.underlying5 (tmI rfl rfl)) ?_
         refine wl_v (x_indexS (by omega) Try.underlying9 (B := tab8) (by kernel_rfl) (tmI rfl rfl) (tab8_at (by omega))) ?_
         first
          | refine wl_v (x_convN Try.underlying5 Try.underlying3 (tmI rfl rfl) (fit_i64 (by omega))) ?_
          | refine wl_v (x_conv Try.underlying5 Try.underlying3 (tmI rfl rfl)) ?_
         first
          | refine wl_v (x_addN (tmI rfl rfl) (tmI rfl rfl) (fit_i64 (by omega))) ?_
          | refine wl_v (x_addI (tmI rfl rfl) (tmI rfl rfl) (IntWalk.i64_in _ (by omega))) ?_
          | refine wl_v (x_add (tmI rfl rfl) (tmI rfl rfl)) ?_
         refine wl_v (x_assign (tmI rfl rfl)) ?_
         refine wl_nil ?_
         refine then_n (hK12 _ _ ?_); clear hK12 K12
         refine wp_ret ?_
         refine ret1 rfl (.tmp rfl (show _ = Value.int _ _ from rfl)) ?_
         refine ⟨congrArg (fun q : Nat => Ending.returned (Value.int .i64 (q : Int))) ?_, hS.kp⟩
         first
           | (have h32 := hs (x) 32 (by omega); have h16 := hs (x / 2 ^ 32) 16 (by omega); have h8 := hs (x / 2 ^ 32 / 2 ^ 16) 8 (by omega); have h0 := hlt (x / 2 ^ 32 / 2 ^ 16 / 2 ^ 8) (by omega); omega)
           | (have h32 := hs (x) 32 (by omega); have h16 := hs (x / 2 ^ 32) 16 (by omega); have h0 := hlt (x / 2 ^ 32 / 2 ^ 16) (by omega); omega)
           | (have h32 := hs (x) 32 (by omega); have h8 := hs (x / 2 ^ 32) 8 (by omega); have h0 := hlt (x / 2 ^ 32 / 2 ^ 8) (by omega); omega)
           | (have h32 := hs (x) 32 (by omega); have h0 := hlt (x / 2 ^ 32) (by omega); omega)
           | (have h16 := hs (x) 16 (by omega); have h8 := hs (x / 2 ^ 16) 8 (by omega); have h0 := hlt (x / 2 ^ 16 / 2 ^ 8) (by omega); omega)
           | (have h16 := hs (x) 16 (by omega); have h0 := hlt (x / 2 ^ 16) (by omega); omega)
           | (have h8 := hs (x) 8 (by omega); have h0 := hlt (x / 2 ^ 8) (by omega); omega)
           | (have h0 := hlt (x) (by omega); omega)
     try (exfalso; first | with_reducible exact absurd hc1 Bool.false_ne_true | with_reducible exact absurd hc1.symm Bool.false_ne_true | (simp only [nrm] at hc1; omega) | (simp at hc1; done))
     all_goals
      try simp only [nrm] at hc1
      refine wp_skip ?_
      refine then_n (hK5 _ _ ?_); clear hK5 K5
      refine wp_seq_k ?_; intro K13 hK13
      refine wp_seq_k ?_; intro K14 hK14
      refine wlit ?_
      refine wl_v (x_move (tmI rfl rfl)) ?_
      refine wl_v (x_geq (tmI rfl rfl) (ev_cN 256)) ?_
      refine wl_nil ?_
      refine then_n (hK14 _ _ ?_); clear hK14 K14
      refine cnd (tm rfl) (fun hc2 => ?_) (fun hc2 => ?_)
      · try (exfalso; first | with_reducible exact absurd hc2 Bool.false_ne_true | with_reducible exact absurd hc2.symm Bool.false_ne_true | (simp only [nrm] at hc2; omega) | (simp at hc2; done))
        all_goals
         try simp only [nrm] at hc2
         refine wp_seq_k ?_; intro K15 hK15
         refine wlit ?_
         refine wl_v (x_move (tmI rfl rfl)) ?_
         refine wl_v (x_shrN (tmI rfl rfl) (ev_cN 8) (fit_u64 (by omega))) ?_
         refine wl_v (x_assign (tmI rfl rfl)) ?_
         refine wl_nil ?_
         refine then_n (hK15 _ _ ?_); clear hK15 K15
         refine wlit ?_
         refine wl_v (x_move (tmI rfl rfl)) ?_
         first
          | refine wl_v (x_addN (tmI rfl rfl) (ev_cN 8) (fit_i64 (by omega))) ?_
          | refine wl_v (x_addI (tmI rfl rfl) (ev_cN 8) (IntWalk.i64_in _ (by omega))) ?_
          | refine wl_v (x_add (tmI rfl rfl) (ev_cN 8)) ?_
         refine wl_v (x_assign (tmI rfl rfl)) ?_
         refine wl_nil ?_
         refine then_n (hK13 _ _ ?_); clear hK13 K13
         refine wp_seq_k ?_; intro K16 hK16
         refine wlit ?_
         refine wl_v (x_move (tmI rfl rfl)) ?_
         refine wl_v (x_move (tmI rfl rfl)) ?_
         first
          | refine wl_v (x_convN Try.underlying25 Try.underlying5 (tmI rfl rfl) (fit_u8 (by omega))) ?_
          | refine wl_v (x_convU Try.underlying25 Try.underlying5 (tmI rfl rfl) rfl) ?_
          | refine wl_v (x_conv Try.underlying25 Try.underlying5 (tmI rfl rfl)) ?_
         refine wl_v (x_indexS (by omega) Try.underlying9 (B := tab8) (by kernel_rfl) (tmI rfl rfl) (tab8_at (by omega))) ?_
         first
          | refine wl_v (x_convN Try.underlying5 Try.underlying3 (tmI rfl rfl) (fit_i64 (by omega))) ?_
          | refine wl_v (x_conv Try.underlying5 Try.underlying3 (tmI rfl rfl)) ?_
         first
          | refine wl_v (x_addN (tmI rfl rfl) (tmI rfl rfl) (fit_i64 (by omega))) ?_
          | refine wl_v (x_addI (tmI rfl rfl) (tmI rfl rfl) (IntWalk.i64_in _ (by omega))) ?_
          | refine wl_v (x_add (tmI rfl rfl) (tmI rfl rfl)) ?_
         refine wl_v (x_assign (tmI rfl rfl)) ?_
         refine wl_nil ?_
         refine then_n (hK16 _ _ ?_); clear hK16 K16
         refine wp_ret ?_
         refine ret1 rfl (.tmp rfl (show _ = Value.int _ _ from rfl)) ?_
         refine ⟨congrArg (fun q : Nat => Ending.returned (Value.int .i64 (q : Int))) ?_, hS.kp⟩
         first
           | (have h32 := hs (x) 32 (by omega); have h16 := hs (x / 2 ^ 32) 16 (by omega); have h8 := hs (x / 2 ^ 32 / 2 ^ 16) 8 (by omega); have h0 := hlt (x / 2 ^ 32 / 2 ^ 16 / 2 ^ 8) (by omega); omega)
           | (have h32 := hs (x) 32 (by omega); have h16 := hs (x / 2 ^ 32) 16 (by omega); have h0 := hlt (x / 2 ^ 32 / 2 ^ 16) (by omega); omega)
           | (have h32 := hs (x) 32 (by omega); have h8 := hs (x / 2 ^ 32) 8 (by omega); have h0 := hlt (x / 2 ^ 32 / 2 ^ 8) (by omega); omega)
           | (have h32 := hs (x) 32 (by omega); have h0 := hlt (x / 2 ^ 32) (by omega); omega)
           | (have h16 := hs (x) 16 (by omega); have h8 := hs (x / 2 ^ 16) 8 (by omega); have h0 := hlt (x / 2 ^ 16 / 2 ^ 8) (by omega); omega)
           | (have h16 := hs (x) 16 (by omega); have h0 := hlt (x / 2 ^ 16) (by omega); omega)
           | (have h8 := hs (x) 8 (by omega); have h0 := hlt (x / 2 ^ 8) (by omega); omega)
           | (have h0 := hlt (x) (by omega); omega)
      try (exfalso; first | with_reducible exact absurd hc2 Bool.false_ne_true | with_reducible exact absurd hc2.symm Bool.false_ne_true | (simp only [nrm] at hc2; omega) | (simp at hc2; done))
      all_goals
       try simp only [nrm] at hc2
       refine wp_skip ?_
       refine then_n (hK13 _ _ ?_); clear hK13 K13
       refine wp_seq_k ?_; intro K17 hK17
       refine wlit ?_
       refine wl_v (x_move (tmI rfl rfl)) ?_
       refine wl_v (x_move (tmI rfl rfl)) ?_
       first
        | refine wl_v (x_convN Try.underlying25 Try.underlying5 (tmI rfl rfl) (fit_u8 (by omega))) ?_
        | refine wl_v (x_convU Try.underlying25 Try.underlying5 (tmI rfl rfl) rfl) ?_
        | refine wl_v (x_conv Try.underlying25 Try.underlying5 (tmI rfl rfl)) ?_
       refine wl_v (x_indexS (by omega) Try.underlying9 (B := tab8) (by kernel_rfl) (tmI rfl rfl) (tab8_at (by omega))) ?_
       first
        | refine wl_v (x_convN Try.underlying5 Try.underlying3 (tmI rfl rfl) (fit_i64 (by omega))) ?_
        | refine wl_v (x_conv Try.underlying5 Try.underlying3 (tmI rfl rfl)) ?_
       first
        | refine wl_v (x_addN (tmI rfl rfl) (tmI rfl rfl) (fit_i64 (by omega))) ?_
        | refine wl_v (x_addI (tmI rfl rfl) (tmI rfl rfl) (IntWalk.i64_in _ (by omega))) ?_
        | refine wl_v (x_add (tmI rfl rfl) (tmI rfl rfl)) ?_
       refine wl_v (x_assign (tmI rfl rfl)) ?_
       refine wl_nil ?_
       refine then_n (hK17 _ _ ?_); clear hK17 K17
       refine wp_ret ?_
       refine ret1 rfl (.tmp rfl (show _ = Value.int _ _ from rfl)) ?_
       refine ⟨congrArg (fun q : Nat => Ending.returned (Value.int .i64 (q : Int))) ?_, hS.kp⟩
       first
         | (have h32 := hs (x) 32 (by omega); have h16 := hs (x / 2 ^ 32) 16 (by omega); have h8 := hs (x / 2 ^ 32 / 2 ^ 16) 8 (by omega); have h0 := hlt (x / 2 ^ 32 / 2 ^ 16 / 2 ^ 8) (by omega); omega)
         | (have h32 := hs (x) 32 (by omega); have h16 := hs (x / 2 ^ 32) 16 (by omega); have h0 := hlt (x / 2 ^ 32 / 2 ^ 16) (by omega); omega)
         | (have h32 := hs (x) 32 (by omega); have h8 := hs (x / 2 ^ 32) 8 (by omega); have h0 := hlt (x / 2 ^ 32 / 2 ^ 8) (by omega); omega)
         | (have h32 := hs (x) 32 (by omega); have h0 := hlt (x / 2 ^ 32) (by omega); omega)
         | (have h16 := hs (x) 16 (by omega); have h8 := hs (x / 2 ^ 16) 8 (by omega); have h0 := hlt (x / 2 ^ 16 / 2 ^ 8) (by omega); omega)
         | (have h16 := hs (x) 16 (by omega); have h0 := hlt (x / 2 ^ 16) (by omega); omega)
         | (have h8 := hs (x) 8 (by omega); have h0 := hlt (x / 2 ^ 8) (by omega); omega)
         | (have h0 := hlt (x) (by omega); omega)
  try (exfalso; first | with_reducible exact absurd hc0 Bool.false_ne_true | with_reducible exact absurd hc0.symm Bool.false_ne_true | (simp only [nrm] at hc0; omega) | (simp at hc0; done))
  all_goals
   try simp only [nrm] at hc0
   refine wp_skip ?_
   refine then_n (hK2 _ _ ?_); clear hK2 K2
   refine wp_seq_k ?_; intro K18 hK18
   refine wp_seq_k ?_; intro K19 hK19
   refine wlit ?_
   refine wl_v (x_move (tmI rfl rfl)) ?_
   refine wl_v (x_geq (tmI rfl rfl) (ev_cN 65536)) ?_
   refine wl_nil ?_
   refine then_n (hK19 _ _ ?_); clear hK19 K19
   refine cnd (tm rfl) (fun hc1 => ?_) (fun hc1 => ?_)
   · try (exfalso; first | with_reducible exact absurd hc1 Bool.false_ne_true | with_reducible exact absurd hc1.symm Bool.false_ne_true | (simp only [nrm] at hc1; omega) | (simp at hc1; done))
     all_goals
      try simp only [nrm] at hc1
      refine wp_seq_k ?_; intro K20 hK20
      refine wlit ?_
      refine wl_v (x_move (tmI rfl rfl)) ?_
      refine wl_v (x_shrN (tmI rfl rfl) (ev_cN 16) (fit_u64 (by omega))) ?_
      refine wl_v (x_assign (tmI rfl rfl)) ?_
      refine wl_nil ?_
      refine then_n (hK20 _ _ ?_); clear hK20 K20
      refine wlit ?_
      refine wl_v (x_move (tmI rfl rfl)) ?_
      first
       | refine wl_v (x_addN (tmI rfl rfl) (ev_cN 16) (fit_i64 (by omega))) ?_
       | refine wl_v (x_addI (tmI rfl rfl) (ev_cN 16) (IntWalk.i64_in _ (by omega))) ?_
       | refine wl_v (x_add (tmI rfl rfl) (ev_cN 16)) ?_
      refine wl_v (x_assign (tmI rfl rfl)) ?_
      refine wl_nil ?_
      refine then_n (hK18 _ _ ?_); clear hK18 K18
      refine wp_seq_k ?_; intro K21 hK21
      refine wp_seq_k ?_; intro K22 hK22
      refine wlit ?_
      refine wl_v (x_move (tmI rfl rfl)) ?_
      refine wl_v (x_geq (tmI rfl rfl) (ev_cN 256)) ?_
      refine wl_nil ?_
      refine then_n (hK22 _ _ ?_); clear hK22 K22
      refine cnd (tm rfl) (fun hc2 => ?_) (fun hc2 => ?_)
      · try (exfalso; first | with_reducible exact absurd hc2 Bool.false_ne_true | with_reducible exact absurd hc2.symm Bool.false_ne_true | (simp only [nrm] at hc2; omega) | (simp at hc2; done))
        all_goals
         try simp only [nrm] at hc2
         refine wp_seq_k ?_; intro K23 hK23
         refine wlit ?_
         refine wl_v (x_move (tmI rfl rfl)) ?_
         refine wl_v (x_shrN (tmI rfl rfl) (ev_cN 8) (fit_u64 (by omega))) ?_
         refine wl_v (x_assign (tmI rfl rfl)) ?_
         refine wl_nil ?_
         refine then_n (hK23 _ _ ?_); clear hK23 K23
         refine wlit ?_
         refine wl_v (x_move (tmI rfl rfl)) ?_
         first
          | refine wl_v (x_addN (tmI rfl rfl) (ev_cN 8) (fit_i64 (by omega))) ?_
          | refine wl_v (x_addI (tmI rfl rfl) (ev_cN 8) (IntWalk.i64_in _ (by omega))) ?_
          | refine wl_v (x_add (tmI rfl rfl) (ev_cN 8)) ?_
         refine wl_v (x_assign (tmI rfl rfl)) ?_
         refine wl_nil ?_
         refine then_n (hK21 _ _ ?_); clear hK21 K21
         refine wp_seq_k ?_; intro K24 hK24
         refine wlit ?_
         refine wl_v (x_move (tmI rfl rfl)) ?_
         refine wl_v (x_move (tmI rfl rfl)) ?_
         first
          | refine wl_v (x_convN Try.underlying25 Try.underlying5 (tmI rfl rfl) (fit_u8 (by omega))) ?_
          | refine wl_v (x_convU Try.underlying25 Try.underlying5 (tmI rfl rfl) rfl) ?_
          | refine wl_v (x_conv Try.underlying25 Try.underlying5 (tmI rfl rfl)) ?_
         refine wl_v (x_indexS (by omega) Try.underlying9 (B := tab8) (by kernel_rfl) (tmI rfl rfl) (tab8_at (by omega))) ?_
         first
          | refine wl_v (x_convN Try.underlying5 Try.underlying3 (tmI rfl rfl) (fit_i64 (by omega))) ?_
          | refine wl_v (x_conv Try.underlying5 Try.underlying3 (tmI rfl rfl)) ?_
         first
          | refine wl_v (x_addN (tmI rfl rfl) (tmI rfl rfl) (fit_i64 (by omega))) ?_
          | refine wl_v (x_addI (tmI rfl rfl) (tmI rfl rfl) (IntWalk.i64_in _ (by omega))) ?_
          | refine wl_v (x_add (tmI rfl rfl) (tmI rfl rfl)) ?_
         refine wl_v (x_assign (tmI rfl rfl)) ?_
         refine wl_nil ?_
         refine then_n (hK24 _ _ ?_); clear hK24 K24
         refine wp_ret ?_
         refine ret1 rfl (.tmp rfl (show _ = Value.int _ _ from rfl)) ?_
         refine ⟨congrArg (fun q : Nat => Ending.returned (Value.int .i64 (q : Int))) ?_, hS.kp⟩
         first
           | (have h32 := hs (x) 32 (by omega); have h16 := hs (x / 2 ^ 32) 16 (by omega); have h8 := hs (x / 2 ^ 32 / 2 ^ 16) 8 (by omega); have h0 := hlt (x / 2 ^ 32 / 2 ^ 16 / 2 ^ 8) (by omega); omega)
           | (have h32 := hs (x) 32 (by omega); have h16 := hs (x / 2 ^ 32) 16 (by omega); have h0 := hlt (x / 2 ^ 32 / 2 ^ 16) (by omega); omega)
           | (have h32 := hs (x) 32 (by omega); have h8 := hs (x / 2 ^ 32) 8 (by omega); have h0 := hlt (x / 2 ^ 32 / 2 ^ 8) (by omega); omega)
           | (have h32 := hs (x) 32 (by omega); have h0 := hlt (x / 2 ^ 32) (by omega); omega)
           | (have h16 := hs (x) 16 (by omega); have h8 := hs (x / 2 ^ 16) 8 (by omega); have h0 := hlt (x / 2 ^ 16 / 2 ^ 8) (by omega); omega)
           | (have h16 := hs (x) 16 (by omega); have h0 := hlt (x / 2 ^ 16) (by omega); omega)
           | (have h8 := hs (x) 8 (by omega); have h0 := hlt (x / 2 ^ 8) (by omega); omega)
           | (have h0 := hlt (x) (by omega); omega)
      try (exfalso; first | with_reducible exact absurd hc2 Bool.false_ne_true | with_reducible exact absurd hc2.symm Bool.false_ne_true | (simp only [nrm] at hc2; omega) | (simp at hc2; done))
      all_goals
       try simp only [nrm] at hc2
       refine wp_skip ?_
       refine then_n (hK21 _ _ ?_); clear hK21 K21
       refine wp_seq_k ?_; intro K25 hK25
       refine wlit ?_
       refine wl_v (x_move (tmI rfl rfl)) ?_
       refine wl_v (x_move (tmI rfl rfl)) ?_
       first
        | refine wl_v (x_convN Try.underlying25 Try.underlying5 (tmI rfl rfl) (fit_u8 (by omega))) ?_
        | refine wl_v (x_convU Try.underlying25 Try.underlying5 (tmI rfl rfl) rfl) ?_
        | refine wl_v (x_conv Try.underlying25 Try.underlying5 (tmI rfl rfl)) ?_
       refine wl_v (x_indexS (by omega) Try.underlying9 (B := tab8) (by kernel_rfl) (tmI rfl rfl) (tab8_at (by omega))) ?_
       first
        | refine wl_v (x_convN Try.underlying5 Try.underlying3 (tmI rfl rfl) (fit_i64 (by omega))) ?_
        | refine wl_v (x_conv Try.underlying5 Try.underlying3 (tmI rfl rfl)) ?_
       first
        | refine wl_v (x_addN (tmI rfl rfl) (tmI rfl rfl) (fit_i64 (by omega))) ?_
        | refine wl_v (x_addI (tmI rfl rfl) (tmI rfl rfl) (IntWalk.i64_in _ (by omega))) ?_
        | refine wl_v (x_add (tmI rfl rfl) (tmI rfl rfl)) ?_
       refine wl_v (x_assign (tmI rfl rfl)) ?_
       refine wl_nil ?_
       refine then_n (hK25 _ _ ?_); clear hK25 K25
       refine wp_ret ?_
       refine ret1 rfl (.tmp rfl (show _ = Value.int _ _ from rfl)) ?_
       refine ⟨congrArg (fun q : Nat => Ending.returned (Value.int .i64 (q : Int))) ?_, hS.kp⟩
       first
         | (have h32 := hs (x) 32 (by omega); have h16 := hs (x / 2 ^ 32) 16 (by omega); have h8 := hs (x / 2 ^ 32 / 2 ^ 16) 8 (by omega); have h0 := hlt (x / 2 ^ 32 / 2 ^ 16 / 2 ^ 8) (by omega); omega)
         | (have h32 := hs (x) 32 (by omega); have h16 := hs (x / 2 ^ 32) 16 (by omega); have h0 := hlt (x / 2 ^ 32 / 2 ^ 16) (by omega); omega)
         | (have h32 := hs (x) 32 (by omega); have h8 := hs (x / 2 ^ 32) 8 (by omega); have h0 := hlt (x / 2 ^ 32 / 2 ^ 8) (by omega); omega)
         | (have h32 := hs (x) 32 (by omega); have h0 := hlt (x / 2 ^ 32) (by omega); omega)
         | (have h16 := hs (x) 16 (by omega); have h8 := hs (x / 2 ^ 16) 8 (by omega); have h0 := hlt (x / 2 ^ 16 / 2 ^ 8) (by omega); omega)
         | (have h16 := hs (x) 16 (by omega); have h0 := hlt (x / 2 ^ 16) (by omega); omega)
         | (have h8 := hs (x) 8 (by omega); have h0 := hlt (x / 2 ^ 8) (by omega); omega)
         | (have h0 := hlt (x) (by omega); omega)
   try (exfalso; first | with_reducible exact absurd hc1 Bool.false_ne_true | with_reducible exact absurd hc1.symm Bool.false_ne_true | (simp only [nrm] at hc1; omega) | (simp at hc1; done))
   all_goals
    try simp only [nrm] at hc1
    refine wp_skip ?_
    refine then_n (hK18 _ _ ?_); clear hK18 K18
    refine wp_seq_k ?_; intro K26 hK26
    refine wp_seq_k ?_; intro K27 hK27
    refine wlit ?_
    refine wl_v (x_move (tmI rfl rfl)) ?_
    refine wl_v (x_geq (tmI rfl rfl) (ev_cN 256)) ?_
    refine wl_nil ?_
    refine then_n (hK27 _ _ ?_); clear hK27 K27
    refine cnd (tm rfl) (fun hc2 => ?_) (fun hc2 => ?_)
    · try (exfalso; first | with_reducible exact absurd hc2 Bool.false_ne_true | with_reducible exact absurd hc2.symm Bool.false_ne_true | (simp only [nrm] at hc2; omega) | (simp at hc2; done))
      all_goals
       try simp only [nrm] at hc2
       refine wp_seq_k ?_; intro K28 hK28
       refine wlit ?_
       refine wl_v (x_move (tmI rfl rfl)) ?_
       refine wl_v (x_shrN (tmI rfl rfl) (ev_cN 8) (fit_u64 (by omega))) ?_
       refine wl_v (x_assign (tmI rfl rfl)) ?_
       refine wl_nil ?_
       refine then_n (hK28 _ _ ?_); clear hK28 K28
       refine wlit ?_
       refine wl_v (x_move (tmI rfl rfl)) ?_
       first
        | refine wl_v (x_addN (tmI rfl rfl) (ev_cN 8) (fit_i64 (by omega))) ?_
        | refine wl_v (x_addI (tmI rfl rfl) (ev_cN 8) (IntWalk.i64_in _ (by omega))) ?_
        | refine wl_v (x_add (tmI rfl rfl) (ev_cN 8)) ?_
       refine wl_v (x_assign (tmI rfl rfl)) ?_
       refine wl_nil ?_
       refine then_n (hK26 _ _ ?_); clear hK26 K26
       refine wp_seq_k ?_; intro K29 hK29
       refine wlit ?_
       refine wl_v (x_move (tmI rfl rfl)) ?_
       refine wl_v (x_move (tmI rfl rfl)) ?_
       first
        | refine wl_v (x_convN Try.underlying25 Try.underlying5 (tmI rfl rfl) (fit_u8 (by omega))) ?_
        | refine wl_v (x_convU Try.underlying25 Try.underlying5 (tmI rfl rfl) rfl) ?_
        | refine wl_v (x_conv Try.underlying25 Try.underlying5 (tmI rfl rfl)) ?_
       refine wl_v (x_indexS (by omega) Try.underlying9 (B := tab8) (by kernel_rfl) (tmI rfl rfl) (tab8_at (by omega))) ?_
       first
        | refine wl_v (x_convN Try.underlying5 Try.underlying3 (tmI rfl rfl) (fit_i64 (by omega))) ?_
        | refine wl_v (x_conv Try.underlying5 Try.underlying3 (tmI rfl rfl)) ?_
       first
        | refine wl_v (x_addN (tmI rfl rfl) (tmI rfl rfl) (fit_i64 (by omega))) ?_
        | refine wl_v (x_addI (tmI rfl rfl) (tmI rfl rfl) (IntWalk.i64_in _ (by omega))) ?_
        | refine wl_v (x_add (tmI rfl rfl) (tmI rfl rfl)) ?_
       refine wl_v (x_assign (tmI rfl rfl)) ?_
       refine wl_nil ?_
       refine then_n (hK29 _ _ ?_); clear hK29 K29
       refine wp_ret ?_
       refine ret1 rfl (.tmp rfl (show _ = Value.int _ _ from rfl)) ?_
       refine ⟨congrArg (fun q : Nat => Ending.returned (Value.int .i64 (q : Int))) ?_, hS.kp⟩
       first
         | (have h32 := hs (x) 32 (by omega); have h16 := hs (x / 2 ^ 32) 16 (by omega); have h8 := hs (x / 2 ^ 32 / 2 ^ 16) 8 (by omega); have h0 := hlt (x / 2 ^ 32 / 2 ^ 16 / 2 ^ 8) (by omega); omega)
         | (have h32 := hs (x) 32 (by omega); have h16 := hs (x / 2 ^ 32) 16 (by omega); have h0 := hlt (x / 2 ^ 32 / 2 ^ 16) (by omega); omega)
         | (have h32 := hs (x) 32 (by omega); have h8 := hs (x / 2 ^ 32) 8 (by omega); have h0 := hlt (x / 2 ^ 32 / 2 ^ 8) (by omega); omega)
         | (have h32 := hs (x) 32 (by omega); have h0 := hlt (x / 2 ^ 32) (by omega); omega)
         | (have h16 := hs (x) 16 (by omega); have h8 := hs (x / 2 ^ 16) 8 (by omega); have h0 := hlt (x / 2 ^ 16 / 2 ^ 8) (by omega); omega)
         | (have h16 := hs (x) 16 (by omega); have h0 := hlt (x / 2 ^ 16) (by omega); omega)
         | (have h8 := hs (x) 8 (by omega); have h0 := hlt (x / 2 ^ 8) (by omega); omega)
         | (have h0 := hlt (x) (by omega); omega)
    try (exfalso; first | with_reducible exact absurd hc2 Bool.false_ne_true | with_reducible exact absurd hc2.symm Bool.false_ne_true | (simp only [nrm] at hc2; omega) | (simp at hc2; done))
    all_goals
     try simp only [nrm] at hc2
     refine wp_skip ?_
     refine then_n (hK26 _ _ ?_); clear hK26 K26
     refine wp_seq_k ?_; intro K30 hK30
     refine wlit ?_
     refine wl_v (x_move (tmI rfl rfl)) ?_
     refine wl_v (x_move (tmI rfl rfl)) ?_
     first
      | refine wl_v (x_convN Try.underlying25 Try.underlying5 (tmI rfl rfl) (fit_u8 (by omega))) ?_
      | refine wl_v (x_convU Try.underlying25 Try.underlying5 (tmI rfl rfl) rfl) ?_
      | refine wl_v (x_conv Try.underlying25 Try.underlying5 (tmI rfl rfl)) ?_
     refine wl_v (x_indexS (by omega) Try.underlying9 (B := tab8) (by kernel_rfl) (tmI rfl rfl) (tab8_at (by omega))) ?_
     first
      | refine wl_v (x_convN Try.underlying5 Try.underlying3 (tmI rfl rfl) (fit_i64 (by omega))) ?_
      | refine wl_v (x_conv Try.underlying5 Try.underlying3 (tmI rfl rfl)) ?_
     first
      | refine wl_v (x_addN (tmI rfl rfl) (tmI rfl rfl) (fit_i64 (by omega))) ?_
      | refine wl_v (x_addI (tmI rfl rfl) (tmI rfl rfl) (IntWalk.i64_in _ (by omega))) ?_
      | refine wl_v (x_add (tmI rfl rfl) (tmI rfl rfl)) ?_
     refine wl_v (x_assign (tmI rfl rfl)) ?_
     refine wl_nil ?_
     refine then_n (hK30 _ _ ?_); clear hK30 K30
     refine wp_ret ?_
     refine ret1 rfl (.tmp rfl (show _ = Value.int _ _ from rfl)) ?_
     refine ⟨congrArg (fun q : Nat => Ending.returned (Value.int .i64 (q : Int))) ?_, hS.kp⟩
     first
       | (have h32 := hs (x) 32 (by omega); have h16 := hs (x / 2 ^ 32) 16 (by omega); have h8 := hs (x / 2 ^ 32 / 2 ^ 16) 8 (by omega); have h0 := hlt (x / 2 ^ 32 / 2 ^ 16 / 2 ^ 8) (by omega); omega)
       | (have h32 := hs (x) 32 (by omega); have h16 := hs (x / 2 ^ 32) 16 (by omega); have h0 := hlt (x / 2 ^ 32 / 2 ^ 16) (by omega); omega)
       | (have h32 := hs (x) 32 (by omega); have h8 := hs (x / 2 ^ 32) 8 (by omega); have h0 := hlt (x / 2 ^ 32 / 2 ^ 8) (by omega); omega)
       | (have h32 := hs (x) 32 (by omega); have h0 := hlt (x / 2 ^ 32) (by omega); omega)
       | (have h16 := hs (x) 16 (by omega); have h8 := hs (x / 2 ^ 16) 8 (by omega); have h0 := hlt (x / 2 ^ 16 / 2 ^ 8) (by omega); omega)
       | (have h16 := hs (x) 16 (by omega); have h0 := hlt (x / 2 ^ 16) (by omega); omega)
       | (have h8 := hs (x) 8 (by omega); have h0 := hlt (x / 2 ^ 8) (by omega); omega)
       | (have h0 := hlt (x) (by omega); omega)
end HistC
end Go.Proofs.Ytmkieoinmfkofaa
