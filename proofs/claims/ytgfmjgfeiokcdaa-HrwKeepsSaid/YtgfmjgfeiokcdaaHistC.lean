
/- Histograms: the program's and the reference's functions by contract (under way). Conditions: none but bounds. -/
import Derived.Test.YtgfmjgfeiokcdaaHist
import Derived.Test.YtgfmjgfeiokcdaaTy
namespace Go.Proofs.Ytgfmjgfeiokcdaa
open Go.RowKit
namespace HistC
/-- A byte of a string. -/
theorem x_indexS {P : Program} {a : Act} {w : World} {d : Option Tmp} {x y : Operand} {ty : TypeId} {pos : String} {aft : Array Edge} {g : Option (Nat × Bool)} {k : IntKind} {j : Nat} {s : TypeId} {B : ByteArray} {m : Nat} (hm : m < 256) (hs : P.underlying s = some .string) (hx : a.eval x = .string B) (hy : a.eval y = .int k (j : Int)) (hv : B[j]? = some (UInt8.ofNat m)) :
    (execOp a.eval ⟨d, .index s x y, ty, pos, aft, g⟩).run P w = .ok (.value (.int .u8 (m : Int))) w := by
  unfold execOp
  simp only [hx, hy, Instr.index, asIntOf, Sem.run_bind, Sem.run_pure, Result.andThen_ok, run_underlying hs]
  simp [hv]
  omega
def tab8 : ByteArray := ⟨((List.range 256).map fun j => UInt8.ofNat (bl j)).toArray⟩
theorem tab8_at {j : Nat} (h : j < 256) : tab8[j]? = some (UInt8.ofNat (min (bl j) 8)) := by
  rw [Nat.min_eq_left (bl_lt (s := 8) h)]
  have h1 : tab8.size = 256 := by simp [tab8, ByteArray.size]
  rw [getElem?_pos tab8 j (by rw [h1]; exact h)]
  simp [tab8, ByteArray.getElem_eq_getElem_data]
set_option maxRecDepth 100000 in
set_option maxHeartbeats 4000000 in
theorem len64_c (x : Nat) (w0 : World) (hx : x < 18446744073709551616) :
    Calls Try.prog 40 #[.int .u64 (x : Int)] w0 fun e w' => e = .returned (.int .i64 ((bl x : Nat) : Int)) ∧ Kp [] w0 w' := by
  have hS := St.sv w0
  have hs := fun y s (h : 2 ^ s ≤ y) => bl_shift s y h
  have hlt := fun y (h : y < 256) => bl_lt (x := y) (s := 8) h
  refine ent (n := 25) Try.func40 rfl rfl ?_
  refine wp_seq_k ?_; intro K1 hK1
  refine wlit ?_
  refine wl_v (x_assign (ev_cN 0)) ?_
  refine wl_nil ?_
  refine then_n (hK1 _ _ ?_); clear hK1 K1
  refine wp_seq_k ?_; intro K2 hK2
  refine wp_seq_k ?_; intro K3 hK3
  refine wlit ?_
  refine wl_v (x_move (tmI rfl rfl)) ?_
  refine wl_v (x_geq (tmI rfl rfl) (ev_cN 4294967296)) ?_
  refine wl_nil ?_
  refine then_n (hK3 _ _ ?_); clear hK3 K3
  refine cnd (tm rfl) (fun hc0 => ?_) (fun hc0 => ?_)
  · try (exfalso; first | with_reducible exact absurd hc0 Bool.false_ne_true | with_reducible exact absurd hc0.symm Bool.false_ne_true | (simp only [nrm] at hc0; omega) | (simp at hc0; done))
    all_goals
     try simp only [nrm] at hc0
     refine wp_seq_k ?_; intro K4 hK4
     refine wlit ?_
     refine wl_v (x_move (tmI rfl rfl)) ?_
     refine wl_v (x_shrN (tmI rfl rfl) (ev_cN 32) (fit_u64 (by omega))) ?_
     refine wl_v (x_assign (tmI rfl rfl)) ?_
     refine wl_nil ?_
     refine then_n (hK4 _ _ ?_); clear hK4 K4
     refine wlit ?_
     refine wl_v (x_assign (ev_cN 32)) ?_
     refine wl_nil ?_
     refine then_n (hK2 _ _ ?_); clear hK2 K2
     refine wp_seq_k ?_; intro K5 hK5
     refine wp_seq_k ?_; intro K6 hK6
     refine wlit ?_
     refine wl_v (x_move (tmI rfl rfl)) ?_
     refine wl_v (x_geq (tmI rfl rfl) (ev_cN 65536)) ?_
     refine wl_nil ?_
     refine then_n (hK6 _ _ ?_); clear hK6 K6
     refine cnd (tm rfl) (fun hc1 => ?_) (fun hc1 => ?_)
     · try (exfalso; first | with_reducible exact absurd hc1 Bool.false_ne_true | with_reducible exact absurd hc1.symm Bool.false_ne_true | (simp only [nrm] at hc1; omega) | (simp at hc1; done))
       all_goals
        try simp only [nrm] at hc1
        refine wp_seq_k ?_; intro K7 hK7
        refine wlit ?_
        refine wl_v (x_move (tmI rfl rfl)) ?_
        refine wl_v (x_shrN (tmI rfl rfl) (ev_cN 16) (fit_u64 (by omega))) ?_
        refine wl_v (x_assign (tmI rfl rfl)) ?_
        refine wl_nil ?_
        refine then_n (hK7 _ _ ?_); clear hK7 K7
        refine wlit ?_
        refine wl_v (x_move (tmI rfl rfl)) ?_
        first
         | refine wl_v (x_addN (tmI rfl rfl) (ev_cN 16) (fit_i64 (by omega))) ?_
         | refine wl_v (x_addI (tmI rfl rfl) (ev_cN 16) (IntWalk.i64_in _ (by omega))) ?_
         | refine wl_v (x_add (tmI rfl rfl) (ev_cN 16)) ?_
        refine wl_v (x_assign (tmI rfl rfl)) ?_
        refine wl_nil ?_
        refine then_n (hK5 _ _ ?_); clear hK5 K5
        refine wp_seq_k ?_; intro K8 hK8
        refine wp_seq_k ?_; intro K9 hK9
        refine wlit ?_
        refine wl_v (x_move (tmI rfl rfl)) ?_
        refine wl_v (x_geq (tmI rfl rfl) (ev_cN 256)) ?_
        refine wl_nil ?_
        refine then_n (hK9 _ _ ?_); clear hK9 K9
        refine cnd (tm rfl) (fun hc2 => ?_) (fun hc2 => ?_)
        · try (exfalso; first | with_reducible exact absurd hc2 Bool.false_ne_true | with_reducible exact absurd hc2.symm Bool.false_ne_true | (simp only [nrm] at hc2; omega) | (simp at hc2; done))
          all_goals
           try simp only [nrm] at hc2
           refine wp_seq_k ?_; intro K10 hK10
           refine wlit ?_
           refine wl_v (x_move (tmI rfl rfl)) ?_
           refine wl_v (x_shrN (tmI rfl rfl) (ev_cN 8) (fit_u64 (by omega))) ?_
           refine wl_v (x_assign (tmI rfl rfl)) ?_
           refine wl_nil ?_
           refine then_n (hK10 _ _ ?_); clear hK10 K10
           refine wlit ?_
           refine wl_v (x_move (tmI rfl rfl)) ?_
           first
            | refine wl_v (x_addN (tmI rfl rfl) (ev_cN 8) (fit_i64 (by omega))) ?_
            | refine wl_v (x_addI (tmI rfl rfl) (ev_cN 8) (IntWalk.i64_in _ (by omega))) ?_
            | refine wl_v (x_add (tmI rfl rfl) (ev_cN 8)) ?_
           refine wl_v (x_assign (tmI rfl rfl)) ?_
           refine wl_nil ?_
           refine then_n (hK8 _ _ ?_); clear hK8 K8
           refine wp_seq_k ?_; intro K11 hK11
           refine wlit ?_
           refine wl_v (x_move (tmI rfl rfl)) ?_
           refine wl_v (x_move (tmI rfl rfl)) ?_
           first
            | refine wl_v (x_convN Try.underlying32 Try.underlying5 (tmI rfl rfl) (fit_u8 (by omega))) ?_
            | refine wl_v (x_convU Try.underlying32 Try.underlying5 (tmI rfl rfl) rfl) ?_
            | refine wl_v (x_conv Try.underlying32 Try.underlying5 (tmI rfl rfl)) ?_
           refine wl_v (x_indexS (by omega) Try.underlying9 (B := tab8) (by kernel_rfl) (tmI rfl rfl) (tab8_at (by omega))) ?_
           first
            | refine wl_v (x_convN Try.underlying5 Try.underlying3 (tmI rfl rfl) (fit_i64 (by omega))) ?_
            | refine wl_v (x_conv Try.underlying5 Try.underlying3 (tmI rfl rfl)) ?_
           first
            | refine wl_v (x_addN (tmI rfl rfl) (tmI rfl rfl) (fit_i64 (by omega))) ?_
            | refine wl_v (x_addI (tmI rfl rfl) (tmI rfl rfl) (IntWalk.i64_in _ (by omega))) ?_
            | refine wl_v (x_add (tmI rfl rfl) (tmI rfl rfl)) ?_
           refine wl_v (x_assign (tmI rfl rfl)) ?_
           refine wl_nil ?_
           refine then_n (hK11 _ _ ?_); clear hK11 K11
           refine wp_ret ?_
           refine ret1 rfl (.tmp rfl (show _ = Value.int _ _ from rfl)) ?_
           refine ⟨congrArg (fun q : Nat => Ending.returned (Value.int .i64 (q : Int))) ?_, hS.kp⟩
           first
             | (have h32 := hs (x) 32 (by omega); have h16 := hs (x / 2 ^ 32) 16 (by omega); have h8 := hs (x / 2 ^ 32 / 2 ^ 16) 8 (by omega); have h0 := hlt (x / 2 ^ 32 / 2 ^ 16 / 2 ^ 8) (by omega); omega)
             | (have h32 := hs (x) 32 (by omega); have h16 := hs (x / 2 ^ 32) 16 (by omega); have h0 := hlt (x / 2 ^ 32 / 2 ^ 16) (by omega); omega)
             | (have h32 := hs (x) 32 (by omega); have h8 := hs (x / 2 ^ 32) 8 (by omega); have h0 := hlt (x / 2 ^ 32 / 2 ^ 8) (by omega); omega)
             | (have h32 := hs (x) 32 (by omega); have h0 := hlt (x / 2 ^ 32) (by omega); omega)
             | (have h16 := hs (x) 16 (by omega); have h8 := hs (x / 2 ^ 16) 8 (by omega); have h0 := hlt (x / 2 ^ 16 / 2 ^ 8) (by omega); omega)
             | (have h16 := hs (x) 16 (by omega); have h0 := hlt (x / 2 ^ 16) (by omega); omega)
             | (have h8 := hs (x) 8 (by omega); have h0 := hlt (x / 2 ^ 8) (by omega); omega)
             | (have h0 := hlt (x) (by omega); omega)
        try (exfalso; first | with_reducible exact absurd hc2 Bool.false_ne_true | with_reducible exact absurd hc2.symm Bool.false_ne_true | (simp only [nrm] at hc2; omega) | (simp at hc2; done))
        all_goals
         try simp only [nrm] at hc2
         refine wp_skip ?_
         refine then_n (hK8 _ _ ?_); clear hK8 K8
         refine wp_seq_k ?_; intro K12 hK12
         refine wlit ?_
         refine wl_v (x_move (tmI rfl rfl)) ?_
         refine wl_v (x_move (tmI rfl rfl)) ?_
         first
          | refine wl_v (x_convN Try.underlying32 Try.underlying5 (tmI rfl rfl) (fit_u8 (by omega))) ?_
          | refine wl_v (x_convU Try.underlying32 Try.underlying5 (tmI rfl rfl) rfl) ?_
          | refine wl_v (x_conv Try.underlying32 Try.underlying5 (tmI rfl rfl)) ?_
         refine wl_v (x_indexS (by omega) Try.underlying9 (B := tab8) (by kernel_rfl) (tmI rfl rfl) (tab8_at (by omega))) ?_
         first
          | refine wl_v (x_convN Try.underlying5 Try.underlying3 (tmI rfl rfl) (fit_i64 (by omega))) ?_
          | refine wl_v (x_conv Try.underlying5 Try.underlying3 (tmI rfl rfl)) ?_
         first
          | refine wl_v (x_addN (tmI rfl rfl) (tmI rfl rfl) (fit_i64 (by omega))) ?_
          | refine wl_v (x_addI (tmI rfl rfl) (tmI rfl rfl) (IntWalk.i64_in _ (by omega))) ?_
          | refine wl_v (x_add (tmI rfl rfl) (tmI rfl rfl)) ?_
         refine wl_v (x_assign (tmI rfl rfl)) ?_
         refine wl_nil ?_
         refine then_n (hK12 _ _ ?_); clear hK12 K12
         refine wp_ret ?_
         refine ret1 rfl (.tmp rfl (show _ = Value.int _ _ from rfl)) ?_
         refine ⟨congrArg (fun q : Nat => Ending.returned (Value.int .i64 (q : Int))) ?_, hS.kp⟩
         first
           | (have h32 := hs (x) 32 (by omega); have h16 := hs (x / 2 ^ 32) 16 (by omega); have h8 := hs (x / 2 ^ 32 / 2 ^ 16) 8 (by omega); have h0 := hlt (x / 2 ^ 32 / 2 ^ 16 / 2 ^ 8) (by omega); omega)
           | (have h32 := hs (x) 32 (by omega); have h16 := hs (x / 2 ^ 32) 16 (by omega); have h0 := hlt (x / 2 ^ 32 / 2 ^ 16) (by omega); omega)
           | (have h32 := hs (x) 32 (by omega); have h8 := hs (x / 2 ^ 32) 8 (by omega); have h0 := hlt (x / 2 ^ 32 / 2 ^ 8) (by omega); omega)
           | (have h32 := hs (x) 32 (by omega); have h0 := hlt (x / 2 ^ 32) (by omega); omega)
           | (have h16 := hs (x) 16 (by omega); have h8 := hs (x / 2 ^ 16) 8 (by omega); have h0 := hlt (x / 2 ^ 16 / 2 ^ 8) (by omega); omega)
           | (have h16 := hs (x) 16 (by omega); have h0 := hlt (x / 2 ^ 16) (by omega); omega)
           | (have h8 := hs (x) 8 (by omega); have h0 := hlt (x / 2 ^ 8) (by omega); omega)
           | (have h0 := hlt (x) (by omega); omega)
     try (exfalso; first | with_reducible exact absurd hc1 Bool.false_ne_true | with_reducible exact absurd hc1.symm Bool.false_ne_true | (simp only [nrm] at hc1; omega) | (simp at hc1; done))
     all_goals
      try simp only [nrm] at hc1
      refine wp_skip ?_
      refine then_n (hK5 _ _ ?_); clear hK5 K5
      refine wp_seq_k ?_; intro K13 hK13
      refine wp_seq_k ?_; intro K14 hK14
      refine wlit ?_
      refine wl_v (x_move (tmI rfl rfl)) ?_
      refine wl_v (x_geq (tmI rfl rfl) (ev_cN 256)) ?_
      refine wl_nil ?_
      refine then_n (hK14 _ _ ?_); clear hK14 K14
      refine cnd (tm rfl) (fun hc2 => ?_) (fun hc2 => ?_)
      · try (exfalso; first | with_reducible exact absurd hc2 Bool.false_ne_true | with_reducible exact absurd hc2.symm Bool.false_ne_true | (simp only [nrm] at hc2; omega) | (simp at hc2; done))
        all_goals
         try simp only [nrm] at hc2
         refine wp_seq_k ?_; intro K15 hK15
         refine wlit ?_
         refine wl_v (x_move (tmI rfl rfl)) ?_
         refine wl_v (x_shrN (tmI rfl rfl) (ev_cN 8) (fit_u64 (by omega))) ?_
         refine wl_v (x_assign (tmI rfl rfl)) ?_
         refine wl_nil ?_
         refine then_n (hK15 _ _ ?_); clear hK15 K15
         refine wlit ?_
         refine wl_v (x_move (tmI rfl rfl)) ?_
         first
          | refine wl_v (x_addN (tmI rfl rfl) (ev_cN 8) (fit_i64 (by omega))) ?_
          | refine wl_v (x_addI (tmI rfl rfl) (ev_cN 8) (IntWalk.i64_in _ (by omega))) ?_
          | refine wl_v (x_add (tmI rfl rfl) (ev_cN 8)) ?_
         refine wl_v (x_assign (tmI rfl rfl)) ?_
         refine wl_nil ?_
         refine then_n (hK13 _ _ ?_); clear hK13 K13
         refine wp_seq_k ?_; intro K16 hK16
         refine wlit ?_
         refine wl_v (x_move (tmI rfl rfl)) ?_
         refine wl_v (x_move (tmI rfl rfl)) ?_
         first
          | refine wl_v (x_convN Try.underlying32 Try.underlying5 (tmI rfl rfl) (fit_u8 (by omega))) ?_
          | refine wl_v (x_convU Try.underlying32 Try.underlying5 (tmI rfl rfl) rfl) ?_
          | refine wl_v (x_conv Try.underlying32 Try.underlying5 (tmI rfl rfl)) ?_
         refine wl_v (x_indexS (by omega) Try.underlying9 (B := tab8) (by kernel_rfl) (tmI rfl rfl) (tab8_at (by omega))) ?_
         first
          | refine wl_v (x_convN Try.underlying5 Try.underlying3 (tmI rfl rfl) (fit_i64 (by omega))) ?_
          | refine wl_v (x_conv Try.underlying5 Try.underlying3 (tmI rfl rfl)) ?_
         first
          | refine wl_v (x_addN (tmI rfl rfl) (tmI rfl rfl) (fit_i64 (by omega))) ?_
          | refine wl_v (x_addI (tmI rfl rfl) (tmI rfl rfl) (IntWalk.i64_in _ (by omega))) ?_
          | refine wl_v (x_add (tmI rfl rfl) (tmI rfl rfl)) ?_
         refine wl_v (x_assign (tmI rfl rfl)) ?_
         refine wl_nil ?_
         refine then_n (hK16 _ _ ?_); clear hK16 K16
         refine wp_ret ?_
         refine ret1 rfl (.tmp rfl (show _ = Value.int _ _ from rfl)) ?_
         refine ⟨congrArg (fun q : Nat => Ending.returned (Value.int .i64 (q : Int))) ?_, hS.kp⟩
         first
           | (have h32 := hs (x) 32 (by omega); have h16 := hs (x / 2 ^ 32) 16 (by omega); have h8 := hs (x / 2 ^ 32 / 2 ^ 16) 8 (by omega); have h0 := hlt (x / 2 ^ 32 / 2 ^ 16 / 2 ^ 8) (by omega); omega)
           | (have h32 := hs (x) 32 (by omega); have h16 := hs (x / 2 ^ 32) 16 (by omega); have h0 := hlt (x / 2 ^ 32 / 2 ^ 16) (by omega); omega)
           | (have h32 := hs (x) 32 (by omega); have h8 := hs (x / 2 ^ 32) 8 (by omega); have h0 := hlt (x / 2 ^ 32 / 2 ^ 8) (by omega); omega)
           | (have h32 := hs (x) 32 (by omega); have h0 := hlt (x / 2 ^ 32) (by omega); omega)
           | (have h16 := hs (x) 16 (by omega); have h8 := hs (x / 2 ^ 16) 8 (by omega); have h0 := hlt (x / 2 ^ 16 / 2 ^ 8) (by omega); omega)
           | (have h16 := hs (x) 16 (by omega); have h0 := hlt (x / 2 ^ 16) (by omega); omega)
           | (have h8 := hs (x) 8 (by omega); have h0 := hlt (x / 2 ^ 8) (by omega); omega)
           | (have h0 := hlt (x) (by omega); omega)
      try (exfalso; first | with_reducible exact absurd hc2 Bool.false_ne_true | with_reducible exact absurd hc2.symm Bool.false_ne_true | (simp only [nrm] at hc2; omega) | (simp at hc2; done))
      all_goals
       try simp only [nrm] at hc2
       refine wp_skip ?_
       refine then_n (hK13 _ _ ?_); clear hK13 K13
       refine wp_seq_k ?_; intro K17 hK17
       refine wlit ?_
       refine wl_v (x_move (tmI rfl rfl)) ?_
       refine wl_v (x_move (tmI rfl rfl)) ?_
       first
        | refine wl_v (x_convN Try.underlying32 Try.underlying5 (tmI rfl rfl) (fit_u8 (by omega))) ?_
        | refine wl_v (x_convU Try.underlying32 Try.underlying5 (tmI rfl rfl) rfl) ?_
        | refine wl_v (x_conv Try.underlying32 Try.underlying5 (tmI rfl rfl)) ?_
       refine wl_v (x_indexS (by omega) Try.underlying9 (B := tab8) (by kernel_rfl) (tmI rfl rfl) (tab8_at (by omega))) ?_
       first
        | refine wl_v (x_convN Try.underlying5 Try.underlying3 (tmI rfl rfl) (fit_i64 (by omega))) ?_
        | refine wl_v (x_conv Try.underlying5 Try.underlying3 (tmI rfl rfl)) ?_
       first
        | refine wl_v (x_addN (tmI rfl rfl) (tmI rfl rfl) (fit_i64 (by omega))) ?_
        | refine wl_v (x_addI (tmI rfl rfl) (tmI rfl rfl) (IntWalk.i64_in _ (by omega))) ?_
        | refine wl_v (x_add (tmI rfl rfl) (tmI rfl rfl)) ?_
       refine wl_v (x_assign (tmI rfl rfl)) ?_
       refine wl_nil ?_
       refine then_n (hK17 _ _ ?_); clear hK17 K17
       refine wp_ret ?_
       refine ret1 rfl (.tmp rfl (show _ = Value.int _ _ from rfl)) ?_
       refine ⟨congrArg (fun q : Nat => Ending.returned (Value.int .i64 (q : Int))) ?_, hS.kp⟩
       first
         | (have h32 := hs (x) 32 (by omega); have h16 := hs (x / 2 ^ 32) 16 (by omega); have h8 := hs (x / 2 ^ 32 / 2 ^ 16) 8 (by omega); have h0 := hlt (x / 2 ^ 32 / 2 ^ 16 / 2 ^ 8) (by omega); omega)
         | (have h32 := hs (x) 32 (by omega); have h16 := hs (x / 2 ^ 32) 16 (by omega); have h0 := hlt (x / 2 ^ 32 / 2 ^ 16) (by omega); omega)
         | (have h32 := hs (x) 32 (by omega); have h8 := hs (x / 2 ^ 32) 8 (by omega); have h0 := hlt (x / 2 ^ 32 / 2 ^ 8) (by omega); omega)
         | (have h32 := hs (x) 32 (by omega); have h0 := hlt (x / 2 ^ 32) (by omega); omega)
         | (have h16 := hs (x) 16 (by omega); have h8 := hs (x / 2 ^ 16) 8 (by omega); have h0 := hlt (x / 2 ^ 16 / 2 ^ 8) (by omega); omega)
         | (have h16 := hs (x) 16 (by omega); have h0 := hlt (x / 2 ^ 16) (by omega); omega)
         | (have h8 := hs (x) 8 (by omega); have h0 := hlt (x / 2 ^ 8) (by omega); omega)
         | (have h0 := hlt (x) (by omega); omega)
  try (exfalso; first | with_reducible exact absurd hc0 Bool.false_ne_true | with_reducible exact absurd hc0.symm Bool.false_ne_true | (simp only [nrm] at hc0; omega) | (simp at hc0; done))
  all_goals
   try simp only [nrm] at hc0
   refine wp_skip ?_
   refine then_n (hK2 _ _ ?_); clear hK2 K2
   refine wp_seq_k ?_; intro K18 hK18
   refine wp_seq_k ?_; intro K19 hK19
   refine wlit ?_
   refine wl_v (x_move (tmI rfl rfl)) ?_
   refine wl_v (x_geq (tmI rfl rfl) (ev_cN 65536)) ?_
   refine wl_nil ?_
   refine then_n (hK19 _ _ ?_); clear hK19 K19
   refine cnd (tm rfl) (fun hc1 => ?_) (fun hc1 => ?_)
   · try (exfalso; first | with_reducible exact absurd hc1 Bool.false_ne_true | with_reducible exact absurd hc1.symm Bool.false_ne_true | (simp only [nrm] at hc1; omega) | (simp at hc1; done))
     all_goals
      try simp only [nrm] at hc1
      refine wp_seq_k ?_; intro K20 hK20
      refine wlit ?_
      refine wl_v (x_move (tmI rfl rfl)) ?_
      refine wl_v (x_shrN (tmI rfl rfl) (ev_cN 16) (fit_u64 (by omega))) ?_
      refine wl_v (x_assign (tmI rfl rfl)) ?_
      refine wl_nil ?_
      refine then_n (hK20 _ _ ?_); clear hK20 K20
      refine wlit ?_
      refine wl_v (x_move (tmI rfl rfl)) ?_
      first
       | refine wl_v (x_addN (tmI rfl rfl) (ev_cN 16) (fit_i64 (by omega))) ?_
       | refine wl_v (x_addI (tmI rfl rfl) (ev_cN 16) (IntWalk.i64_in _ (by omega))) ?_
       | refine wl_v (x_add (tmI rfl rfl) (ev_cN 16)) ?_
      refine wl_v (x_assign (tmI rfl rfl)) ?_
      refine wl_nil ?_
      refine then_n (hK18 _ _ ?_); clear hK18 K18
      refine wp_seq_k ?_; intro K21 hK21
      refine wp_seq_k ?_; intro K22 hK22
      refine wlit ?_
      refine wl_v (x_move (tmI rfl rfl)) ?_
      refine wl_v (x_geq (tmI rfl rfl) (ev_cN 256)) ?_
      refine wl_nil ?_
      refine then_n (hK22 _ _ ?_); clear hK22 K22
      refine cnd (tm rfl) (fun hc2 => ?_) (fun hc2 => ?_)
      · try (exfalso; first | with_reducible exact absurd hc2 Bool.false_ne_true | with_reducible exact absurd hc2.symm Bool.false_ne_true | (simp only [nrm] at hc2; omega) | (simp at hc2; done))
        all_goals
         try simp only [nrm] at hc2
         refine wp_seq_k ?_; intro K23 hK23
         refine wlit ?_
         refine wl_v (x_move (tmI rfl rfl)) ?_
         refine wl_v (x_shrN (tmI rfl rfl) (ev_cN 8) (fit_u64 (by omega))) ?_
         refine wl_v (x_assign (tmI rfl rfl)) ?_
         refine wl_nil ?_
         refine then_n (hK23 _ _ ?_); clear hK23 K23
         refine wlit ?_
         refine wl_v (x_move (tmI rfl rfl)) ?_
         first
          | refine wl_v (x_addN (tmI rfl rfl) (ev_cN 8) (fit_i64 (by omega))) ?_
          | refine wl_v (x_addI (tmI rfl rfl) (ev_cN 8) (IntWalk.i64_in _ (by omega))) ?_
          | refine wl_v (x_add (tmI rfl rfl) (ev_cN 8)) ?_
         refine wl_v (x_assign (tmI rfl rfl)) ?_
         refine wl_nil ?_
         refine then_n (hK21 _ _ ?_); clear hK21 K21
         refine wp_seq_k ?_; intro K24 hK24
         refine wlit ?_
         refine wl_v (x_move (tmI rfl rfl)) ?_
         refine wl_v (x_move (tmI rfl rfl)) ?_
         first
          | refine wl_v (x_convN Try.underlying32 Try.underlying5 (tmI rfl rfl) (fit_u8 (by omega))) ?_
          | refine wl_v (x_convU Try.underlying32 Try.underlying5 (tmI rfl rfl) rfl) ?_
          | refine wl_v (x_conv Try.underlying32 Try.underlying5 (tmI rfl rfl)) ?_
         refine wl_v (x_indexS (by omega) Try.underlying9 (B := tab8) (by kernel_rfl) (tmI rfl rfl) (tab8_at (by omega))) ?_
         first
          | refine wl_v (x_convN Try.underlying5 Try.underlying3 (tmI rfl rfl) (fit_i64 (by omega))) ?_
          | refine wl_v (x_conv Try.underlying5 Try.underlying3 (tmI rfl rfl)) ?_
         first
          | refine wl_v (x_addN (tmI rfl rfl) (tmI rfl rfl) (fit_i64 (by omega))) ?_
          | refine wl_v (x_addI (tmI rfl rfl) (tmI rfl rfl) (IntWalk.i64_in _ (by omega))) ?_
          | refine wl_v (x_add (tmI rfl rfl) (tmI rfl rfl)) ?_
         refine wl_v (x_assign (tmI rfl rfl)) ?_
         refine wl_nil ?_
         refine then_n (hK24 _ _ ?_); clear hK24 K24
         refine wp_ret ?_
         refine ret1 rfl (.tmp rfl (show _ = Value.int _ _ from rfl)) ?_
         refine ⟨congrArg (fun q : Nat => Ending.returned (Value.int .i64 (q : Int))) ?_, hS.kp⟩
         first
           | (have h32 := hs (x) 32 (by omega); have h16 := hs (x / 2 ^ 32) 16 (by omega); have h8 := hs (x / 2 ^ 32 / 2 ^ 16) 8 (by omega); have h0 := hlt (x / 2 ^ 32 / 2 ^ 16 / 2 ^ 8) (by omega); omega)
           | (have h32 := hs (x) 32 (by omega); have h16 := hs (x / 2 ^ 32) 16 (by omega); have h0 := hlt (x / 2 ^ 32 / 2 ^ 16) (by omega); omega)
           | (have h32 := hs (x) 32 (by omega); have h8 := hs (x / 2 ^ 32) 8 (by omega); have h0 := hlt (x / 2 ^ 32 / 2 ^ 8) (by omega); omega)
           | (have h32 := hs (x) 32 (by omega); have h0 := hlt (x / 2 ^ 32) (by omega); omega)
           | (have h16 := hs (x) 16 (by omega); have h8 := hs (x / 2 ^ 16) 8 (by omega); have h0 := hlt (x / 2 ^ 16 / 2 ^ 8) (by omega); omega)
           | (have h16 := hs (x) 16 (by omega); have h0 := hlt (x / 2 ^ 16) (by omega); omega)
           | (have h8 := hs (x) 8 (by omega); have h0 := hlt (x / 2 ^ 8) (by omega); omega)
           | (have h0 := hlt (x) (by omega); omega)
      try (exfalso; first | with_reducible exact absurd hc2 Bool.false_ne_true | with_reducible exact absurd hc2.symm Bool.false_ne_true | (simp only [nrm] at hc2; omega) | (simp at hc2; done))
      all_goals
       try simp only [nrm] at hc2
       refine wp_skip ?_
       refine then_n (hK21 _ _ ?_); clear hK21 K21
       refine wp_seq_k ?_; intro K25 hK25
       refine wlit ?_
       refine wl_v (x_move (tmI rfl rfl)) ?_
       refine wl_v (x_move (tmI rfl rfl)) ?_
       first
        | refine wl_v (x_convN Try.underlying32 Try.underlying5 (tmI rfl rfl) (fit_u8 (by omega))) ?_
        | refine wl_v (x_convU Try.underlying32 Try.underlying5 (tmI rfl rfl) rfl) ?_
        | refine wl_v (x_conv Try.underlying32 Try.underlying5 (tmI rfl rfl)) ?_
       refine wl_v (x_indexS (by omega) Try.underlying9 (B := tab8) (by kernel_rfl) (tmI rfl rfl) (tab8_at (by omega))) ?_
       first
        | refine wl_v (x_convN Try.underlying5 Try.underlying3 (tmI rfl rfl) (fit_i64 (by omega))) ?_
        | refine wl_v (x_conv Try.underlying5 Try.underlying3 (tmI rfl rfl)) ?_
       first
        | refine wl_v (x_addN (tmI rfl rfl) (tmI rfl rfl) (fit_i64 (by omega))) ?_
        | refine wl_v (x_addI (tmI rfl rfl) (tmI rfl rfl) (IntWalk.i64_in _ (by omega))) ?_
        | refine wl_v (x_add (tmI rfl rfl) (tmI rfl rfl)) ?_
       refine wl_v (x_assign (tmI rfl rfl)) ?_
       refine wl_nil ?_
       refine then_n (hK25 _ _ ?_); clear hK25 K25
       refine wp_ret ?_
       refine ret1 rfl (.tmp rfl (show _ = Value.int _ _ from rfl)) ?_
       refine ⟨congrArg (fun q : Nat => Ending.returned (Value.int .i64 (q : Int))) ?_, hS.kp⟩
       first
         | (have h32 := hs (x) 32 (by omega); have h16 := hs (x / 2 ^ 32) 16 (by omega); have h8 := hs (x / 2 ^ 32 / 2 ^ 16) 8 (by omega); have h0 := hlt (x / 2 ^ 32 / 2 ^ 16 / 2 ^ 8) (by omega); omega)
         | (have h32 := hs (x) 32 (by omega); have h16 := hs (x / 2 ^ 32) 16 (by omega); have h0 := hlt (x / 2 ^ 32 / 2 ^ 16) (by omega); omega)
         | (have h32 := hs (x) 32 (by omega); have h8 := hs (x / 2 ^ 32) 8 (by omega); have h0 := hlt (x / 2 ^ 32 / 2 ^ 8) (by omega); omega)
         | (have h32 := hs (x) 32 (by omega); have h0 := hlt (x / 2 ^ 32) (by omega); omega)
         | (have h16 := hs (x) 16 (by omega); have h8 := hs (x / 2 ^ 16) 8 (by omega); have h0 := hlt (x / 2 ^ 16 / 2 ^ 8) (by omega); omega)
         | (have h16 := hs (x) 16 (by omega); have h0 := hlt (x / 2 ^ 16) (by omega); omega)
         | (have h8 := hs (x) 8 (by omega); have h0 := hlt (x / 2 ^ 8) (by omega); omega)
         | (have h0 := hlt (x) (by omega); omega)
   try (exfalso; first | with_reducible exact absurd hc1 Bool.false_ne_true | with_reducible exact absurd hc1.symm Bool.false_ne_true | (simp only [nrm] at hc1; omega) | (simp at hc1; done))
   all_goals
    try simp only [nrm] at hc1
    refine wp_skip ?_
    refine then_n (hK18 _ _ ?_); clear hK18 K18
    refine wp_seq_k ?_; intro K26 hK26
    refine wp_seq_k ?_; intro K27 hK27
    refine wlit ?_
    refine wl_v (x_move (tmI rfl rfl)) ?_
    refine wl_v (x_geq (tmI rfl rfl) (ev_cN 256)) ?_
    refine wl_nil ?_
    refine then_n (hK27 _ _ ?_); clear hK27 K27
    refine cnd (tm rfl) (fun hc2 => ?_) (fun hc2 => ?_)
    · try (exfalso; first | with_reducible exact absurd hc2 Bool.false_ne_true | with_reducible exact absurd hc2.symm Bool.false_ne_true | (simp only [nrm] at hc2; omega) | (simp at hc2; done))
      all_goals
       try simp only [nrm] at hc2
       refine wp_seq_k ?_; intro K28 hK28
       refine wlit ?_
       refine wl_v (x_move (tmI rfl rfl)) ?_
       refine wl_v (x_shrN (tmI rfl rfl) (ev_cN 8) (fit_u64 (by omega))) ?_
       refine wl_v (x_assign (tmI rfl rfl)) ?_
       refine wl_nil ?_
       refine then_n (hK28 _ _ ?_); clear hK28 K28
       refine wlit ?_
       refine wl_v (x_move (tmI rfl rfl)) ?_
       first
        | refine wl_v (x_addN (tmI rfl rfl) (ev_cN 8) (fit_i64 (by omega))) ?_
        | refine wl_v (x_addI (tmI rfl rfl) (ev_cN 8) (IntWalk.i64_in _ (by omega))) ?_
        | refine wl_v (x_add (tmI rfl rfl) (ev_cN 8)) ?_
       refine wl_v (x_assign (tmI rfl rfl)) ?_
       refine wl_nil ?_
       refine then_n (hK26 _ _ ?_); clear hK26 K26
       refine wp_seq_k ?_; intro K29 hK29
       refine wlit ?_
       refine wl_v (x_move (tmI rfl rfl)) ?_
       refine wl_v (x_move (tmI rfl rfl)) ?_
       first
        | refine wl_v (x_convN Try.underlying32 Try.underlying5 (tmI rfl rfl) (fit_u8 (by omega))) ?_
        | refine wl_v (x_convU Try.underlying32 Try.underlying5 (tmI rfl rfl) rfl) ?_
        | refine wl_v (x_conv Try.underlying32 Try.underlying5 (tmI rfl rfl)) ?_
       refine wl_v (x_indexS (by omega) Try.underlying9 (B := tab8) (by kernel_rfl) (tmI rfl rfl) (tab8_at (by omega))) ?_
       first
        | refine wl_v (x_convN Try.underlying5 Try.underlying3 (tmI rfl rfl) (fit_i64 (by omega))) ?_
        | refine wl_v (x_conv Try.underlying5 Try.underlying3 (tmI rfl rfl)) ?_
       first
        | refine wl_v (x_addN (tmI rfl rfl) (tmI rfl rfl) (fit_i64 (by omega))) ?_
        | refine wl_v (x_addI (tmI rfl rfl) (tmI rfl rfl) (IntWalk.i64_in _ (by omega))) ?_
        | refine wl_v (x_add (tmI rfl rfl) (tmI rfl rfl)) ?_
       refine wl_v (x_assign (tmI rfl rfl)) ?_
       refine wl_nil ?_
       refine then_n (hK29 _ _ ?_); clear hK29 K29
       refine wp_ret ?_
       refine ret1 rfl (.tmp rfl (show _ = Value.int _ _ from rfl)) ?_
       refine ⟨congrArg (fun q : Nat => Ending.returned (Value.int .i64 (q : Int))) ?_, hS.kp⟩
       first
         | (have h32 := hs (x) 32 (by omega); have h16 := hs (x / 2 ^ 32) 16 (by omega); have h8 := hs (x / 2 ^ 32 / 2 ^ 16) 8 (by omega); have h0 := hlt (x / 2 ^ 32 / 2 ^ 16 / 2 ^ 8) (by omega); omega)
         | (have h32 := hs (x) 32 (by omega); have h16 := hs (x / 2 ^ 32) 16 (by omega); have h0 := hlt (x / 2 ^ 32 / 2 ^ 16) (by omega); omega)
         | (have h32 := hs (x) 32 (by omega); have h8 := hs (x / 2 ^ 32) 8 (by omega); have h0 := hlt (x / 2 ^ 32 / 2 ^ 8) (by omega); omega)
         | (have h32 := hs (x) 32 (by omega); have h0 := hlt (x / 2 ^ 32) (by omega); omega)
         | (have h16 := hs (x) 16 (by omega); have h8 := hs (x / 2 ^ 16) 8 (by omega); have h0 := hlt (x / 2 ^ 16 / 2 ^ 8) (by omega); omega)
         | (have h16 := hs (x) 16 (by omega); have h0 := hlt (x / 2 ^ 16) (by omega); omega)
         | (have h8 := hs (x) 8 (by omega); have h0 := hlt (x / 2 ^ 8) (by omega); omega)
         | (have h0 := hlt (x) (by omega); omega)
    try (exfalso; first | with_reducible exact absurd hc2 Bool.false_ne_true | with_reducible exact absurd hc2.symm Bool.false_ne_true | (simp only [nrm] at hc2; omega) | (simp at hc2; done))
    all_goals
     try simp only [nrm] at hc2
     refine wp_skip ?_
     refine then_n (hK26 _ _ ?_); clear hK26 K26
     refine wp_seq_k ?_; intro K30 hK30
     refine wlit ?_
     refine wl_v (x_move (tmI rfl rfl)) ?_
     refine wl_v (x_move (tmI rfl rfl)) ?_
     first
      | refine wl_v (x_convN Try.underlying32 Try.underlying5 (tmI rfl rfl) (fit_u8 (by omega))) ?_
      | refine wl_v (x_convU Try.underlying32 Try.underlying5 (tmI rfl rfl) rfl) ?_
      | refine wl_v (x_conv Try.underlying32 Try.underlying5 (tmI rfl rfl)) ?_
     refine wl_v (x_indexS (by omega) Try.underlying9 (B := tab8) (by kernel_rfl) (tmI rfl rfl) (tab8_at (by omega))) ?_
     first
      | refine wl_v (x_convN Try.underlying5 Try.underlying3 (tmI rfl rfl) (fit_i64 (by omega))) ?_
      | refine wl_v (x_conv Try.underlying5 Try.underlying3 (tmI rfl rfl)) ?_
     first
      | refine wl_v (x_addN (tmI rfl rfl) (tmI rfl rfl) (fit_i64 (by omega))) ?_
      | refine wl_v (x_addI (tmI rfl rfl) (tmI rfl rfl) (IntWalk.i64_in _ (by omega))) ?_
      | refine wl_v (x_add (tmI rfl rfl) (tmI rfl rfl)) ?_
     refine wl_v (x_assign (tmI rfl rfl)) ?_
     refine wl_nil ?_
     refine then_n (hK30 _ _ ?_); clear hK30 K30
     refine wp_ret ?_
     refine ret1 rfl (.tmp rfl (show _ = Value.int _ _ from rfl)) ?_
     refine ⟨congrArg (fun q : Nat => Ending.returned (Value.int .i64 (q : Int))) ?_, hS.kp⟩
     first
       | (have h32 := hs (x) 32 (by omega); have h16 := hs (x / 2 ^ 32) 16 (by omega); have h8 := hs (x / 2 ^ 32 / 2 ^ 16) 8 (by omega); have h0 := hlt (x / 2 ^ 32 / 2 ^ 16 / 2 ^ 8) (by omega); omega)
       | (have h32 := hs (x) 32 (by omega); have h16 := hs (x / 2 ^ 32) 16 (by omega); have h0 := hlt (x / 2 ^ 32 / 2 ^ 16) (by omega); omega)
       | (have h32 := hs (x) 32 (by omega); have h8 := hs (x / 2 ^ 32) 8 (by omega); have h0 := hlt (x / 2 ^ 32 / 2 ^ 8) (by omega); omega)
       | (have h32 := hs (x) 32 (by omega); have h0 := hlt (x / 2 ^ 32) (by omega); omega)
       | (have h16 := hs (x) 16 (by omega); have h8 := hs (x / 2 ^ 16) 8 (by omega); have h0 := hlt (x / 2 ^ 16 / 2 ^ 8) (by omega); omega)
       | (have h16 := hs (x) 16 (by omega); have h0 := hlt (x / 2 ^ 16) (by omega); omega)
       | (have h8 := hs (x) 8 (by omega); have h0 := hlt (x / 2 ^ 8) (by omega); omega)
       | (have h0 := hlt (x) (by omega); omega)
end HistC
end Go.Proofs.Ytgfmjgfeiokcdaa
