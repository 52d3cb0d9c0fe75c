/- ip6: Right, Bytes and the references', by contract. Conditions: none but bounds. -/
import Derived.Test.YtmekadkmmddocaaDoorAd
import Derived.Test.YtmekadkmmddocaaDoorSet
namespace Go.Proofs.YtmekadkmmddocaaDoor
open Go.RowKit

def hd6V (cl lb : Nat) (len : Int) (nx hp : Nat) (s d : Ad) : List Value :=
  [.int .u8 (cl : Int), .int .u32 (lb : Int), .int .i64 len, .int .u8 (nx : Int), .int .u8 (hp : Int), .bool s.six, .int .u64 (s.high : Int), .int .u64 (s.low : Int), .bool d.six, .int .u64 (d.high : Int), .int .u64 (d.low : Int)]
def hd6Right (lb : Nat) (len : Int) (s d : Ad) : Prop := lb ≤ 1048575 ∧ 0 ≤ len ∧ len ≤ 65535 ∧ s.six = true ∧ d.six = true
instance (lb : Nat) (len : Int) (s d : Ad) : Decidable (hd6Right lb len s d) := by unfold hd6Right; exact inferInstance
set_option maxRecDepth 100000 in
set_option maxHeartbeats 4000000 in
theorem ip6_right_c (cl lb : Nat) (len : Int) (nx hp : Nat) (s d : Ad) (w0 : World) :
    Calls Tryd.prog 59 #[.agg (hd6V cl lb len nx hp s d).toArray] w0 fun e w' => e = .returned (.bool (decide (hd6Right lb len s d))) ∧ Kp [] w0 w' := by
  have hS := St.sv w0
  refine ent (n := 26) Tryd.func59 rfl rfl ?_
  refine wp_seq_k ?_; intro K1 hK1
  refine wlit ?_
  refine wl_e rfl ?_; intro K hK
  refine ow_box hS (tmA rfl rfl) rfl ?_
  clear hS; intro g0_0 w hg0_0 hS
  refine hK _ _ ?_; clear hK K
  refine wl_v (x_assign ev_c) ?_
  refine wl_nil ?_
  refine then_n (hK1 _ _ ?_); clear hK1 K1
  refine wp_seq_k ?_; intro K2 hK2
  refine wlit ?_
  refine wl_v (x_fa 1 Tryd.underlying82 rfl rfl ts_30 (tmP rfl rfl)) ?_
  first
   | refine wl_v (x_load Tryd.underlying30 rfl (tmP rfl rfl) (cellB hS.ok 0 rfl rfl)) ?_
   | refine wl_v (x_load Tryd.underlying30 rfl (tmP rfl rfl) (cellB hS.ok 0 rfl (getm (by omega)))) ?_
  refine wl_v (x_leq (tmI rfl rfl) (ev_cN 1048575)) ?_
  refine wl_v (x_move (tmB rfl rfl)) ?_
  refine gs_wl (tm (t := 6) rfl) (fun hg1_3 => ?_) (fun hg1_3 => ?_)
  · have hg1_3' := hg1_3; (try simp only [nrm] at hg1_3'); try (exfalso; first | with_reducible exact absurd hg1_3 Bool.false_ne_true | with_reducible exact absurd hg1_3.symm Bool.false_ne_true | omega | (simp at hg1_3; done))
    all_goals
     refine wl_gv (want_y rfl rfl rfl rfl (by rw [hg1_3]; rfl)) (x_fa 2 Tryd.underlying82 rfl rfl ts_3 (tmP rfl rfl)) ?_
     first
      | refine wl_gv (want_y rfl rfl rfl rfl (by rw [hg1_3]; rfl)) (x_load Tryd.underlying3 rfl (tmP rfl rfl) (cellB hS.ok 0 rfl rfl)) ?_
      | refine wl_gv (want_y rfl rfl rfl rfl (by rw [hg1_3]; rfl)) (x_load Tryd.underlying3 rfl (tmP rfl rfl) (cellB hS.ok 0 rfl (getm (by omega)))) ?_
     refine wl_gv (want_y rfl rfl rfl rfl (by rw [hg1_3]; rfl)) (x_geq (tmI rfl rfl) (ev_cN 0)) ?_
     refine wl_v (x_pickT (tmB rfl rfl) hg1_3 (tmB rfl rfl)) ?_
     refine wl_v (x_move (tmB rfl rfl)) ?_
     refine gs_wl (tm (t := 11) rfl) (fun hg1_8 => ?_) (fun hg1_8 => ?_)
     · have hg1_8' := hg1_8; (try simp only [nrm] at hg1_8'); try (exfalso; first | with_reducible exact absurd hg1_8 Bool.false_ne_true | with_reducible exact absurd hg1_8.symm Bool.false_ne_true | omega | (simp at hg1_8; done))
       all_goals
        refine wl_gv (want_y rfl rfl rfl rfl (by rw [hg1_8]; rfl)) (x_fa 2 Tryd.underlying82 rfl rfl ts_3 (tmP rfl rfl)) ?_
        first
         | refine wl_gv (want_y rfl rfl rfl rfl (by rw [hg1_8]; rfl)) (x_load Tryd.underlying3 rfl (tmP rfl rfl) (cellB hS.ok 0 rfl rfl)) ?_
         | refine wl_gv (want_y rfl rfl rfl rfl (by rw [hg1_8]; rfl)) (x_load Tryd.underlying3 rfl (tmP rfl rfl) (cellB hS.ok 0 rfl (getm (by omega)))) ?_
        refine wl_gv (want_y rfl rfl rfl rfl (by rw [hg1_8]; rfl)) (x_leq (tmI rfl rfl) (ev_cN 65535)) ?_
        refine wl_v (x_pickT (tmB rfl rfl) hg1_8 (tmB rfl rfl)) ?_
        refine wl_v (x_move (tmB rfl rfl)) ?_
        refine gs_wl (tm (t := 16) rfl) (fun hg1_13 => ?_) (fun hg1_13 => ?_)
        · have hg1_13' := hg1_13; (try simp only [nrm] at hg1_13'); try (exfalso; first | with_reducible exact absurd hg1_13 Bool.false_ne_true | with_reducible exact absurd hg1_13.symm Bool.false_ne_true | omega | (simp at hg1_13; done))
          all_goals
           refine wl_gv (want_y rfl rfl rfl rfl (by rw [hg1_13]; rfl)) (x_fa 5 Tryd.underlying82 rfl rfl ts_26 (tmP rfl rfl)) ?_
           refine wl_gv (want_y rfl rfl rfl rfl (by rw [hg1_13]; rfl)) (x_fa 0 Tryd.underlying26 rfl rfl ts_4 (tmP rfl rfl)) ?_
           first
            | refine wl_gv (want_y rfl rfl rfl rfl (by rw [hg1_13]; rfl)) (x_load Tryd.underlying4 rfl (tmP rfl rfl) (cellB hS.ok 0 rfl rfl)) ?_
            | refine wl_gv (want_y rfl rfl rfl rfl (by rw [hg1_13]; rfl)) (x_load Tryd.underlying4 rfl (tmP rfl rfl) (cellB hS.ok 0 rfl (getm (by omega)))) ?_
           refine wl_v (x_pickT (tmB rfl rfl) hg1_13 (tmB rfl rfl)) ?_
           refine wl_v (x_move (tmB rfl rfl)) ?_
           refine gs_wl (tm (t := 21) rfl) (fun hg1_18 => ?_) (fun hg1_18 => ?_)
           · have hg1_18' := hg1_18; (try simp only [nrm] at hg1_18'); try (exfalso; first | with_reducible exact absurd hg1_18 Bool.false_ne_true | with_reducible exact absurd hg1_18.symm Bool.false_ne_true | omega | (simp at hg1_18; done))
             all_goals
              refine wl_gv (want_y rfl rfl rfl rfl (by rw [hg1_18]; rfl)) (x_fa 8 Tryd.underlying82 rfl rfl ts_26 (tmP rfl rfl)) ?_
              refine wl_gv (want_y rfl rfl rfl rfl (by rw [hg1_18]; rfl)) (x_fa 0 Tryd.underlying26 rfl rfl ts_4 (tmP rfl rfl)) ?_
              first
               | refine wl_gv (want_y rfl rfl rfl rfl (by rw [hg1_18]; rfl)) (x_load Tryd.underlying4 rfl (tmP rfl rfl) (cellB hS.ok 0 rfl rfl)) ?_
               | refine wl_gv (want_y rfl rfl rfl rfl (by rw [hg1_18]; rfl)) (x_load Tryd.underlying4 rfl (tmP rfl rfl) (cellB hS.ok 0 rfl (getm (by omega)))) ?_
              refine wl_v (x_pickT (tmB rfl rfl) hg1_18 (tmB rfl rfl)) ?_
              refine wl_v (x_assign (tmB rfl rfl)) ?_
              refine wl_nil ?_
              refine then_n (hK2 _ _ ?_); clear hK2 K2
              refine wp_ret ?_
              refine ret1 rfl (.tmp rfl (show _ = Value.bool _ from rfl)) ?_
              refine ⟨ret_bool ?_, hS.kp⟩
              clear hS
              unfold hd6Right
              first
                | (symm; apply decide_eq_false; rintro ⟨h1, h2, h3, h4, h5⟩; first | omega | exact absurd h4 (by simpa using hg1_18))
                | exact Bool.eq_iff_iff.2 ⟨fun h => decide_eq_true ⟨by omega, by omega, by omega, by simpa using hg1_18, h⟩, fun h => (of_decide_eq_true h).2.2.2.2⟩
           have hg1_18' := hg1_18; (try simp only [nrm] at hg1_18'); try (exfalso; first | with_reducible exact absurd hg1_18 Bool.false_ne_true | with_reducible exact absurd hg1_18.symm Bool.false_ne_true | omega | (simp at hg1_18; done))
           all_goals
            refine wl_s rfl (want_n rfl rfl rfl rfl (by rw [hg1_18]; rfl)) ?_
            refine wl_s rfl (want_n rfl rfl rfl rfl (by rw [hg1_18]; rfl)) ?_
            refine wl_s rfl (want_n rfl rfl rfl rfl (by rw [hg1_18]; rfl)) ?_
            refine wl_v (x_pickF (tmB rfl rfl) hg1_18 ev_c) ?_
            refine wl_v (x_assign (tmB rfl rfl)) ?_
            refine wl_nil ?_
            refine then_n (hK2 _ _ ?_); clear hK2 K2
            refine wp_ret ?_
            refine ret1 rfl (.tmp rfl (show _ = Value.bool _ from rfl)) ?_
            refine ⟨ret_bool ?_, hS.kp⟩
            clear hS
            unfold hd6Right
            first
              | (symm; apply decide_eq_false; rintro ⟨h1, h2, h3, h4, h5⟩; first | omega | exact absurd h4 (by simpa using hg1_18))
              | exact Bool.eq_iff_iff.2 ⟨fun h => decide_eq_true ⟨by omega, by omega, by omega, by simpa using hg1_18, h⟩, fun h => (of_decide_eq_true h).2.2.2.2⟩
        have hg1_13' := hg1_13; (try simp only [nrm] at hg1_13'); try (exfalso; first | with_reducible exact absurd hg1_13 Bool.false_ne_true | with_reducible exact absurd hg1_13.symm Bool.false_ne_true | omega | (simp at hg1_13; done))
        all_goals
         refine wl_s rfl (want_n rfl rfl rfl rfl (by rw [hg1_13]; rfl)) ?_
         refine wl_s rfl (want_n rfl rfl rfl rfl (by rw [hg1_13]; rfl)) ?_
         refine wl_s rfl (want_n rfl rfl rfl rfl (by rw [hg1_13]; rfl)) ?_
         refine wl_v (x_pickF (tmB rfl rfl) hg1_13 ev_c) ?_
         refine wl_v (x_move (tmB rfl rfl)) ?_
         refine wl_s rfl (want_n rfl rfl rfl rfl rfl) ?_
         refine wl_s rfl (want_n rfl rfl rfl rfl rfl) ?_
         refine wl_s rfl (want_n rfl rfl rfl rfl rfl) ?_
         refine wl_v (x_pickF (tmB rfl rfl) rfl ev_c) ?_
         refine wl_v (x_assign (tmB rfl rfl)) ?_
         refine wl_nil ?_
         refine then_n (hK2 _ _ ?_); clear hK2 K2
         refine wp_ret ?_
         refine ret1 rfl (.tmp rfl (show _ = Value.bool _ from rfl)) ?_
         refine ⟨ret_bool ?_, hS.kp⟩
         clear hS
         unfold hd6Right
         first
           | (symm; apply decide_eq_false; rintro ⟨h1, h2, h3, h4, h5⟩; first | omega | exact absurd h4 (by simpa using hg1_18))
           | exact Bool.eq_iff_iff.2 ⟨fun h => decide_eq_true ⟨by omega, by omega, by omega, by simpa using hg1_18, h⟩, fun h => (of_decide_eq_true h).2.2.2.2⟩
     have hg1_8' := hg1_8; (try simp only [nrm] at hg1_8'); try (exfalso; first | with_reducible exact absurd hg1_8 Bool.false_ne_true | with_reducible exact absurd hg1_8.symm Bool.false_ne_true | omega | (simp at hg1_8; done))
     all_goals
      refine wl_s rfl (want_n rfl rfl rfl rfl (by rw [hg1_8]; rfl)) ?_
      refine wl_s rfl (want_n rfl rfl rfl rfl (by rw [hg1_8]; rfl)) ?_
      refine wl_s rfl (want_n rfl rfl rfl rfl (by rw [hg1_8]; rfl)) ?_
      refine wl_v (x_pickF (tmB rfl rfl) hg1_8 ev_c) ?_
      refine wl_v (x_move (tmB rfl rfl)) ?_
      refine wl_s rfl (want_n rfl rfl rfl rfl rfl) ?_
      refine wl_s rfl (want_n rfl rfl rfl rfl rfl) ?_
      refine wl_s rfl (want_n rfl rfl rfl rfl rfl) ?_
      refine wl_v (x_pickF (tmB rfl rfl) rfl ev_c) ?_
      refine wl_v (x_move (tmB rfl rfl)) ?_
      refine wl_s rfl (want_n rfl rfl rfl rfl rfl) ?_
      refine wl_s rfl (want_n rfl rfl rfl rfl rfl) ?_
      refine wl_s rfl (want_n rfl rfl rfl rfl rfl) ?_
      refine wl_v (x_pickF (tmB rfl rfl) rfl ev_c) ?_
      refine wl_v (x_assign (tmB rfl rfl)) ?_
      refine wl_nil ?_
      refine then_n (hK2 _ _ ?_); clear hK2 K2
      refine wp_ret ?_
      refine ret1 rfl (.tmp rfl (show _ = Value.bool _ from rfl)) ?_
      refine ⟨ret_bool ?_, hS.kp⟩
      clear hS
      unfold hd6Right
      first
        | (symm; apply decide_eq_false; rintro ⟨h1, h2, h3, h4, h5⟩; first | omega | exact absurd h4 (by simpa using hg1_18))
        | exact Bool.eq_iff_iff.2 ⟨fun h => decide_eq_true ⟨by omega, by omega, by omega, by simpa using hg1_18, h⟩, fun h => (of_decide_eq_true h).2.2.2.2⟩
  have hg1_3' := hg1_3; (try simp only [nrm] at hg1_3'); try (exfalso; first | with_reducible exact absurd hg1_3 Bool.false_ne_true | with_reducible exact absurd hg1_3.symm Bool.false_ne_true | omega | (simp at hg1_3; done))
  all_goals
   refine wl_s rfl (want_n rfl rfl rfl rfl (by rw [hg1_3]; rfl)) ?_
   refine wl_s rfl (want_n rfl rfl rfl rfl (by rw [hg1_3]; rfl)) ?_
   refine wl_s rfl (want_n rfl rfl rfl rfl (by rw [hg1_3]; rfl)) ?_
   refine wl_v (x_pickF (tmB rfl rfl) hg1_3 ev_c) ?_
   refine wl_v (x_move (tmB rfl rfl)) ?_
   refine wl_s rfl (want_n rfl rfl rfl rfl rfl) ?_
   refine wl_s rfl (want_n rfl rfl rfl rfl rfl) ?_
   refine wl_s rfl (want_n rfl rfl rfl rfl rfl) ?_
   refine wl_v (x_pickF (tmB rfl rfl) rfl ev_c) ?_
   refine wl_v (x_move (tmB rfl rfl)) ?_
   refine wl_s rfl (want_n rfl rfl rfl rfl rfl) ?_
   refine wl_s rfl (want_n rfl rfl rfl rfl rfl) ?_
   refine wl_s rfl (want_n rfl rfl rfl rfl rfl) ?_
   refine wl_v (x_pickF (tmB rfl rfl) rfl ev_c) ?_
   refine wl_v (x_move (tmB rfl rfl)) ?_
   refine wl_s rfl (want_n rfl rfl rfl rfl rfl) ?_
   refine wl_s rfl (want_n rfl rfl rfl rfl rfl) ?_
   refine wl_s rfl (want_n rfl rfl rfl rfl rfl) ?_
   refine wl_v (x_pickF (tmB rfl rfl) rfl ev_c) ?_
   refine wl_v (x_assign (tmB rfl rfl)) ?_
   refine wl_nil ?_
   refine then_n (hK2 _ _ ?_); clear hK2 K2
   refine wp_ret ?_
   refine ret1 rfl (.tmp rfl (show _ = Value.bool _ from rfl)) ?_
   refine ⟨ret_bool ?_, hS.kp⟩
   clear hS
   unfold hd6Right
   first
     | (symm; apply decide_eq_false; rintro ⟨h1, h2, h3, h4, h5⟩; first | omega | exact absurd h4 (by simpa using hg1_18))
     | exact Bool.eq_iff_iff.2 ⟨fun h => decide_eq_true ⟨by omega, by omega, by omega, by simpa using hg1_18, h⟩, fun h => (of_decide_eq_true h).2.2.2.2⟩
set_option maxRecDepth 100000 in
set_option maxHeartbeats 4000000 in
theorem rip6_right_c (cl lb : Nat) (len : Int) (nx hp : Nat) (s d : Ad) (w0 : World) :
    Calls Tryd.prog 68 #[.agg (hd6V cl lb len nx hp s d).toArray] w0 fun e w' => e = .returned (.bool (decide (hd6Right lb len s d))) ∧ Kp [] w0 w' := by
  have hS := St.sv w0
  refine ent (n := 26) Tryd.func68 rfl rfl ?_
  refine wp_seq_k ?_; intro K1 hK1
  refine wlit ?_
  refine wl_e rfl ?_; intro K hK
  refine ow_box hS (tmA rfl rfl) rfl ?_
  clear hS; intro g0_0 w hg0_0 hS
  refine hK _ _ ?_; clear hK K
  refine wl_v (x_assign ev_c) ?_
  refine wl_nil ?_
  refine then_n (hK1 _ _ ?_); clear hK1 K1
  refine wp_seq_k ?_; intro K2 hK2
  refine wlit ?_
  refine wl_v (x_fa 1 Tryd.underlying95 rfl rfl ts_30 (tmP rfl rfl)) ?_
  first
   | refine wl_v (x_load Tryd.underlying30 rfl (tmP rfl rfl) (cellB hS.ok 0 rfl rfl)) ?_
   | refine wl_v (x_load Tryd.underlying30 rfl (tmP rfl rfl) (cellB hS.ok 0 rfl (getm (by omega)))) ?_
  refine wl_v (x_lss (tmI rfl rfl) (ev_cN 1048576)) ?_
  refine wl_v (x_move (tmB rfl rfl)) ?_
  refine gs_wl (tm (t := 6) rfl) (fun hg1_3 => ?_) (fun hg1_3 => ?_)
  · have hg1_3' := hg1_3; (try simp only [nrm] at hg1_3'); try (exfalso; first | with_reducible exact absurd hg1_3 Bool.false_ne_true | with_reducible exact absurd hg1_3.symm Bool.false_ne_true | omega | (simp at hg1_3; done))
    all_goals
     refine wl_gv (want_y rfl rfl rfl rfl (by rw [hg1_3]; rfl)) (x_fa 2 Tryd.underlying95 rfl rfl ts_3 (tmP rfl rfl)) ?_
     first
      | refine wl_gv (want_y rfl rfl rfl rfl (by rw [hg1_3]; rfl)) (x_load Tryd.underlying3 rfl (tmP rfl rfl) (cellB hS.ok 0 rfl rfl)) ?_
      | refine wl_gv (want_y rfl rfl rfl rfl (by rw [hg1_3]; rfl)) (x_load Tryd.underlying3 rfl (tmP rfl rfl) (cellB hS.ok 0 rfl (getm (by omega)))) ?_
     refine wl_gv (want_y rfl rfl rfl rfl (by rw [hg1_3]; rfl)) (x_geq (tmI rfl rfl) (ev_cN 0)) ?_
     refine wl_v (x_pickT (tmB rfl rfl) hg1_3 (tmB rfl rfl)) ?_
     refine wl_v (x_move (tmB rfl rfl)) ?_
     refine gs_wl (tm (t := 11) rfl) (fun hg1_8 => ?_) (fun hg1_8 => ?_)
     · have hg1_8' := hg1_8; (try simp only [nrm] at hg1_8'); try (exfalso; first | with_reducible exact absurd hg1_8 Bool.false_ne_true | with_reducible exact absurd hg1_8.symm Bool.false_ne_true | omega | (simp at hg1_8; done))
       all_goals
        refine wl_gv (want_y rfl rfl rfl rfl (by rw [hg1_8]; rfl)) (x_fa 2 Tryd.underlying95 rfl rfl ts_3 (tmP rfl rfl)) ?_
        first
         | refine wl_gv (want_y rfl rfl rfl rfl (by rw [hg1_8]; rfl)) (x_load Tryd.underlying3 rfl (tmP rfl rfl) (cellB hS.ok 0 rfl rfl)) ?_
         | refine wl_gv (want_y rfl rfl rfl rfl (by rw [hg1_8]; rfl)) (x_load Tryd.underlying3 rfl (tmP rfl rfl) (cellB hS.ok 0 rfl (getm (by omega)))) ?_
        refine wl_gv (want_y rfl rfl rfl rfl (by rw [hg1_8]; rfl)) (x_lss (tmI rfl rfl) (ev_cN 65536)) ?_
        refine wl_v (x_pickT (tmB rfl rfl) hg1_8 (tmB rfl rfl)) ?_
        refine wl_v (x_move (tmB rfl rfl)) ?_
        refine gs_wl (tm (t := 16) rfl) (fun hg1_13 => ?_) (fun hg1_13 => ?_)
        · have hg1_13' := hg1_13; (try simp only [nrm] at hg1_13'); try (exfalso; first | with_reducible exact absurd hg1_13 Bool.false_ne_true | with_reducible exact absurd hg1_13.symm Bool.false_ne_true | omega | (simp at hg1_13; done))
          all_goals
           refine wl_gv (want_y rfl rfl rfl rfl (by rw [hg1_13]; rfl)) (x_fa 5 Tryd.underlying95 rfl rfl ts_26 (tmP rfl rfl)) ?_
           refine wl_gv (want_y rfl rfl rfl rfl (by rw [hg1_13]; rfl)) (x_fa 0 Tryd.underlying26 rfl rfl ts_4 (tmP rfl rfl)) ?_
           first
            | refine wl_gv (want_y rfl rfl rfl rfl (by rw [hg1_13]; rfl)) (x_load Tryd.underlying4 rfl (tmP rfl rfl) (cellB hS.ok 0 rfl rfl)) ?_
            | refine wl_gv (want_y rfl rfl rfl rfl (by rw [hg1_13]; rfl)) (x_load Tryd.underlying4 rfl (tmP rfl rfl) (cellB hS.ok 0 rfl (getm (by omega)))) ?_
           refine wl_v (x_pickT (tmB rfl rfl) hg1_13 (tmB rfl rfl)) ?_
           refine wl_v (x_move (tmB rfl rfl)) ?_
           refine gs_wl (tm (t := 21) rfl) (fun hg1_18 => ?_) (fun hg1_18 => ?_)
           · have hg1_18' := hg1_18; (try simp only [nrm] at hg1_18'); try (exfalso; first | with_reducible exact absurd hg1_18 Bool.false_ne_true | with_reducible exact absurd hg1_18.symm Bool.false_ne_true | omega | (simp at hg1_18; done))
             all_goals
              refine wl_gv (want_y rfl rfl rfl rfl (by rw [hg1_18]; rfl)) (x_fa 8 Tryd.underlying95 rfl rfl ts_26 (tmP rfl rfl)) ?_
              refine wl_gv (want_y rfl rfl rfl rfl (by rw [hg1_18]; rfl)) (x_fa 0 Tryd.underlying26 rfl rfl ts_4 (tmP rfl rfl)) ?_
              first
               | refine wl_gv (want_y rfl rfl rfl rfl (by rw [hg1_18]; rfl)) (x_load Tryd.underlying4 rfl (tmP rfl rfl) (cellB hS.ok 0 rfl rfl)) ?_
               | refine wl_gv (want_y rfl rfl rfl rfl (by rw [hg1_18]; rfl)) (x_load Tryd.underlying4 rfl (tmP rfl rfl) (cellB hS.ok 0 rfl (getm (by omega)))) ?_
              refine wl_v (x_pickT (tmB rfl rfl) hg1_18 (tmB rfl rfl)) ?_
              refine wl_v (x_assign (tmB rfl rfl)) ?_
              refine wl_nil ?_
              refine then_n (hK2 _ _ ?_); clear hK2 K2
              refine wp_ret ?_
              refine ret1 rfl (.tmp rfl (show _ = Value.bool _ from rfl)) ?_
              refine ⟨ret_bool ?_, hS.kp⟩
              clear hS
              unfold hd6Right
              first
                | (symm; apply decide_eq_false; rintro ⟨h1, h2, h3, h4, h5⟩; first | omega | exact absurd h4 (by simpa using hg1_18))
                | exact Bool.eq_iff_iff.2 ⟨fun h => decide_eq_true ⟨by omega, by omega, by omega, by simpa using hg1_18, h⟩, fun h => (of_decide_eq_true h).2.2.2.2⟩
           have hg1_18' := hg1_18; (try simp only [nrm] at hg1_18'); try (exfalso; first | with_reducible exact absurd hg1_18 Bool.false_ne_true | with_reducible exact absurd hg1_18.symm Bool.false_ne_true | omega | (simp at hg1_18; done))
           all_goals
            refine wl_s rfl (want_n rfl rfl rfl rfl (by rw [hg1_18]; rfl)) ?_
            refine wl_s rfl (want_n rfl rfl rfl rfl (by rw [hg1_18]; rfl)) ?_
            refine wl_s rfl (want_n rfl rfl rfl rfl (by rw [hg1_18]; rfl)) ?_
            refine wl_v (x_pickF (tmB rfl rfl) hg1_18 ev_c) ?_
            refine wl_v (x_assign (tmB rfl rfl)) ?_
            refine wl_nil ?_
            refine then_n (hK2 _ _ ?_); clear hK2 K2
            refine wp_ret ?_
            refine ret1 rfl (.tmp rfl (show _ = Value.bool _ from rfl)) ?_
            refine ⟨ret_bool ?_, hS.kp⟩
            clear hS
            unfold hd6Right
            first
              | (symm; apply decide_eq_false; rintro ⟨h1, h2, h3, h4, h5⟩; first | omega | exact absurd h4 (by simpa using hg1_18))
              | exact Bool.eq_iff_iff.2 ⟨fun h => decide_eq_true ⟨by omega, by omega, by omega, by simpa using hg1_18, h⟩, fun h => (of_decide_eq_true h).2.2.2.2⟩
        have hg1_13' := hg1_13; (try simp only [nrm] at hg1_13'); try (exfalso; first | with_reducible exact absurd hg1_13 Bool.false_ne_true | with_reducible exact absurd hg1_13.symm Bool.false_ne_true | omega | (simp at hg1_13; done))
        all_goals
         refine wl_s rfl (want_n rfl rfl rfl rfl (by rw [hg1_13]; rfl)) ?_
         refine wl_s rfl (want_n rfl rfl rfl rfl (by rw [hg1_13]; rfl)) ?_
         refine wl_s rfl (want_n rfl rfl rfl rfl (by rw [hg1_13]; rfl)) ?_
         refine wl_v (x_pickF (tmB rfl rfl) hg1_13 ev_c) ?_
         refine wl_v (x_move (tmB rfl rfl)) ?_
         refine wl_s rfl (want_n rfl rfl rfl rfl rfl) ?_
         refine wl_s rfl (want_n rfl rfl rfl rfl rfl) ?_
         refine wl_s rfl (want_n rfl rfl rfl rfl rfl) ?_
         refine wl_v (x_pickF (tmB rfl rfl) rfl ev_c) ?_
         refine wl_v (x_assign (tmB rfl rfl)) ?_
         refine wl_nil ?_
         refine then_n (hK2 _ _ ?_); clear hK2 K2
         refine wp_ret ?_
         refine ret1 rfl (.tmp rfl (show _ = Value.bool _ from rfl)) ?_
         refine ⟨ret_bool ?_, hS.kp⟩
         clear hS
         unfold hd6Right
         first
           | (symm; apply decide_eq_false; rintro ⟨h1, h2, h3, h4, h5⟩; first | omega | exact absurd h4 (by simpa using hg1_18))
           | exact Bool.eq_iff_iff.2 ⟨fun h => decide_eq_true ⟨by omega, by omega, by omega, by simpa using hg1_18, h⟩, fun h => (of_decide_eq_true h).2.2.2.2⟩
     have hg1_8' := hg1_8; (try simp only [nrm] at hg1_8'); try (exfalso; first | with_reducible exact absurd hg1_8 Bool.false_ne_true | with_reducible exact absurd hg1_8.symm Bool.false_ne_true | omega | (simp at hg1_8; done))
     all_goals
      refine wl_s rfl (want_n rfl rfl rfl rfl (by rw [hg1_8]; rfl)) ?_
      refine wl_s rfl (want_n rfl rfl rfl rfl (by rw [hg1_8]; rfl)) ?_
      refine wl_s rfl (want_n rfl rfl rfl rfl (by rw [hg1_8]; rfl)) ?_
      refine wl_v (x_pickF (tmB rfl rfl) hg1_8 ev_c) ?_
      refine wl_v (x_move (tmB rfl rfl)) ?_
      refine wl_s rfl (want_n rfl rfl rfl rfl rfl) ?_
      refine wl_s rfl (want_n rfl rfl rfl rfl rfl) ?_
      refine wl_s rfl (want_n rfl rfl rfl rfl rfl) ?_
      refine wl_v (x_pickF (tmB rfl rfl) rfl ev_c) ?_
      refine wl_v (x_move (tmB rfl rfl)) ?_
      refine wl_s rfl (want_n rfl rfl rfl rfl rfl) ?_
      refine wl_s rfl (want_n rfl rfl rfl rfl rfl) ?_
      refine wl_s rfl (want_n rfl rfl rfl rfl rfl) ?_
      refine wl_v (x_pickF (tmB rfl rfl) rfl ev_c) ?_
      refine wl_v (x_assign (tmB rfl rfl)) ?_
      refine wl_nil ?_
      refine then_n (hK2 _ _ ?_); clear hK2 K2
      refine wp_ret ?_
      refine ret1 rfl (.tmp rfl (show _ = Value.bool _ from rfl)) ?_
      refine ⟨ret_bool ?_, hS.kp⟩
      clear hS
      unfold hd6Right
      first
        | (symm; apply decide_eq_false; rintro ⟨h1, h2, h3, h4, h5⟩; first | omega | exact absurd h4 (by simpa using hg1_18))
        | exact Bool.eq_iff_iff.2 ⟨fun h => decide_eq_true ⟨by omega, by omega, by omega, by simpa using hg1_18, h⟩, fun h => (of_decide_eq_true h).2.2.2.2⟩
  have hg1_3' := hg1_3; (try simp only [nrm] at hg1_3'); try (exfalso; first | with_reducible exact absurd hg1_3 Bool.false_ne_true | with_reducible exact absurd hg1_3.symm Bool.false_ne_true | omega | (simp at hg1_3; done))
  all_goals
   refine wl_s rfl (want_n rfl rfl rfl rfl (by rw [hg1_3]; rfl)) ?_
   refine wl_s rfl (want_n rfl rfl rfl rfl (by rw [hg1_3]; rfl)) ?_
   refine wl_s rfl (want_n rfl rfl rfl rfl (by rw [hg1_3]; rfl)) ?_
   refine wl_v (x_pickF (tmB rfl rfl) hg1_3 ev_c) ?_
   refine wl_v (x_move (tmB rfl rfl)) ?_
   refine wl_s rfl (want_n rfl rfl rfl rfl rfl) ?_
   refine wl_s rfl (want_n rfl rfl rfl rfl rfl) ?_
   refine wl_s rfl (want_n rfl rfl rfl rfl rfl) ?_
   refine wl_v (x_pickF (tmB rfl rfl) rfl ev_c) ?_
   refine wl_v (x_move (tmB rfl rfl)) ?_
   refine wl_s rfl (want_n rfl rfl rfl rfl rfl) ?_
   refine wl_s rfl (want_n rfl rfl rfl rfl rfl) ?_
   refine wl_s rfl (want_n rfl rfl rfl rfl rfl) ?_
   refine wl_v (x_pickF (tmB rfl rfl) rfl ev_c) ?_
   refine wl_v (x_move (tmB rfl rfl)) ?_
   refine wl_s rfl (want_n rfl rfl rfl rfl rfl) ?_
   refine wl_s rfl (want_n rfl rfl rfl rfl rfl) ?_
   refine wl_s rfl (want_n rfl rfl rfl rfl rfl) ?_
   refine wl_v (x_pickF (tmB rfl rfl) rfl ev_c) ?_
   refine wl_v (x_assign (tmB rfl rfl)) ?_
   refine wl_nil ?_
   refine then_n (hK2 _ _ ?_); clear hK2 K2
   refine wp_ret ?_
   refine ret1 rfl (.tmp rfl (show _ = Value.bool _ from rfl)) ?_
   refine ⟨ret_bool ?_, hS.kp⟩
   clear hS
   unfold hd6Right
   first
     | (symm; apply decide_eq_false; rintro ⟨h1, h2, h3, h4, h5⟩; first | omega | exact absurd h4 (by simpa using hg1_18))
     | exact Bool.eq_iff_iff.2 ⟨fun h => decide_eq_true ⟨by omega, by omega, by omega, by simpa using hg1_18, h⟩, fun h => (of_decide_eq_true h).2.2.2.2⟩

def hd6F (cl lb : Nat) : Nat := 1610612736 + cl * 1048576 + lb
def hd6B (cl lb len nx hp : Nat) (s d : Ad) : List Nat := [] ++ be (hd6F cl lb) 4 ++ be len 2 ++ be nx 1 ++ be hp 1 ++ adB s ++ adB d
theorem adN_six {a : Ad} (h : a.six = true) : adN a = 16 := by unfold adN; rw [h]; rfl
theorem hd6B_len {cl lb len nx hp : Nat} {s d : Ad} (hs : s.six = true) (hd : d.six = true) : (hd6B cl lb len nx hp s d).length = 40 := by
  simp [hd6B, be_length, adB_len, adN_six hs, adN_six hd]
theorem hd6B_bytes (cl lb len nx hp : Nat) (s d : Ad) : Bytes (hd6B cl lb len nx hp s d) := by
  unfold hd6B
  repeat' (first | exact Bytes.nil | exact be_bytes _ _ | exact adB_bytes _ | apply Bytes.append)
theorem hd6F_or {cl lb : Nat} (h1 : cl < 256) (h2 : lb ≤ 1048575) : (1610612736 ||| cl * 2 ^ 20) ||| lb = hd6F cl lb := by
  have e1 : 2 ^ 28 * 6 + cl * 2 ^ 20 = 2 ^ 28 * 6 ||| cl * 2 ^ 20 := Nat.two_pow_add_eq_or_of_lt (i := 28) (b := cl * 2 ^ 20) (by omega) 6
  have e2 : 2 ^ 20 * (1536 + cl) + lb = 2 ^ 20 * (1536 + cl) ||| lb := Nat.two_pow_add_eq_or_of_lt (i := 20) (b := lb) (by omega) (1536 + cl)
  have e3 : 1610612736 ||| cl * 2 ^ 20 = 2 ^ 20 * (1536 + cl) := by
    rw [show (1610612736 : Nat) = 2 ^ 28 * 6 by omega, ← e1]; omega
  rw [e3, ← e2]; unfold hd6F; omega
theorem hd6E_or {cl : Nat} (h1 : cl < 256) : 1610612736 ||| cl * 2 ^ 20 = 1610612736 + cl * 1048576 := by
  have h := hd6F_or (lb := 0) h1 (by omega)
  unfold hd6F at h
  rw [Nat.or_zero] at h
  omega
theorem be4 (n : Nat) : be n 4 = [n / 16777216 % 256, n / 65536 % 256, n / 256 % 256, n % 256] := by simp [be, List.range, List.range.loop]
theorem be2 (n : Nat) : be n 2 = [n / 256 % 256, n % 256] := by simp [be, List.range, List.range.loop]
theorem hd6F_be {cl lb : Nat} (h1 : cl < 256) (h2 : lb ≤ 1048575) : be (hd6F cl lb) 4 = [96 + cl / 16, cl % 16 * 16 + lb / 65536] ++ be lb 2 := by
  rw [be4, be2]
  unfold hd6F
  simp only [List.cons_append, List.nil_append, List.cons.injEq, and_true]
  refine ⟨by omega, by omega, by omega, by omega⟩

set_option maxRecDepth 100000 in
set_option maxHeartbeats 8000000 in
theorem ip6_bytes_c (cl lb len nx hp : Nat) (s d : Ad) (w0 : World) (q1 : cl < 256) (q4 : nx < 256) (q5 : hp < 256) (hls : adLim s) (hld : adLim d) (hr : hd6Right lb (len : Int) s d) :
    Calls Tryd.prog 60 #[.agg (hd6V cl lb (len : Int) nx hp s d).toArray] w0 fun e w' => ∃ A' n c', n = 40 ∧ e = .returned (.slice A' n c') ∧ New w0 w' (.row (.slice A' n c') 5 1 n ((hd6B cl lb len nx hp s d).map u8v)) ∧ Kp [] w0 w' := by
  have hS := St.sv w0
  have hr' := hr
  obtain ⟨r1, r2, r3, r4, r5⟩ := hr'
  have hns := adN_six r4
  have hnd := adN_six r5
  have hsl : (adB s).length = 16 := by rw [adB_len, hns]
  have hdl : (adB d).length = 16 := by rw [adB_len, hnd]
  have hF := hd6F_or q1 r1
  have hE := hd6E_or q1
  have hFb : hd6F cl lb ≤ 4294967295 := by unfold hd6F; omega
  refine ent (n := 42) Tryd.func60 rfl rfl ?_
  refine wp_seq_k ?_; intro K1 hK1
  refine wlit ?_
  refine wl_e rfl ?_; intro K hK
  refine ow_box hS (tmA rfl rfl) rfl ?_
  clear hS; intro g0_0 w hg0_0 hS
  refine hK _ _ ?_; clear hK K
  refine wl_v (x_assign ev_c) ?_
  refine wl_nil ?_
  refine then_n (hK1 _ _ ?_); clear hK1 K1
  refine wp_seq_k ?_; intro K2 hK2
  refine wp_seq_k ?_; intro K3 hK3
  refine wlit ?_
  refine wl_v (x_loadA (cs := [_, _, _, _, _, _, _, _, _, _, _]) Tryd.underlying82 rfl ts_82 (tmP rfl rfl) (rangeB hS.ok 0 rfl rfl)) ?_
  refine wl_e rfl ?_; intro K hK
  refine ow_call Tryd.func59 rfl rfl (evs_cons (tmA rfl rfl) <| evs_nil) (ip6_right_c _ _ _ _ _ _ _ _) ?_
  rintro e w ⟨rfl, hk⟩
  refine ⟨_, rfl, ?_⟩
  replace hS := hS.kept hk
  clear hk
  refine hK _ _ ?_; clear hK K
  refine wl_v (x_not (tmB rfl rfl)) ?_
  refine wl_nil ?_
  refine then_n (hK3 _ _ ?_); clear hK3 K3
  refine cnd (tm rfl) (fun hc0 => ?_) (fun hc0 => ?_)
  · exfalso
    simp at hc0
    exact hc0 hr
  try (exfalso; first | with_reducible exact absurd hc0 Bool.false_ne_true | with_reducible exact absurd hc0.symm Bool.false_ne_true | (simp only [nrm] at hc0; omega) | (simp at hc0; done))
  all_goals
   try simp only [nrm] at hc0
   refine wp_skip ?_
   refine then_n (hK2 _ _ ?_); clear hK2 K2
   refine wp_seq_k ?_; intro K4 hK4
   refine wlit ?_
   refine wl_v (x_fa 0 Tryd.underlying82 rfl rfl ts_5 (tmP rfl rfl)) ?_
   first
    | refine wl_v (x_load Tryd.underlying5 rfl (tmP rfl rfl) (cellB hS.ok 0 rfl rfl)) ?_
    | refine wl_v (x_load Tryd.underlying5 rfl (tmP rfl rfl) (cellB hS.ok 0 rfl (getm (by omega)))) ?_
   first
    | refine wl_v (x_convN Tryd.underlying5 Tryd.underlying24 (tmI rfl rfl) (fit_u64 (by omega))) ?_
    | refine wl_v (x_convU Tryd.underlying5 Tryd.underlying24 (tmI rfl rfl) rfl) ?_
    | refine wl_v (x_conv Tryd.underlying5 Tryd.underlying24 (tmI rfl rfl)) ?_
   first
    | refine wl_v (x_shlN (tmI rfl rfl) (ev_cN 20) (by decide) (fit_u64 (by omega))) ?_
    | refine wl_v (x_shlN (tmI rfl rfl) (ev_cN 20) (by have : IntKind.bits .u64 = 64 := rfl; omega) (fit_u64 (by omega))) ?_
    | refine wl_v (x_shlU (tmI rfl rfl) (ev_cN 20) rfl) ?_
   refine wl_v (x_orN (ev_cN 1610612736) (tmI rfl rfl) (fit_u64 (by omega)) (fit_u64 (by omega))) ?_
   refine wl_v (x_fa 1 Tryd.underlying82 rfl rfl ts_30 (tmP rfl rfl)) ?_
   first
    | refine wl_v (x_load Tryd.underlying30 rfl (tmP rfl rfl) (cellB hS.ok 0 rfl rfl)) ?_
    | refine wl_v (x_load Tryd.underlying30 rfl (tmP rfl rfl) (cellB hS.ok 0 rfl (getm (by omega)))) ?_
   first
    | refine wl_v (x_convN Tryd.underlying30 Tryd.underlying24 (tmI rfl rfl) (fit_u64 (by omega))) ?_
    | refine wl_v (x_convU Tryd.underlying30 Tryd.underlying24 (tmI rfl rfl) rfl) ?_
    | refine wl_v (x_conv Tryd.underlying30 Tryd.underlying24 (tmI rfl rfl)) ?_
   refine wl_v (x_orN (tmI rfl rfl) (tmI rfl rfl) (fit_u64 (by omega)) (fit_u64 (by omega))) ?_
   refine wl_e rfl ?_; intro K hK
   refine ow_call Tryd.func61 rfl rfl (evs_cons ev_c <| evs_cons (tmI rfl rfl) <| evs_cons (ev_cN 4) <| evs_nil) (put_c 0 none 0 [] _ 4 _ View.nil_ rfl (by omega) (by omega) (by omega)) ?_
   rintro e w ⟨g1, rfl, hn, hk⟩
   refine ⟨_, rfl, ?_⟩
   rw [hF] at hn
   replace hS := hS.add hk hn -- +rowb
   clear hn hk
   refine hK _ _ ?_; clear hK K
   refine wl_v (x_assign (tmS rfl rfl)) ?_
   refine wl_nil ?_
   refine then_n (hK4 _ _ ?_); clear hK4 K4
   refine wp_seq_k ?_; intro K5 hK5
   refine wlit ?_
   refine wl_v (x_move (tmS rfl rfl)) ?_
   refine wl_v (x_fa 2 Tryd.underlying82 rfl rfl ts_3 (tmP rfl rfl)) ?_
   first
    | refine wl_v (x_load Tryd.underlying3 rfl (tmP rfl rfl) (cellB hS.ok 1 rfl rfl)) ?_
    | refine wl_v (x_load Tryd.underlying3 rfl (tmP rfl rfl) (cellB hS.ok 1 rfl (getm (by omega)))) ?_
   first
    | refine wl_v (x_convN Tryd.underlying3 Tryd.underlying24 (tmI rfl rfl) (fit_u64 (by omega))) ?_
    | refine wl_v (x_convU Tryd.underlying3 Tryd.underlying24 (tmI rfl rfl) rfl) ?_
    | refine wl_v (x_conv Tryd.underlying3 Tryd.underlying24 (tmI rfl rfl)) ?_
   refine wl_e rfl ?_; intro K hK
   refine ow_call Tryd.func61 rfl rfl (evs_cons (tmS rfl rfl) <| evs_cons (tmI rfl rfl) <| evs_cons (ev_cN 2) <| evs_nil) (put_c _ _ _ _ _ _ _ (viewR hS.ok 0 rfl) (by simp [be_length]) (by omega) (by omega) (by omega)) ?_
   rintro e w ⟨g2, rfl, hn, hk⟩
   refine ⟨_, rfl, ?_⟩
   replace hS := (hS.add hk hn).pick [0, 2] rfl rfl --ents rowb,g0_0
   clear hn hk
   try replace hS := St.nm (M' := [.row _ _ _ _ _, .blk _ _ [_, _, _, _, _, _, _, _, _, _, _]]) hS rfl
   refine hK _ _ ?_; clear hK K
   refine wl_v (x_assign (tmS rfl rfl)) ?_
   refine wl_nil ?_
   refine then_n (hK5 _ _ ?_); clear hK5 K5
   refine wp_seq_k ?_; intro K6 hK6
   refine wlit ?_
   refine wl_v (x_move (tmS rfl rfl)) ?_
   refine wl_v (x_fa 3 Tryd.underlying82 rfl rfl ts_5 (tmP rfl rfl)) ?_
   first
    | refine wl_v (x_load Tryd.underlying5 rfl (tmP rfl rfl) (cellB hS.ok 1 rfl rfl)) ?_
    | refine wl_v (x_load Tryd.underlying5 rfl (tmP rfl rfl) (cellB hS.ok 1 rfl (getm (by omega)))) ?_
   first
    | refine wl_v (x_convN Tryd.underlying5 Tryd.underlying24 (tmI rfl rfl) (fit_u64 (by omega))) ?_
    | refine wl_v (x_convU Tryd.underlying5 Tryd.underlying24 (tmI rfl rfl) rfl) ?_
    | refine wl_v (x_conv Tryd.underlying5 Tryd.underlying24 (tmI rfl rfl)) ?_
   refine wl_e rfl ?_; intro K hK
   refine ow_call Tryd.func61 rfl rfl (evs_cons (tmS rfl rfl) <| evs_cons (tmI rfl rfl) <| evs_cons (ev_cN 1) <| evs_nil) (put_c _ _ _ _ _ _ _ (viewR hS.ok 0 rfl) (by simp [be_length]) (by omega) (by omega) (by omega)) ?_
   rintro e w ⟨g2, rfl, hn, hk⟩
   refine ⟨_, rfl, ?_⟩
   replace hS := (hS.add hk hn).pick [0, 2] rfl rfl --ents rowb,g0_0
   clear hn hk
   try replace hS := St.nm (M' := [.row _ _ _ _ _, .blk _ _ [_, _, _, _, _, _, _, _, _, _, _]]) hS rfl
   refine hK _ _ ?_; clear hK K
   refine wl_v (x_assign (tmS rfl rfl)) ?_
   refine wl_nil ?_
   refine then_n (hK6 _ _ ?_); clear hK6 K6
   refine wp_seq_k ?_; intro K7 hK7
   refine wlit ?_
   refine wl_v (x_move (tmS rfl rfl)) ?_
   refine wl_v (x_fa 4 Tryd.underlying82 rfl rfl ts_5 (tmP rfl rfl)) ?_
   first
    | refine wl_v (x_load Tryd.underlying5 rfl (tmP rfl rfl) (cellB hS.ok 1 rfl rfl)) ?_
    | refine wl_v (x_load Tryd.underlying5 rfl (tmP rfl rfl) (cellB hS.ok 1 rfl (getm (by omega)))) ?_
   first
    | refine wl_v (x_convN Tryd.underlying5 Tryd.underlying24 (tmI rfl rfl) (fit_u64 (by omega))) ?_
    | refine wl_v (x_convU Tryd.underlying5 Tryd.underlying24 (tmI rfl rfl) rfl) ?_
    | refine wl_v (x_conv Tryd.underlying5 Tryd.underlying24 (tmI rfl rfl)) ?_
   refine wl_e rfl ?_; intro K hK
   refine ow_call Tryd.func61 rfl rfl (evs_cons (tmS rfl rfl) <| evs_cons (tmI rfl rfl) <| evs_cons (ev_cN 1) <| evs_nil) (put_c _ _ _ _ _ _ _ (viewR hS.ok 0 rfl) (by simp [be_length]) (by omega) (by omega) (by omega)) ?_
   rintro e w ⟨g2, rfl, hn, hk⟩
   refine ⟨_, rfl, ?_⟩
   replace hS := (hS.add hk hn).pick [0, 2] rfl rfl --ents rowb,g0_0
   clear hn hk
   try replace hS := St.nm (M' := [.row _ _ _ _ _, .blk _ _ [_, _, _, _, _, _, _, _, _, _, _]]) hS rfl
   refine hK _ _ ?_; clear hK K
   refine wl_v (x_assign (tmS rfl rfl)) ?_
   refine wl_nil ?_
   refine then_n (hK7 _ _ ?_); clear hK7 K7
   refine wp_seq_k ?_; intro K8 hK8
   refine wlit ?_
   refine wl_v (x_move (tmS rfl rfl)) ?_
   refine wl_v (x_fa 5 Tryd.underlying82 rfl rfl ts_26 (tmP rfl rfl)) ?_
   refine wl_v (x_loadA (cs := [_, _, _]) Tryd.underlying26 rfl ts_26 (tmP rfl rfl) (rangeB hS.ok 1 rfl rfl)) ?_
   refine wl_e rfl ?_; intro K hK
   refine ow_call Tryd.func83 rfl rfl (evs_cons (tmA rfl rfl) <| evs_nil) (ad_bytes_c _ _ hls) ?_
   rintro e w ⟨A', n', c', hn', rfl, hn, hk⟩
   refine ⟨_, rfl, ?_⟩
   obtain rfl : n' = 16 := hn'.trans hns
   replace hS := ((hS.add hk hn).freeze 0 rfl).pick [1, 0, 2] rfl rfl --ents rowb,va,g0_0
   clear hn hk
   try replace hS := St.nm (M' := [.row _ _ _ _ _, .vw _ _, .blk _ _ [_, _, _, _, _, _, _, _, _, _, _]]) hS rfl
   refine hK _ _ ?_; clear hK K
   refine wl_e rfl ?_; intro K hK
   first
    | (refine ow_append hS 0 1 rfl rfl Tryd.underlying22 tz_5 rfl (tmS rfl rfl) (tmS rfl rfl) rfl ⟨by decide, by decide, rfl⟩ (by simp only [maxLen]; omega) (by omega) ?_; clear hS; intro g7_4 cg7_4 w hS)
    | (refine ow_append hS 0 2 rfl rfl Tryd.underlying22 tz_5 rfl (tmS rfl rfl) (tmS rfl rfl) rfl ⟨by decide, by decide, rfl⟩ (by simp only [maxLen]; omega) (by omega) ?_; clear hS; intro g7_4 cg7_4 w hS)
    | (refine ow_appendV hS 0 rfl (viewR hS.ok 0 rfl) Tryd.underlying22 tz_5 rfl (tmS rfl rfl) (tmS rfl rfl) (by first | exact u8v_one _ | (intro u hu; simp at hu; first | (rcases hu with rfl | rfl <;> rfl) | (obtain ⟨_, _, rfl⟩ := hu; rfl))) ⟨by decide, by first | rfl | (simp; done) | (simp; omega)⟩ (by simp only [maxLen]; omega) (by omega) ?_; clear hS; intro g7_4 cg7_4 w hAg7_4 hCg7_4 hS)
    | (refine ow_appendV hS 0 rfl (viewV hS.ok 1 rfl) Tryd.underlying22 tz_5 rfl (tmS rfl rfl) (tmS rfl rfl) (by first | exact u8v_one _ | (intro u hu; simp at hu; first | (rcases hu with rfl | rfl <;> rfl) | (obtain ⟨_, _, rfl⟩ := hu; rfl))) ⟨by decide, by first | rfl | (simp; done) | (simp; omega)⟩ (by simp only [maxLen]; omega) (by omega) ?_; clear hS; intro g7_4 cg7_4 w hAg7_4 hCg7_4 hS)
    | (refine ow_appendV hS 0 rfl View.nil_ Tryd.underlying22 tz_5 rfl (tmS rfl rfl) (tmS rfl rfl) (by first | exact u8v_one _ | (intro u hu; simp at hu; first | (rcases hu with rfl | rfl <;> rfl) | (obtain ⟨_, _, rfl⟩ := hu; rfl))) ⟨by decide, by first | rfl | (simp; done) | (simp; omega)⟩ (by simp only [maxLen]; omega) (by omega) ?_; clear hS; intro g7_4 cg7_4 w hAg7_4 hCg7_4 hS)
   refine hK _ _ ?_; clear hK K
   refine wl_v (x_assign (tmS rfl rfl)) ?_
   refine wl_nil ?_
   rw [← List.map_append] at hS
   replace hS := hS.pick [0, 2] rfl rfl
   try replace hS := St.nm (M' := [.row _ _ _ _ _, .blk _ _ [_, _, _, _, _, _, _, _, _, _, _]]) hS rfl
   refine then_n (hK8 _ _ ?_); clear hK8 K8
   refine wp_seq_k ?_; intro K9 hK9
   refine wlit ?_
   refine wl_v (x_move (tmS rfl rfl)) ?_
   refine wl_v (x_fa 8 Tryd.underlying82 rfl rfl ts_26 (tmP rfl rfl)) ?_
   refine wl_v (x_loadA (cs := [_, _, _]) Tryd.underlying26 rfl ts_26 (tmP rfl rfl) (rangeB hS.ok 1 rfl rfl)) ?_
   refine wl_e rfl ?_; intro K hK
   refine ow_call Tryd.func83 rfl rfl (evs_cons (tmA rfl rfl) <| evs_nil) (ad_bytes_c _ _ hld) ?_
   rintro e w ⟨A', n', c', hn', rfl, hn, hk⟩
   refine ⟨_, rfl, ?_⟩
   obtain rfl : n' = 16 := hn'.trans hnd
   replace hS := ((hS.add hk hn).freeze 0 rfl).pick [1, 0, 2] rfl rfl --ents rowb,va,g0_0
   clear hn hk
   try replace hS := St.nm (M' := [.row _ _ _ _ _, .vw _ _, .blk _ _ [_, _, _, _, _, _, _, _, _, _, _]]) hS rfl
   refine hK _ _ ?_; clear hK K
   refine wl_e rfl ?_; intro K hK
   first
    | (refine ow_append hS 0 1 rfl rfl Tryd.underlying22 tz_5 rfl (tmS rfl rfl) (tmS rfl rfl) rfl ⟨by decide, by decide, rfl⟩ (by simp only [maxLen]; omega) (by omega) ?_; clear hS; intro g8_4 cg8_4 w hS)
    | (refine ow_append hS 0 2 rfl rfl Tryd.underlying22 tz_5 rfl (tmS rfl rfl) (tmS rfl rfl) rfl ⟨by decide, by decide, rfl⟩ (by simp only [maxLen]; omega) (by omega) ?_; clear hS; intro g8_4 cg8_4 w hS)
    | (refine ow_appendV hS 0 rfl (viewR hS.ok 0 rfl) Tryd.underlying22 tz_5 rfl (tmS rfl rfl) (tmS rfl rfl) (by first | exact u8v_one _ | (intro u hu; simp at hu; first | (rcases hu with rfl | rfl <;> rfl) | (obtain ⟨_, _, rfl⟩ := hu; rfl))) ⟨by decide, by first | rfl | (simp; done) | (simp; omega)⟩ (by simp only [maxLen]; omega) (by omega) ?_; clear hS; intro g8_4 cg8_4 w hAg8_4 hCg8_4 hS)
    | (refine ow_appendV hS 0 rfl (viewV hS.ok 1 rfl) Tryd.underlying22 tz_5 rfl (tmS rfl rfl) (tmS rfl rfl) (by first | exact u8v_one _ | (intro u hu; simp at hu; first | (rcases hu with rfl | rfl <;> rfl) | (obtain ⟨_, _, rfl⟩ := hu; rfl))) ⟨by decide, by first | rfl | (simp; done) | (simp; omega)⟩ (by simp only [maxLen]; omega) (by omega) ?_; clear hS; intro g8_4 cg8_4 w hAg8_4 hCg8_4 hS)
    | (refine ow_appendV hS 0 rfl View.nil_ Tryd.underlying22 tz_5 rfl (tmS rfl rfl) (tmS rfl rfl) (by first | exact u8v_one _ | (intro u hu; simp at hu; first | (rcases hu with rfl | rfl <;> rfl) | (obtain ⟨_, _, rfl⟩ := hu; rfl))) ⟨by decide, by first | rfl | (simp; done) | (simp; omega)⟩ (by simp only [maxLen]; omega) (by omega) ?_; clear hS; intro g8_4 cg8_4 w hAg8_4 hCg8_4 hS)
   refine hK _ _ ?_; clear hK K
   refine wl_v (x_assign (tmS rfl rfl)) ?_
   refine wl_nil ?_
   rw [← List.map_append] at hS
   refine then_n (hK9 _ _ ?_); clear hK9 K9
   refine wp_ret ?_
   refine ret1 rfl (.tmp rfl (show _ = Value.slice _ _ _ from rfl)) ?_
   exact ⟨_, _, _, by omega, rfl, hS.new 0 rfl rfl, hS.kp⟩

set_option maxRecDepth 100000 in
set_option maxHeartbeats 8000000 in
theorem rip6_bytes_c (cl lb len nx hp : Nat) (s d : Ad) (w0 : World) (q1 : cl < 256) (q4 : nx < 256) (q5 : hp < 256) (hls : adLim s) (hld : adLim d) (hr : hd6Right lb (len : Int) s d) :
    Calls Tryd.prog 69 #[.agg (hd6V cl lb (len : Int) nx hp s d).toArray] w0 fun e w' => ∃ A' n c', n = 40 ∧ e = .returned (.slice A' n c') ∧ New w0 w' (.row (.slice A' n c') 5 1 n ((hd6B cl lb len nx hp s d).map u8v)) ∧ Kp [] w0 w' := by
  have hS := St.sv w0
  have hr' := hr
  obtain ⟨r1, r2, r3, r4, r5⟩ := hr'
  have hns := adN_six r4
  have hnd := adN_six r5
  have hsl : (adB s).length = 16 := by rw [adB_len, hns]
  have hdl : (adB d).length = 16 := by rw [adB_len, hnd]
  have hlen := hd6B_len (cl := cl) (lb := lb) (len := len) (nx := nx) (hp := hp) r4 r5
  have hjo : ∀ (G1 G2 G3 G4 G5 G6 : Option Addr) (j1 j2 j3 j4 j5 j6 : Nat), joined [(G1, [96 + cl / 16, cl % 16 * 16 + lb / 65536], j1), (G2, be lb 2, j2), (G3, be len 2, j3), (G4, [nx, hp], j4), (G5, adB s, j5), (G6, adB d, j6)] = hd6B cl lb len nx hp s d := by
    intro G1 G2 G3 G4 G5 G6 j1 j2 j3 j4 j5 j6
    have e1 : be nx 1 = [nx] := by rw [be_one]; congr 1; omega
    have e2 : be hp 1 = [hp] := by rw [be_one]; congr 1; omega
    simp only [joined, hd6B, hd6F_be q1 r1, e1, e2, List.map_cons, List.map_nil, List.flatten_cons, List.flatten_nil, List.append_nil, List.nil_append, List.append_assoc, List.cons_append]
  refine ent (n := 44) Tryd.func69 rfl rfl ?_
  refine wp_seq_k ?_; intro K1 hK1
  refine wlit ?_
  refine wl_e rfl ?_; intro K hK
  refine ow_box hS (tmA rfl rfl) rfl ?_
  clear hS; intro g0_0 w hg0_0 hS
  refine hK _ _ ?_; clear hK K
  refine wl_v (x_assign ev_c) ?_
  refine wl_nil ?_
  refine then_n (hK1 _ _ ?_); clear hK1 K1
  refine wp_seq_k ?_; intro K2 hK2
  refine wlit ?_
  refine wl_v (x_fa 0 Tryd.underlying95 rfl rfl ts_5 (tmP rfl rfl)) ?_
  first
   | refine wl_v (x_load Tryd.underlying5 rfl (tmP rfl rfl) (cellB hS.ok 0 rfl rfl)) ?_
   | refine wl_v (x_load Tryd.underlying5 rfl (tmP rfl rfl) (cellB hS.ok 0 rfl (getm (by omega)))) ?_
  first
   | refine wl_v (x_convN Tryd.underlying5 Tryd.underlying3 (tmI rfl rfl) (fit_i64 (by omega))) ?_
   | refine wl_v (x_conv Tryd.underlying5 Tryd.underlying3 (tmI rfl rfl)) ?_
  first
   | refine wl_v (x_quoN (tmI rfl rfl) (ev_cN 16) (by omega) (fit_i64 (by omega))) ?_
   | refine wl_v (x_quo (tmI rfl rfl) (ev_cN 16) (by omega)) ?_
  first
   | refine wl_v (x_addN (ev_cN 96) (tmI rfl rfl) (fit_i64 (by omega))) ?_
   | refine wl_v (x_addI (ev_cN 96) (tmI rfl rfl) (IntWalk.i64_in _ (by omega))) ?_
   | refine wl_v (x_add (ev_cN 96) (tmI rfl rfl)) ?_
  first
   | refine wl_v (x_convN Tryd.underlying3 Tryd.underlying5 (tmI rfl rfl) (fit_u8 (by omega))) ?_
   | refine wl_v (x_convU Tryd.underlying3 Tryd.underlying5 (tmI rfl rfl) rfl) ?_
   | refine wl_v (x_conv Tryd.underlying3 Tryd.underlying5 (tmI rfl rfl)) ?_
  refine wl_v (x_fa 0 Tryd.underlying95 rfl rfl ts_5 (tmP rfl rfl)) ?_
  first
   | refine wl_v (x_load Tryd.underlying5 rfl (tmP rfl rfl) (cellB hS.ok 0 rfl rfl)) ?_
   | refine wl_v (x_load Tryd.underlying5 rfl (tmP rfl rfl) (cellB hS.ok 0 rfl (getm (by omega)))) ?_
  first
   | refine wl_v (x_convN Tryd.underlying5 Tryd.underlying3 (tmI rfl rfl) (fit_i64 (by omega))) ?_
   | refine wl_v (x_conv Tryd.underlying5 Tryd.underlying3 (tmI rfl rfl)) ?_
  first
   | refine wl_v (x_remN (tmI rfl rfl) (ev_cN 16) (by omega)) ?_
   | refine wl_v (x_rem (tmI rfl rfl) (ev_cN 16) (by omega)) ?_
  first
   | refine wl_v (x_mulN (tmI rfl rfl) (ev_cN 16) (fit_i64 (by omega))) ?_
   | refine wl_v (x_mulI (tmI rfl rfl) (ev_cN 16) (IntWalk.i64_in _ (by omega))) ?_
   | refine wl_v (x_mul (tmI rfl rfl) (ev_cN 16)) ?_
  refine wl_v (x_fa 1 Tryd.underlying95 rfl rfl ts_30 (tmP rfl rfl)) ?_
  first
   | refine wl_v (x_load Tryd.underlying30 rfl (tmP rfl rfl) (cellB hS.ok 0 rfl rfl)) ?_
   | refine wl_v (x_load Tryd.underlying30 rfl (tmP rfl rfl) (cellB hS.ok 0 rfl (getm (by omega)))) ?_
  first
   | refine wl_v (x_convN Tryd.underlying30 Tryd.underlying3 (tmI rfl rfl) (fit_i64 (by omega))) ?_
   | refine wl_v (x_conv Tryd.underlying30 Tryd.underlying3 (tmI rfl rfl)) ?_
  first
   | refine wl_v (x_quoN (tmI rfl rfl) (ev_cN 65536) (by omega) (fit_i64 (by omega))) ?_
   | refine wl_v (x_quo (tmI rfl rfl) (ev_cN 65536) (by omega)) ?_
  first
   | refine wl_v (x_addN (tmI rfl rfl) (tmI rfl rfl) (fit_i64 (by omega))) ?_
   | refine wl_v (x_addI (tmI rfl rfl) (tmI rfl rfl) (IntWalk.i64_in _ (by omega))) ?_
   | refine wl_v (x_add (tmI rfl rfl) (tmI rfl rfl)) ?_
  first
   | refine wl_v (x_convN Tryd.underlying3 Tryd.underlying5 (tmI rfl rfl) (fit_u8 (by omega))) ?_
   | refine wl_v (x_convU Tryd.underlying3 Tryd.underlying5 (tmI rfl rfl) rfl) ?_
   | refine wl_v (x_conv Tryd.underlying3 Tryd.underlying5 (tmI rfl rfl)) ?_
  refine wl_e rfl ?_; intro K hK
  refine ow_build hS Tryd.underlying22 tz_5 (bc_take (tmI rfl rfl) <| bc_take (tmI rfl rfl) <| bc_nil) rfl rfl (by kernel_rfl) ?_
  clear hS; intro g1_17 w hg1_17 hS
  refine hK _ _ ?_; clear hK K
  refine wl_v (x_assign (tmS rfl rfl)) ?_
  refine wl_nil ?_
  refine then_n (hK2 _ _ ?_); clear hK2 K2
  refine wp_seq_k ?_; intro K3 hK3
  refine rg_startk 0 hS mixed_ ?_
  clear hS; intro w hS
  refine rg_take 0 rfl rfl (by kernel_rfl) (by kernel_rfl) (by kernel_rfl) (want_0) (fun w hok => x_move (tmS rfl rfl)) ?_
  refine rg_take 1 rfl rfl (by kernel_rfl) (by kernel_rfl) (by kernel_rfl) (want_0) (fun w hok => x_fa 1 Tryd.underlying95 rfl rfl ts_30 (tmP rfl rfl)) ?_
  first
   | refine rg_take 2 rfl rfl (by kernel_rfl) (by kernel_rfl) (by kernel_rfl) (want_0) (fun w hok => x_load Tryd.underlying30 rfl (tmP rfl rfl) (cellB hok 1 rfl rfl)) ?_
   | refine rg_take 2 rfl rfl (by kernel_rfl) (by kernel_rfl) (by kernel_rfl) (want_0) (fun w hok => x_load Tryd.underlying30 rfl (tmP rfl rfl) (cellB hok 1 rfl (getm (by omega)))) ?_
  first
   | refine rg_take 3 rfl rfl (by kernel_rfl) (by kernel_rfl) (by kernel_rfl) (want_0) (fun w hok => x_convN Tryd.underlying30 Tryd.underlying24 (tmI rfl rfl) (fit_u64 (by omega))) ?_
   | refine rg_take 3 rfl rfl (by kernel_rfl) (by kernel_rfl) (by kernel_rfl) (want_0) (fun w hok => x_convU Tryd.underlying30 Tryd.underlying24 (tmI rfl rfl) rfl) ?_
   | refine rg_take 3 rfl rfl (by kernel_rfl) (by kernel_rfl) (by kernel_rfl) (want_0) (fun w hok => x_conv Tryd.underlying30 Tryd.underlying24 (tmI rfl rfl)) ?_
  refine rg_take 5 rfl rfl (by kernel_rfl) (by kernel_rfl) (by kernel_rfl) (want_0) (fun w hok => x_fa 2 Tryd.underlying95 rfl rfl ts_3 (tmP rfl rfl)) ?_
  first
   | refine rg_take 6 rfl rfl (by kernel_rfl) (by kernel_rfl) (by kernel_rfl) (want_0) (fun w hok => x_load Tryd.underlying3 rfl (tmP rfl rfl) (cellB hok 1 rfl rfl)) ?_
   | refine rg_take 6 rfl rfl (by kernel_rfl) (by kernel_rfl) (by kernel_rfl) (want_0) (fun w hok => x_load Tryd.underlying3 rfl (tmP rfl rfl) (cellB hok 1 rfl (getm (by omega)))) ?_
  first
   | refine rg_take 7 rfl rfl (by kernel_rfl) (by kernel_rfl) (by kernel_rfl) (want_0) (fun w hok => x_convN Tryd.underlying3 Tryd.underlying24 (tmI rfl rfl) (fit_u64 (by omega))) ?_
   | refine rg_take 7 rfl rfl (by kernel_rfl) (by kernel_rfl) (by kernel_rfl) (want_0) (fun w hok => x_convU Tryd.underlying3 Tryd.underlying24 (tmI rfl rfl) rfl) ?_
   | refine rg_take 7 rfl rfl (by kernel_rfl) (by kernel_rfl) (by kernel_rfl) (want_0) (fun w hok => x_conv Tryd.underlying3 Tryd.underlying24 (tmI rfl rfl)) ?_
  refine rg_take 9 rfl rfl (by kernel_rfl) (by kernel_rfl) (by kernel_rfl) (want_0) (fun w hok => x_fa 3 Tryd.underlying95 rfl rfl ts_5 (tmP rfl rfl)) ?_
  first
   | refine rg_take 10 rfl rfl (by kernel_rfl) (by kernel_rfl) (by kernel_rfl) (want_0) (fun w hok => x_load Tryd.underlying5 rfl (tmP rfl rfl) (cellB hok 1 rfl rfl)) ?_
   | refine rg_take 10 rfl rfl (by kernel_rfl) (by kernel_rfl) (by kernel_rfl) (want_0) (fun w hok => x_load Tryd.underlying5 rfl (tmP rfl rfl) (cellB hok 1 rfl (getm (by omega)))) ?_
  refine rg_take 11 rfl rfl (by kernel_rfl) (by kernel_rfl) (by kernel_rfl) (want_0) (fun w hok => x_fa 4 Tryd.underlying95 rfl rfl ts_5 (tmP rfl rfl)) ?_
  first
   | refine rg_take 12 rfl rfl (by kernel_rfl) (by kernel_rfl) (by kernel_rfl) (want_0) (fun w hok => x_load Tryd.underlying5 rfl (tmP rfl rfl) (cellB hok 1 rfl rfl)) ?_
   | refine rg_take 12 rfl rfl (by kernel_rfl) (by kernel_rfl) (by kernel_rfl) (want_0) (fun w hok => x_load Tryd.underlying5 rfl (tmP rfl rfl) (cellB hok 1 rfl (getm (by omega)))) ?_
  refine rg_take 14 rfl rfl (by kernel_rfl) (by kernel_rfl) (by kernel_rfl) (want_0) (fun w hok => x_fa 5 Tryd.underlying95 rfl rfl ts_26 (tmP rfl rfl)) ?_
  refine rg_take 15 rfl rfl (by kernel_rfl) (by kernel_rfl) (by kernel_rfl) (want_0) (fun w hok => x_loadA (cs := [_, _, _]) Tryd.underlying26 rfl ts_26 (tmP rfl rfl) (rangeB hok 1 rfl rfl)) ?_
  refine rg_take 17 rfl rfl (by kernel_rfl) (by kernel_rfl) (by kernel_rfl) (want_0) (fun w hok => x_fa 8 Tryd.underlying95 rfl rfl ts_26 (tmP rfl rfl)) ?_
  refine rg_take 18 rfl rfl (by kernel_rfl) (by kernel_rfl) (by kernel_rfl) (want_0) (fun w hok => x_loadA (cs := [_, _, _]) Tryd.underlying26 rfl ts_26 (tmP rfl rfl) (rangeB hok 1 rfl rfl)) ?_
  refine rg_step2 4 13 rfl rfl (by kernel_rfl) (want_0) (want_0) (oks_drop hS 0 rfl) ?_ ?_
  · intro K hK
    refine ow_call Tryd.func66 rfl rfl (evs_cons (tmI rfl rfl) <| evs_cons (ev_cN 2) <| evs_nil) (rbytes_c lb 2 _ (by omega) (by omega)) ?_
    rintro e w ⟨ga, rfl, hn, hk⟩
    refine ⟨_, rfl, ?_⟩
    replace hS := hS.add hk hn -- +rowa
    clear hn hk
    refine hK _ _ ?_; clear hK K
    refine rg_step2 8 13 rfl rfl (by kernel_rfl) (want_0) (want_0) (oks_drop hS 1 rfl) ?_ ?_
    · intro K hK
      refine ow_call Tryd.func66 rfl rfl (evs_cons (tmI rfl rfl) <| evs_cons (ev_cN 2) <| evs_nil) (rbytes_c len 2 _ (by omega) (by omega)) ?_
      rintro e w ⟨gb, rfl, hn, hk⟩
      refine ⟨_, rfl, ?_⟩
      replace hS := hS.add hk hn -- +rowb
      clear hn hk
      refine hK _ _ ?_; clear hK K
      refine rg_step2 13 16 rfl rfl (by kernel_rfl) (want_0) (want_0) (oks_drop hS 2 rfl) ?_ ?_
      · intro K hK
        refine ow_build hS Tryd.underlying22 tz_5 (bc_take (tmI rfl rfl) <| bc_take (tmI rfl rfl) <| bc_nil) rfl rfl (by kernel_rfl) ?_
        clear hS; intro g2_13 w hg2_13 hS
        refine hK _ _ ?_; clear hK K
        refine rg_step 16 rfl (by kernel_rfl) (want_0) (oks_drop hS 3 rfl) ?_; intro K hK
        refine ow_call Tryd.func78 rfl rfl (evs_cons (tmA rfl rfl) <| evs_nil) (rad_bytes_c _ _ hls) ?_
        rintro e w ⟨Ad, nd, cd, hn', rfl, hn, hk⟩
        refine ⟨_, rfl, ?_⟩
        obtain rfl : nd = 16 := hn'.trans hns
        replace hS := hS.add hk hn -- +rowd
        clear hn hk
        refine hK _ _ ?_; clear hK K
        refine rg_step 19 rfl (by kernel_rfl) (want_0) (oks_drop hS 4 rfl) ?_; intro K hK
        refine ow_call Tryd.func78 rfl rfl (evs_cons (tmA rfl rfl) <| evs_nil) (rad_bytes_c _ _ hld) ?_
        rintro e w ⟨Ae, ne, ce, hn', rfl, hn, hk⟩
        refine ⟨_, rfl, ?_⟩
        obtain rfl : ne = 16 := hn'.trans hnd
        replace hS := hS.add hk hn -- +rowe
        clear hn hk
        refine hK _ _ ?_; clear hK K
        refine rg_step 20 rfl (by kernel_rfl) (want_0) (oks_drop hS 5 rfl) ?_; intro K hK
        refine ow_build hS Tryd.underlying110 tz_22 (bc_take (tmS rfl rfl) <| bc_take (tmS rfl rfl) <| bc_take (tmS rfl rfl) <| bc_take (tmS rfl rfl) <| bc_take (tmS rfl rfl) <| bc_take (tmS rfl rfl) <| bc_nil) rfl rfl (by kernel_rfl) ?_
        clear hS; intro g2_20 w hg2_20 hS
        refine hK _ _ ?_; clear hK K
        refine rg_step 21 rfl (by kernel_rfl) (want_0) (oks_drop hS 6 rfl) ?_; intro K hK
        refine ow_call Tryd.func47 rfl rfl (evs_cons (tmS rfl rfl) <| evs_nil) (join_c 6 _ _ [(some ⟨g1_17, 0, none⟩, [96 + cl / 16, cl % 16 * 16 + lb / 65536], 2), (some ⟨ga, 0, none⟩, be lb 2, 2), (some ⟨gb, 0, none⟩, be len 2, 2), (some ⟨g2_13, 0, none⟩, [nx, hp], 2), (Ad, adB s, cd), (Ae, adB d, ce)] _ (by have h := viewB hS.ok 0 rfl; simp only [List.map_cons, List.map_nil, rowV, hsl, hdl]; exact h) (seen_cons (viewB hS.ok 6 rfl) <| seen_cons (viewR hS.ok 5 rfl) <| seen_cons (viewR hS.ok 4 rfl) <| seen_cons (viewB hS.ok 3 rfl) <| seen_cons (viewR hS.ok 2 rfl) <| seen_cons (viewR hS.ok 1 rfl) seen_nil) rfl (by omega) (by rw [hjo, hlen]; omega)) ?_
        rintro e w ⟨Aj, mj, cj, hmj, rfl, hn, hk⟩
        refine ⟨_, rfl, ?_⟩
        rw [hjo] at hn hmj
        rw [hlen] at hmj
        replace hS := hS.add hk hn -- +rowj
        clear hn hk
        refine hK _ _ ?_; clear hK K
        refine rg_take 22 rfl rfl (by kernel_rfl) (by kernel_rfl) (by kernel_rfl) (want_0) (fun w hok => x_assign (tmS rfl rfl)) ?_
        refine rg_done (oks_drop hS 7 rfl) (by kernel_rfl) ?_
        refine then_n (hK3 _ _ ?_); clear hK3 K3
        refine wp_ret ?_
        refine ret1 rfl (.tmp rfl (show _ = Value.slice _ _ _ from rfl)) ?_
        exact ⟨_, _, _, hmj, rfl, hS.new 0 rfl rfl, hS.kp⟩
      · intro K hK
        refine ow_call Tryd.func78 rfl rfl (evs_cons (tmA rfl rfl) <| evs_nil) (rad_bytes_c _ _ hls) ?_
        rintro e w ⟨Ad, nd, cd, hn', rfl, hn, hk⟩
        refine ⟨_, rfl, ?_⟩
        obtain rfl : nd = 16 := hn'.trans hns
        replace hS := hS.add hk hn -- +rowd
        clear hn hk
        refine hK _ _ ?_; clear hK K
        refine rg_step2 13 19 rfl rfl (by kernel_rfl) (want_0) (want_0) (oks_drop hS 3 rfl) ?_ ?_
        · intro K hK
          refine ow_build hS Tryd.underlying22 tz_5 (bc_take (tmI rfl rfl) <| bc_take (tmI rfl rfl) <| bc_nil) rfl rfl (by kernel_rfl) ?_
          clear hS; intro g2_13 w hg2_13 hS
          refine hK _ _ ?_; clear hK K
          refine rg_step 19 rfl (by kernel_rfl) (want_0) (oks_drop hS 4 rfl) ?_; intro K hK
          refine ow_call Tryd.func78 rfl rfl (evs_cons (tmA rfl rfl) <| evs_nil) (rad_bytes_c _ _ hld) ?_
          rintro e w ⟨Ae, ne, ce, hn', rfl, hn, hk⟩
          refine ⟨_, rfl, ?_⟩
          obtain rfl : ne = 16 := hn'.trans hnd
          replace hS := hS.add hk hn -- +rowe
          clear hn hk
          refine hK _ _ ?_; clear hK K
          refine rg_step 20 rfl (by kernel_rfl) (want_0) (oks_drop hS 5 rfl) ?_; intro K hK
          refine ow_build hS Tryd.underlying110 tz_22 (bc_take (tmS rfl rfl) <| bc_take (tmS rfl rfl) <| bc_take (tmS rfl rfl) <| bc_take (tmS rfl rfl) <| bc_take (tmS rfl rfl) <| bc_take (tmS rfl rfl) <| bc_nil) rfl rfl (by kernel_rfl) ?_
          clear hS; intro g2_20 w hg2_20 hS
          refine hK _ _ ?_; clear hK K
          refine rg_step 21 rfl (by kernel_rfl) (want_0) (oks_drop hS 6 rfl) ?_; intro K hK
          refine ow_call Tryd.func47 rfl rfl (evs_cons (tmS rfl rfl) <| evs_nil) (join_c 6 _ _ [(some ⟨g1_17, 0, none⟩, [96 + cl / 16, cl % 16 * 16 + lb / 65536], 2), (some ⟨ga, 0, none⟩, be lb 2, 2), (some ⟨gb, 0, none⟩, be len 2, 2), (some ⟨g2_13, 0, none⟩, [nx, hp], 2), (Ad, adB s, cd), (Ae, adB d, ce)] _ (by have h := viewB hS.ok 0 rfl; simp only [List.map_cons, List.map_nil, rowV, hsl, hdl]; exact h) (seen_cons (viewB hS.ok 6 rfl) <| seen_cons (viewR hS.ok 5 rfl) <| seen_cons (viewR hS.ok 4 rfl) <| seen_cons (viewB hS.ok 2 rfl) <| seen_cons (viewR hS.ok 3 rfl) <| seen_cons (viewR hS.ok 1 rfl) seen_nil) rfl (by omega) (by rw [hjo, hlen]; omega)) ?_
          rintro e w ⟨Aj, mj, cj, hmj, rfl, hn, hk⟩
          refine ⟨_, rfl, ?_⟩
          rw [hjo] at hn hmj
          rw [hlen] at hmj
          replace hS := hS.add hk hn -- +rowj
          clear hn hk
          refine hK _ _ ?_; clear hK K
          refine rg_take 22 rfl rfl (by kernel_rfl) (by kernel_rfl) (by kernel_rfl) (want_0) (fun w hok => x_assign (tmS rfl rfl)) ?_
          refine rg_done (oks_drop hS 7 rfl) (by kernel_rfl) ?_
          refine then_n (hK3 _ _ ?_); clear hK3 K3
          refine wp_ret ?_
          refine ret1 rfl (.tmp rfl (show _ = Value.slice _ _ _ from rfl)) ?_
          exact ⟨_, _, _, hmj, rfl, hS.new 0 rfl rfl, hS.kp⟩
        · intro K hK
          refine ow_call Tryd.func78 rfl rfl (evs_cons (tmA rfl rfl) <| evs_nil) (rad_bytes_c _ _ hld) ?_
          rintro e w ⟨Ae, ne, ce, hn', rfl, hn, hk⟩
          refine ⟨_, rfl, ?_⟩
          obtain rfl : ne = 16 := hn'.trans hnd
          replace hS := hS.add hk hn -- +rowe
          clear hn hk
          refine hK _ _ ?_; clear hK K
          refine rg_step 13 rfl (by kernel_rfl) (want_0) (oks_drop hS 4 rfl) ?_; intro K hK
          refine ow_build hS Tryd.underlying22 tz_5 (bc_take (tmI rfl rfl) <| bc_take (tmI rfl rfl) <| bc_nil) rfl rfl (by kernel_rfl) ?_
          clear hS; intro g2_13 w hg2_13 hS
          refine hK _ _ ?_; clear hK K
          refine rg_step 20 rfl (by kernel_rfl) (want_0) (oks_drop hS 5 rfl) ?_; intro K hK
          refine ow_build hS Tryd.underlying110 tz_22 (bc_take (tmS rfl rfl) <| bc_take (tmS rfl rfl) <| bc_take (tmS rfl rfl) <| bc_take (tmS rfl rfl) <| bc_take (tmS rfl rfl) <| bc_take (tmS rfl rfl) <| bc_nil) rfl rfl (by kernel_rfl) ?_
          clear hS; intro g2_20 w hg2_20 hS
          refine hK _ _ ?_; clear hK K
          refine rg_step 21 rfl (by kernel_rfl) (want_0) (oks_drop hS 6 rfl) ?_; intro K hK
          refine ow_call Tryd.func47 rfl rfl (evs_cons (tmS rfl rfl) <| evs_nil) (join_c 6 _ _ [(some ⟨g1_17, 0, none⟩, [96 + cl / 16, cl % 16 * 16 + lb / 65536], 2), (some ⟨ga, 0, none⟩, be lb 2, 2), (some ⟨gb, 0, none⟩, be len 2, 2), (some ⟨g2_13, 0, none⟩, [nx, hp], 2), (Ad, adB s, cd), (Ae, adB d, ce)] _ (by have h := viewB hS.ok 0 rfl; simp only [List.map_cons, List.map_nil, rowV, hsl, hdl]; exact h) (seen_cons (viewB hS.ok 6 rfl) <| seen_cons (viewR hS.ok 5 rfl) <| seen_cons (viewR hS.ok 4 rfl) <| seen_cons (viewB hS.ok 1 rfl) <| seen_cons (viewR hS.ok 3 rfl) <| seen_cons (viewR hS.ok 2 rfl) seen_nil) rfl (by omega) (by rw [hjo, hlen]; omega)) ?_
          rintro e w ⟨Aj, mj, cj, hmj, rfl, hn, hk⟩
          refine ⟨_, rfl, ?_⟩
          rw [hjo] at hn hmj
          rw [hlen] at hmj
          replace hS := hS.add hk hn -- +rowj
          clear hn hk
          refine hK _ _ ?_; clear hK K
          refine rg_take 22 rfl rfl (by kernel_rfl) (by kernel_rfl) (by kernel_rfl) (want_0) (fun w hok => x_assign (tmS rfl rfl)) ?_
          refine rg_done (oks_drop hS 7 rfl) (by kernel_rfl) ?_
          refine then_n (hK3 _ _ ?_); clear hK3 K3
          refine wp_ret ?_
          refine ret1 rfl (.tmp rfl (show _ = Value.slice _ _ _ from rfl)) ?_
          exact ⟨_, _, _, hmj, rfl, hS.new 0 rfl rfl, hS.kp⟩
    · intro K hK
      refine ow_build hS Tryd.underlying22 tz_5 (bc_take (tmI rfl rfl) <| bc_take (tmI rfl rfl) <| bc_nil) rfl rfl (by kernel_rfl) ?_
      clear hS; intro g2_13 w hg2_13 hS
      refine hK _ _ ?_; clear hK K
      refine rg_step 8 rfl (by kernel_rfl) (want_0) (oks_drop hS 2 rfl) ?_; intro K hK
      refine ow_call Tryd.func66 rfl rfl (evs_cons (tmI rfl rfl) <| evs_cons (ev_cN 2) <| evs_nil) (rbytes_c len 2 _ (by omega) (by omega)) ?_
      rintro e w ⟨gb, rfl, hn, hk⟩
      refine ⟨_, rfl, ?_⟩
      replace hS := hS.add hk hn -- +rowb
      clear hn hk
      refine hK _ _ ?_; clear hK K
      refine rg_step 16 rfl (by kernel_rfl) (want_0) (oks_drop hS 3 rfl) ?_; intro K hK
      refine ow_call Tryd.func78 rfl rfl (evs_cons (tmA rfl rfl) <| evs_nil) (rad_bytes_c _ _ hls) ?_
      rintro e w ⟨Ad, nd, cd, hn', rfl, hn, hk⟩
      refine ⟨_, rfl, ?_⟩
      obtain rfl : nd = 16 := hn'.trans hns
      replace hS := hS.add hk hn -- +rowd
      clear hn hk
      refine hK _ _ ?_; clear hK K
      refine rg_step 19 rfl (by kernel_rfl) (want_0) (oks_drop hS 4 rfl) ?_; intro K hK
      refine ow_call Tryd.func78 rfl rfl (evs_cons (tmA rfl rfl) <| evs_nil) (rad_bytes_c _ _ hld) ?_
      rintro e w ⟨Ae, ne, ce, hn', rfl, hn, hk⟩
      refine ⟨_, rfl, ?_⟩
      obtain rfl : ne = 16 := hn'.trans hnd
      replace hS := hS.add hk hn -- +rowe
      clear hn hk
      refine hK _ _ ?_; clear hK K
      refine rg_step 20 rfl (by kernel_rfl) (want_0) (oks_drop hS 5 rfl) ?_; intro K hK
      refine ow_build hS Tryd.underlying110 tz_22 (bc_take (tmS rfl rfl) <| bc_take (tmS rfl rfl) <| bc_take (tmS rfl rfl) <| bc_take (tmS rfl rfl) <| bc_take (tmS rfl rfl) <| bc_take (tmS rfl rfl) <| bc_nil) rfl rfl (by kernel_rfl) ?_
      clear hS; intro g2_20 w hg2_20 hS
      refine hK _ _ ?_; clear hK K
      refine rg_step 21 rfl (by kernel_rfl) (want_0) (oks_drop hS 6 rfl) ?_; intro K hK
      refine ow_call Tryd.func47 rfl rfl (evs_cons (tmS rfl rfl) <| evs_nil) (join_c 6 _ _ [(some ⟨g1_17, 0, none⟩, [96 + cl / 16, cl % 16 * 16 + lb / 65536], 2), (some ⟨ga, 0, none⟩, be lb 2, 2), (some ⟨gb, 0, none⟩, be len 2, 2), (some ⟨g2_13, 0, none⟩, [nx, hp], 2), (Ad, adB s, cd), (Ae, adB d, ce)] _ (by have h := viewB hS.ok 0 rfl; simp only [List.map_cons, List.map_nil, rowV, hsl, hdl]; exact h) (seen_cons (viewB hS.ok 6 rfl) <| seen_cons (viewR hS.ok 5 rfl) <| seen_cons (viewR hS.ok 3 rfl) <| seen_cons (viewB hS.ok 4 rfl) <| seen_cons (viewR hS.ok 2 rfl) <| seen_cons (viewR hS.ok 1 rfl) seen_nil) rfl (by omega) (by rw [hjo, hlen]; omega)) ?_
      rintro e w ⟨Aj, mj, cj, hmj, rfl, hn, hk⟩
      refine ⟨_, rfl, ?_⟩
      rw [hjo] at hn hmj
      rw [hlen] at hmj
      replace hS := hS.add hk hn -- +rowj
      clear hn hk
      refine hK _ _ ?_; clear hK K
      refine rg_take 22 rfl rfl (by kernel_rfl) (by kernel_rfl) (by kernel_rfl) (want_0) (fun w hok => x_assign (tmS rfl rfl)) ?_
      refine rg_done (oks_drop hS 7 rfl) (by kernel_rfl) ?_
      refine then_n (hK3 _ _ ?_); clear hK3 K3
      refine wp_ret ?_
      refine ret1 rfl (.tmp rfl (show _ = Value.slice _ _ _ from rfl)) ?_
      exact ⟨_, _, _, hmj, rfl, hS.new 0 rfl rfl, hS.kp⟩
  · intro K hK
    refine ow_build hS Tryd.underlying22 tz_5 (bc_take (tmI rfl rfl) <| bc_take (tmI rfl rfl) <| bc_nil) rfl rfl (by kernel_rfl) ?_
    clear hS; intro g2_13 w hg2_13 hS
    refine hK _ _ ?_; clear hK K
    refine rg_step 4 rfl (by kernel_rfl) (want_0) (oks_drop hS 1 rfl) ?_; intro K hK
    refine ow_call Tryd.func66 rfl rfl (evs_cons (tmI rfl rfl) <| evs_cons (ev_cN 2) <| evs_nil) (rbytes_c lb 2 _ (by omega) (by omega)) ?_
    rintro e w ⟨ga, rfl, hn, hk⟩
    refine ⟨_, rfl, ?_⟩
    replace hS := hS.add hk hn -- +rowa
    clear hn hk
    refine hK _ _ ?_; clear hK K
    refine rg_step 8 rfl (by kernel_rfl) (want_0) (oks_drop hS 2 rfl) ?_; intro K hK
    refine ow_call Tryd.func66 rfl rfl (evs_cons (tmI rfl rfl) <| evs_cons (ev_cN 2) <| evs_nil) (rbytes_c len 2 _ (by omega) (by omega)) ?_
    rintro e w ⟨gb, rfl, hn, hk⟩
    refine ⟨_, rfl, ?_⟩
    replace hS := hS.add hk hn -- +rowb
    clear hn hk
    refine hK _ _ ?_; clear hK K
    refine rg_step 16 rfl (by kernel_rfl) (want_0) (oks_drop hS 3 rfl) ?_; intro K hK
    refine ow_call Tryd.func78 rfl rfl (evs_cons (tmA rfl rfl) <| evs_nil) (rad_bytes_c _ _ hls) ?_
    rintro e w ⟨Ad, nd, cd, hn', rfl, hn, hk⟩
    refine ⟨_, rfl, ?_⟩
    obtain rfl : nd = 16 := hn'.trans hns
    replace hS := hS.add hk hn -- +rowd
    clear hn hk
    refine hK _ _ ?_; clear hK K
    refine rg_step 19 rfl (by kernel_rfl) (want_0) (oks_drop hS 4 rfl) ?_; intro K hK
    refine ow_call Tryd.func78 rfl rfl (evs_cons (tmA rfl rfl) <| evs_nil) (rad_bytes_c _ _ hld) ?_
    rintro e w ⟨Ae, ne, ce, hn', rfl, hn, hk⟩
    refine ⟨_, rfl, ?_⟩
    obtain rfl : ne = 16 := hn'.trans hnd
    replace hS := hS.add hk hn -- +rowe
    clear hn hk
    refine hK _ _ ?_; clear hK K
    refine rg_step 20 rfl (by kernel_rfl) (want_0) (oks_drop hS 5 rfl) ?_; intro K hK
    refine ow_build hS Tryd.underlying110 tz_22 (bc_take (tmS rfl rfl) <| bc_take (tmS rfl rfl) <| bc_take (tmS rfl rfl) <| bc_take (tmS rfl rfl) <| bc_take (tmS rfl rfl) <| bc_take (tmS rfl rfl) <| bc_nil) rfl rfl (by kernel_rfl) ?_
    clear hS; intro g2_20 w hg2_20 hS
    refine hK _ _ ?_; clear hK K
    refine rg_step 21 rfl (by kernel_rfl) (want_0) (oks_drop hS 6 rfl) ?_; intro K hK
    refine ow_call Tryd.func47 rfl rfl (evs_cons (tmS rfl rfl) <| evs_nil) (join_c 6 _ _ [(some ⟨g1_17, 0, none⟩, [96 + cl / 16, cl % 16 * 16 + lb / 65536], 2), (some ⟨ga, 0, none⟩, be lb 2, 2), (some ⟨gb, 0, none⟩, be len 2, 2), (some ⟨g2_13, 0, none⟩, [nx, hp], 2), (Ad, adB s, cd), (Ae, adB d, ce)] _ (by have h := viewB hS.ok 0 rfl; simp only [List.map_cons, List.map_nil, rowV, hsl, hdl]; exact h) (seen_cons (viewB hS.ok 6 rfl) <| seen_cons (viewR hS.ok 4 rfl) <| seen_cons (viewR hS.ok 3 rfl) <| seen_cons (viewB hS.ok 5 rfl) <| seen_cons (viewR hS.ok 2 rfl) <| seen_cons (viewR hS.ok 1 rfl) seen_nil) rfl (by omega) (by rw [hjo, hlen]; omega)) ?_
    rintro e w ⟨Aj, mj, cj, hmj, rfl, hn, hk⟩
    refine ⟨_, rfl, ?_⟩
    rw [hjo] at hn hmj
    rw [hlen] at hmj
    replace hS := hS.add hk hn -- +rowj
    clear hn hk
    refine hK _ _ ?_; clear hK K
    refine rg_take 22 rfl rfl (by kernel_rfl) (by kernel_rfl) (by kernel_rfl) (want_0) (fun w hok => x_assign (tmS rfl rfl)) ?_
    refine rg_done (oks_drop hS 7 rfl) (by kernel_rfl) ?_
    refine then_n (hK3 _ _ ?_); clear hK3 K3
    refine wp_ret ?_
    refine ret1 rfl (.tmp rfl (show _ = Value.slice _ _ _ from rfl)) ?_
    exact ⟨_, _, _, hmj, rfl, hS.new 0 rfl rfl, hS.kp⟩
end Go.Proofs.YtmekadkmmddocaaDoor
