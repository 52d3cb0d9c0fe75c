/- ip6: Right, Bytes and the references', by contract. Conditions: none but bounds. -/
import Derived.Test.YtilgolflpdpfnaaAd
import Derived.Test.YtilgolflpdpfnaaSet
namespace Go.Proofs.Ytilgolflpdpfnaa
open Go.RowKit

def hd6V (cl lb : Nat) (len : Int) (nx hp : Nat) (s d : Ad) : List Value :=
  [.int .u8 (cl : Int), .int .u32 (lb : Int), .int .i64 len, .int .u8 (nx : Int), .int .u8 (hp : Int), .bool s.six, .int .u64 (s.high : Int), .int .u64 (s.low : Int), .bool d.six, .int .u64 (d.high : Int), .int .u64 (d.low : Int)]
def hd6Right (lb : Nat) (len : Int) (s d : Ad) : Prop := lb ≤ 1048575 ∧ 0 ≤ len ∧ len ≤ 65535 ∧ s.six = true ∧ d.six = true
instance (lb : Nat) (len : Int) (s d : Ad) : Decidable (hd6Right lb len s d) := by unfold hd6Right; exact inferInstance
set_option maxRecDepth 100000 in
set_option maxHeartbeats 4000000 in
theorem ip6_right_c (cl lb : Nat) (len : Int) (nx hp : Nat) (s d : Ad) (w0 : World) :
    Calls Try.prog 141 #[.agg (hd6V cl lb len nx hp s d).toArray] w0 fun e w' => e = .returned (.bool (decide (hd6Right lb len s d))) ∧ Kp [] w0 w' := by
  have hS := St.sv w0
  refine ent (n := 26) Try.func141 rfl rfl ?_
  refine wp_seq_k ?_; intro K1 hK1
  refine wlit ?_
  refine wl_e rfl ?_; intro K hK
  refine ow_box hS (tmA rfl rfl) rfl ?_
  clear hS; intro g0_0 w hg0_0 hS
  refine hK _ _ ?_; clear hK K
  refine wl_v (x_assign ev_c) ?_
  refine wl_nil ?_
  refine then_n (hK1 _ _ ?_); clear hK1 K1
  refine wp_seq_k ?_; intro K2 hK2
  refine wlit ?_
  refine wl_v (x_fa 1 Try.underlying152 rfl rfl ts_49 (tmP rfl rfl)) ?_
  first
   | refine wl_v (x_load Try.underlying49 rfl (tmP rfl rfl) (cellB hS.ok 0 rfl rfl)) ?_
   | refine wl_v (x_load Try.underlying49 rfl (tmP rfl rfl) (cellB hS.ok 0 rfl (getm (by omega)))) ?_
  refine wl_v (x_leq (tmI rfl rfl) (ev_cN 1048575)) ?_
  refine wl_v (x_move (tmB rfl rfl)) ?_
  refine gs_wl (tm (t := 6) rfl) (fun hg1_3 => ?_) (fun hg1_3 => ?_)
  · have hg1_3' := hg1_3; (try simp only [nrm] at hg1_3'); try (exfalso; first | with_reducible exact absurd hg1_3 Bool.false_ne_true | with_reducible exact absurd hg1_3.symm Bool.false_ne_true | omega | (simp at hg1_3; done))
    all_goals
     refine wl_gv (want_y rfl rfl rfl rfl (by rw [hg1_3]; rfl)) (x_fa 2 Try.underlying152 rfl rfl ts_3 (tmP rfl rfl)) ?_
     first
      | refine wl_gv (want_y rfl rfl rfl rfl (by rw [hg1_3]; rfl)) (x_load Try.underlying3 rfl (tmP rfl rfl) (cellB hS.ok 0 rfl rfl)) ?_
      | refine wl_gv (want_y rfl rfl rfl rfl (by rw [hg1_3]; rfl)) (x_load Try.underlying3 rfl (tmP rfl rfl) (cellB hS.ok 0 rfl (getm (by omega)))) ?_
     refine wl_gv (want_y rfl rfl rfl rfl (by rw [hg1_3]; rfl)) (x_geq (tmI rfl rfl) (ev_cN 0)) ?_
     refine wl_v (x_pickT (tmB rfl rfl) hg1_3 (tmB rfl rfl)) ?_
     refine wl_v (x_move (tmB rfl rfl)) ?_
     refine gs_wl (tm (t := 11) rfl) (fun hg1_8 => ?_) (fun hg1_8 => ?_)
     · have hg1_8' := hg1_8; (try simp only [nrm] at hg1_8'); try (exfalso; first | with_reducible exact absurd hg1_8 Bool.false_ne_true | with_reducible exact absurd hg1_8.symm Bool.false_ne_true | omega | (simp at hg1_8; done))
       all_goals
        refine wl_gv (want_y rfl rfl rfl rfl (by rw [hg1_8]; rfl)) (x_fa 2 Try.underlying152 rfl rfl ts_3 (tmP rfl rfl)) ?_
        first
         | refine wl_gv (want_y rfl rfl rfl rfl (by rw [hg1_8]; rfl)) (x_load Try.underlying3 rfl (tmP rfl rfl) (cellB hS.ok 0 rfl rfl)) ?_
         | refine wl_gv (want_y rfl rfl rfl rfl (by rw [hg1_8]; rfl)) (x_load Try.underlying3 rfl (tmP rfl rfl) (cellB hS.ok 0 rfl (getm (by omega)))) ?_
        refine wl_gv (want_y rfl rfl rfl rfl (by rw [hg1_8]; rfl)) (x_leq (tmI rfl rfl) (ev_cN 65535)) ?_
        refine wl_v (x_pickT (tmB rfl rfl) hg1_8 (tmB rfl rfl)) ?_
        refine wl_v (x_move (tmB rfl rfl)) ?_
        refine gs_wl (tm (t := 16) rfl) (fun hg1_13 => ?_) (fun hg1_13 => ?_)
        · have hg1_13' := hg1_13; (try simp only [nrm] at hg1_13'); try (exfalso; first | with_reducible exact absurd hg1_13 Bool.false_ne_true | with_reducible exact absurd hg1_13.symm Bool.false_ne_true | omega | (simp at hg1_13; done))
          all_goals
           refine wl_gv (want_y rfl rfl rfl rfl (by rw [hg1_13]; rfl)) (x_fa 5 Try.underlying152 rfl rfl ts_26 (tmP rfl rfl)) ?_
           refine wl_gv (want_y rfl rfl rfl rfl (by rw [hg1_13]; rfl)) (x_fa 0 Try.underlying26 rfl rfl ts_4 (tmP rfl rfl)) ?_
           first
            | refine wl_gv (want_y rfl rfl rfl rfl (by rw [hg1_13]; rfl)) (x_load Try.underlying4 rfl (tmP rfl rfl) (cellB hS.ok 0 rfl rfl)) ?_
            | refine wl_gv (want_y rfl rfl rfl rfl (by rw [hg1_13]; rfl)) (x_load Try.underlying4 rfl (tmP rfl rfl) (cellB hS.ok 0 rfl (getm (by omega)))) ?_
           refine wl_v (x_pickT (tmB rfl rfl) hg1_13 (tmB rfl rfl)) ?_
           refine wl_v (x_move (tmB rfl rfl)) ?_
           refine gs_wl (tm (t := 21) rfl) (fun hg1_18 => ?_) (fun hg1_18 => ?_)
           · have hg1_18' := hg1_18; (try simp only [nrm] at hg1_18'); try (exfalso; first | with_reducible exact absurd hg1_18 Bool.false_ne_true | with_reducible exact absurd hg1_18.symm Bool.false_ne_true | omega | (simp at hg1_18; done))
             all_goals
              refine wl_gv (want_y rfl rfl rfl rfl (by rw [hg1_18]; rfl)) (x_fa 8 Try.underlying152 rfl rfl ts_26 (tmP rfl rfl)) ?_
              refine wl_gv (want_y rfl rfl rfl rfl (by rw [hg1_18]; rfl)) (x_fa 0 Try.underlying26 rfl rfl ts_4 (tmP rfl rfl)) ?_
              first
               | refine wl_gv (want_y rfl rfl rfl rfl (by rw [hg1_18]; rfl)) (x_load Try.underlying4 rfl (tmP rfl rfl) (cellB hS.ok 0 rfl rfl)) ?_
               | refine wl_gv (want_y rfl rfl rfl rfl (by rw [hg1_18]; rfl)) (x_load Try.underlying4 rfl (tmP rfl rfl) (cellB hS.ok 0 rfl (getm (by omega)))) ?_
              refine wl_v (x_pickT (tmB rfl rfl) hg1_18 (tmB rfl rfl)) ?_
              refine wl_v (x_assign (tmB rfl rfl)) ?_
              refine wl_nil ?_
              refine then_n (hK2 _ _ ?_); clear hK2 K2
              refine wp_ret ?_
              refine ret1 rfl (.tmp rfl (show _ = Value.bool _ from rfl)) ?_
              refine ⟨ret_bool ?_, hS.kp⟩
              clear hS
              unfold hd6Right
              first
                | (symm; apply decide_eq_false; rintro ⟨h1, h2, h3, h4, h5⟩; first | omega | exact absurd h4 (by simpa using hg1_18))
                | exact Bool.eq_iff_iff.2 ⟨fun h => decide_eq_true ⟨by omega, by omega, by omega, by simpa using hg1_18, h⟩, fun h => (of_decide_eq_true h).2.2.2.2⟩
           have hg1_18' := hg1_18; (try simp only [nrm] at hg1_18'); try (exfalso; first | with_reducible exact absurd hg1_18 Bool.false_ne_true | with_reducible exact absurd hg1_18.symm Bool.false_ne_true | omega | (simp at hg1_18; done))
           all_goals
            refine wl_s rfl (want_n rfl rfl rfl rfl (by rw [hg1_18]; rfl)) ?_
            refine wl_s rfl (want_n rfl rfl rfl rfl (by rw [hg1_18]; rfl)) ?_
            refine wl_s rfl (want_n rfl rfl rfl rfl (by rw [hg1_18]; rfl)) ?_
            refine wl_v (x_pickF (tmB rfl rfl) hg1_18 ev_c) ?_
            refine wl_v (x_assign (tmB rfl rfl)) ?_
            refine wl_nil ?_
            refine then_n (hK2 _ _ ?_); clear hK2 K2
            refine wp_ret ?_
            refine ret1 rfl (.tmp rfl (show _ = Value.bool _ from rfl)) ?_
            refine ⟨ret_bool ?_, hS.kp⟩
            clear hS
            unfold hd6Right
            first
              | (symm; apply decide_eq_false; rintro ⟨h1, h2, h3, h4, h5⟩; first | omega | exact absurd h4 (by simpa using hg1_18))
              | exact Bool.eq_iff_iff.2 ⟨fun h => decide_eq_true ⟨by omega, by omega, by omega, by simpa using hg1_18, h⟩, fun h => (of_decide_eq_true h).2.2.2.2⟩
        have hg1_13' := hg1_13; (try simp only [nrm] at hg1_13'); try (exfalso; first | with_reducible exact absurd hg1_13 Bool.false_ne_true | with_reducible exact absurd hg1_13.symm Bool.false_ne_true | omega | (simp at hg1_13; done))
        all_goals
         refine wl_s rfl (want_n rfl rfl rfl rfl (by rw [hg1_13]; rfl)) ?_
         refine wl_s rfl (want_n rfl rfl rfl rfl (by rw [hg1_13]; rfl)) ?_
         refine wl_s rfl (want_n rfl rfl rfl rfl (by rw [hg1_13]; rfl)) ?_
         refine wl_v (x_pickF (tmB rfl rfl) hg1_13 ev_c) ?_
         refine wl_v (x_move (tmB rfl rfl)) ?_
         refine wl_s rfl (want_n rfl rfl rfl rfl rfl) ?_
         refine wl_s rfl (want_n rfl rfl rfl rfl rfl) ?_
         refine wl_s rfl (want_n rfl rfl rfl rfl rfl) ?_
         refine wl_v (x_pickF (tmB rfl rfl) rfl ev_c) ?_
         refine wl_v (x_assign (tmB rfl rfl)) ?_
         refine wl_nil ?_
         refine then_n (hK2 _ _ ?_); clear hK2 K2
         refine wp_ret ?_
         refine ret1 rfl (.tmp rfl (show _ = Value.bool _ from rfl)) ?_
         refine ⟨ret_bool ?_, hS.kp⟩
         clear hS
         unfold hd6Right
         first
           | (symm; apply decide_eq_false; rintro ⟨h1, h2, h3, h4, h5⟩; first | omega | exact absurd h4 (by simpa using hg1_18))
           | exact Bool.eq_iff_iff.2 ⟨fun h => decide_eq_true ⟨by omega, by omega, by omega, by simpa using hg1_18, h⟩, fun h => (of_decide_eq_true h).2.2.2.2⟩
     have hg1_8' := hg1_8; (try simp only [nrm] at hg1_8'); try (exfalso; first | with_reducible exact absurd hg1_8 Bool.false_ne_true | with_reducible exact absurd hg1_8.symm Bool.false_ne_true | omega | (simp at hg1_8; done))
     all_goals
      refine wl_s rfl (want_n rfl rfl rfl rfl (by rw [hg1_8]; rfl)) ?_
      refine wl_s rfl (want_n rfl rfl rfl rfl (by rw [hg1_8]; rfl)) ?_
      refine wl_s rfl (want_n rfl rfl rfl rfl (by rw [hg1_8]; rfl)) ?_
      refine wl_v (x_pickF (tmB rfl rfl) hg1_8 ev_c) ?_
      refine wl_v (x_move (tmB rfl rfl)) ?_
      refine wl_s rfl (want_n rfl rfl rfl rfl rfl) ?_
      refine wl_s rfl (want_n rfl rfl rfl rfl rfl) ?_
      refine wl_s rfl (want_n rfl rfl rfl rfl rfl) ?_
      refine wl_v (x_pickF (tmB rfl rfl) rfl ev_c) ?_
      refine wl_v (x_move (tmB rfl rfl)) ?_
      refine wl_s rfl (want_n rfl rfl rfl rfl rfl) ?_
      refine wl_s rfl (want_n rfl rfl rfl rfl rfl) ?_
      refine wl_s rfl (want_n rfl rfl rfl rfl rfl) ?_
      refine wl_v (x_pickF (tmB rfl rfl) rfl ev_c) ?_
      refine wl_v (x_assign (tmB rfl rfl)) ?_
      refine wl_nil ?_
      refine then_n (hK2 _ _ ?_); clear hK2 K2
      refine wp_ret ?_
      refine ret1 rfl (.tmp rfl (show _ = Value.bool _ from rfl)) ?_
      refine ⟨ret_bool ?_, hS.kp⟩
      clear hS
      unfold hd6Right
      first
        | (symm; apply decide_eq_false; rintro ⟨h1, h2, h3, h4, h5⟩; first | omega | exact absurd h4 (by simpa using hg1_18))
        | exact Bool.eq_iff_iff.2 ⟨fun h => decide_eq_true ⟨by omega, by omega, by omega, by simpa using hg1_18, h⟩, fun h => (of_decide_eq_true h).2.2.2.2⟩
  have hg1_3' := hg1_3; (try simp only [nrm] at hg1_3'); try (exfalso; first | with_reducible exact absurd hg1_3 Bool.false_ne_true | with_reducible exact absurd hg1_3.symm Bool.false_ne_true | omega | (simp at hg1_3; done))
  all_goals
   refine wl_s rfl (want_n rfl rfl rfl rfl (by rw [hg1_3]; rfl)) ?_
   refine wl_s rfl (want_n rfl rfl rfl rfl (by rw [hg1_3]; rfl)) ?_
   refine wl_s rfl (want_n rfl rfl rfl rfl (by rw [hg1_3]; rfl)) ?_
   refine wl_v (x_pickF (tmB rfl rfl) hg1_3 ev_c) ?_
   refine wl_v (x_move (tmB rfl rfl)) ?_
   refine wl_s rfl (want_n rfl rfl rfl rfl rfl) ?_
   refine wl_s rfl (want_n rfl rfl rfl rfl rfl) ?_
   refine wl_s rfl (want_n rfl rfl rfl rfl rfl) ?_
   refine wl_v (x_pickF (tmB rfl rfl) rfl ev_c) ?_
   refine wl_v (x_move (tmB rfl rfl)) ?_
   refine wl_s rfl (want_n rfl rfl rfl rfl rfl) ?_
   refine wl_s rfl (want_n rfl rfl rfl rfl rfl) ?_
   refine wl_s rfl (want_n rfl rfl rfl rfl rfl) ?_
   refine wl_v (x_pickF (tmB rfl rfl) rfl ev_c) ?_
   refine wl_v (x_move (tmB rfl rfl)) ?_
   refine wl_s rfl (want_n rfl rfl rfl rfl rfl) ?_
   refine wl_s rfl (want_n rfl rfl rfl rfl rfl) ?_
   refine wl_s rfl (want_n rfl rfl rfl rfl rfl) ?_
   refine wl_v (x_pickF (tmB rfl rfl) rfl ev_c) ?_
   refine wl_v (x_assign (tmB rfl rfl)) ?_
   refine wl_nil ?_
   refine then_n (hK2 _ _ ?_); clear hK2 K2
   refine wp_ret ?_
   refine ret1 rfl (.tmp rfl (show _ = Value.bool _ from rfl)) ?_
   refine ⟨ret_bool ?_, hS.kp⟩
   clear hS
   unfold hd6Right
   first
     | (symm; apply decide_eq_false; rintro ⟨h1, h2, h3, h4, h5⟩; first | omega | exact absurd h4 (by simpa using hg1_18))
     | exact Bool.eq_iff_iff.2 ⟨fun h => decide_eq_true ⟨by omega, by omega, by omega, by simpa using hg1_18, h⟩, fun h => (of_decide_eq_true h).2.2.2.2⟩
def hd6F (cl lb : Nat) : Nat := 1610612736 + cl * 1048576 + lb
def hd6B (cl lb len nx hp : Nat) (s d : Ad) : List Nat := [] ++ be (hd6F cl lb) 4 ++ be len 2 ++ be nx 1 ++ be hp 1 ++ adB s ++ adB d
theorem adN_six {a : Ad} (h : a.six = true) : adN a = 16 := by unfold adN; rw [h]; rfl
theorem hd6B_len {cl lb len nx hp : Nat} {s d : Ad} (hs : s.six = true) (hd : d.six = true) : (hd6B cl lb len nx hp s d).length = 40 := by
  simp [hd6B, be_length, adB_len, adN_six hs, adN_six hd]
theorem hd6B_bytes (cl lb len nx hp : Nat) (s d : Ad) : Bytes (hd6B cl lb len nx hp s d) := by
  unfold hd6B
  repeat' (first | exact Bytes.nil | exact be_bytes _ _ | exact adB_bytes _ | apply Bytes.append)
theorem hd6F_or {cl lb : Nat} (h1 : cl < 256) (h2 : lb ≤ 1048575) : (1610612736 ||| cl * 2 ^ 20) ||| lb = hd6F cl lb := by
  have e1 : 2 ^ 28 * 6 + cl * 2 ^ 20 = 2 ^ 28 * 6 ||| cl * 2 ^ 20 := Nat.two_pow_add_eq_or_of_lt (i := 28) (b := cl * 2 ^ 20) (by omega) 6
  have e2 : 2 ^ 20 * (1536 + cl) + lb = 2 ^ 20 * (1536 + cl) ||| lb := Nat.two_pow_add_eq_or_of_lt (i := 20) (b := lb) (by omega) (1536 + cl)
  have e3 : 1610612736 ||| cl * 2 ^ 20 = 2 ^ 20 * (1536 + cl) := by
    rw [show (1610612736 : Nat) = 2 ^ 28 * 6 by omega, ← e1]; omega
  rw [e3, ← e2]; unfold hd6F; omega
theorem hd6E_or {cl : Nat} (h1 : cl < 256) : 1610612736 ||| cl * 2 ^ 20 = 1610612736 + cl * 1048576 := by
  have h := hd6F_or (lb := 0) h1 (by omega)
  unfold hd6F at h
  rw [Nat.or_zero] at h
  omega
set_option maxRecDepth 100000 in
set_option maxHeartbeats 8000000 in
theorem ip6_bytes_c (cl lb len nx hp : Nat) (s d : Ad) (w0 : World) (q1 : cl < 256) (q4 : nx < 256) (q5 : hp < 256) (hls : adLim s) (hld : adLim d) (hr : hd6Right lb (len : Int) s d) :
    Calls Try.prog 142 #[.agg (hd6V cl lb (len : Int) nx hp s d).toArray] w0 fun e w' => ∃ A' n c', n = 40 ∧ e = .returned (.slice A' n c') ∧ New w0 w' (.row (.slice A' n c') 5 1 n ((hd6B cl lb len nx hp s d).map u8v)) ∧ Kp [] w0 w' := by
  have hS := St.sv w0
  have hr' := hr
  obtain ⟨r1, r2, r3, r4, r5⟩ := hr'
  have hns := adN_six r4
  have hnd := adN_six r5
  have hsl : (adB s).length = 16 := by rw [adB_len, hns]
  have hdl : (adB d).length = 16 := by rw [adB_len, hnd]
  have hF := hd6F_or q1 r1
  have hE := hd6E_or q1
  have hFb : hd6F cl lb ≤ 4294967295 := by unfold hd6F; omega
  refine ent (n := 42) Try.func142 rfl rfl ?_
  refine wp_seq_k ?_; intro K1 hK1
  refine wlit ?_
  refine wl_e rfl ?_; intro K hK
  refine ow_box hS (tmA rfl rfl) rfl ?_
  clear hS; intro g0_0 w hg0_0 hS
  refine hK _ _ ?_; clear hK K
  refine wl_v (x_assign ev_c) ?_
  refine wl_nil ?_
  refine then_n (hK1 _ _ ?_); clear hK1 K1
  refine wp_seq_k ?_; intro K2 hK2
  refine wp_seq_k ?_; intro K3 hK3
  refine wlit ?_
  refine wl_v (x_loadA (cs := [_, _, _, _, _, _, _, _, _, _, _]) Try.underlying152 rfl ts_152 (tmP rfl rfl) (rangeB hS.ok 0 rfl rfl)) ?_
  refine wl_e rfl ?_; intro K hK
  refine ow_call Try.func141 rfl rfl (evs_cons (tmA rfl rfl) <| evs_nil) (ip6_right_c _ _ _ _ _ _ _ _) ?_
  rintro e w ⟨rfl, hk⟩
  refine ⟨_, rfl, ?_⟩
  replace hS := hS.kept hk
  clear hk
  refine hK _ _ ?_; clear hK K
  refine wl_v (x_not (tmB rfl rfl)) ?_
  refine wl_nil ?_
  refine then_n (hK3 _ _ ?_); clear hK3 K3
  refine cnd (tm rfl) (fun hc0 => ?_) (fun hc0 => ?_)
  · exfalso
    simp at hc0
    exact hc0 hr
  try (exfalso; first | with_reducible exact absurd hc0 Bool.false_ne_true | with_reducible exact absurd hc0.symm Bool.false_ne_true | (simp only [nrm] at hc0; omega) | (simp at hc0; done))
  all_goals
   try simp only [nrm] at hc0
   refine wp_skip ?_
   refine then_n (hK2 _ _ ?_); clear hK2 K2
   refine wp_seq_k ?_; intro K4 hK4
   refine wlit ?_
   refine wl_v (x_fa 0 Try.underlying152 rfl rfl ts_5 (tmP rfl rfl)) ?_
   first
    | refine wl_v (x_load Try.underlying5 rfl (tmP rfl rfl) (cellB hS.ok 0 rfl rfl)) ?_
    | refine wl_v (x_load Try.underlying5 rfl (tmP rfl rfl) (cellB hS.ok 0 rfl (getm (by omega)))) ?_
   first
    | refine wl_v (x_convN Try.underlying5 Try.underlying24 (tmI rfl rfl) (fit_u64 (by omega))) ?_
    | refine wl_v (x_convU Try.underlying5 Try.underlying24 (tmI rfl rfl) rfl) ?_
    | refine wl_v (x_conv Try.underlying5 Try.underlying24 (tmI rfl rfl)) ?_
   first
    | refine wl_v (x_shlN (tmI rfl rfl) (ev_cN 20) (by decide) (fit_u64 (by omega))) ?_
    | refine wl_v (x_shlN (tmI rfl rfl) (ev_cN 20) (by have : IntKind.bits .u64 = 64 := rfl; omega) (fit_u64 (by omega))) ?_
    | refine wl_v (x_shlU (tmI rfl rfl) (ev_cN 20) rfl) ?_
   refine wl_v (x_orN (ev_cN 1610612736) (tmI rfl rfl) (fit_u64 (by omega)) (fit_u64 (by omega))) ?_
   refine wl_v (x_fa 1 Try.underlying152 rfl rfl ts_49 (tmP rfl rfl)) ?_
   first
    | refine wl_v (x_load Try.underlying49 rfl (tmP rfl rfl) (cellB hS.ok 0 rfl rfl)) ?_
    | refine wl_v (x_load Try.underlying49 rfl (tmP rfl rfl) (cellB hS.ok 0 rfl (getm (by omega)))) ?_
   first
    | refine wl_v (x_convN Try.underlying49 Try.underlying24 (tmI rfl rfl) (fit_u64 (by omega))) ?_
    | refine wl_v (x_convU Try.underlying49 Try.underlying24 (tmI rfl rfl) rfl) ?_
    | refine wl_v (x_conv Try.underlying49 Try.underlying24 (tmI rfl rfl)) ?_
   refine wl_v (x_orN (tmI rfl rfl) (tmI rfl rfl) (fit_u64 (by omega)) (fit_u64 (by omega))) ?_
   refine wl_e rfl ?_; intro K hK
   refine ow_call Try.func105 rfl rfl (evs_cons ev_c <| evs_cons (tmI rfl rfl) <| evs_cons (ev_cN 4) <| evs_nil) (put_c 0 none 0 [] _ 4 _ View.nil_ rfl (by omega) (by omega) (by omega)) ?_
   rintro e w ⟨g1, rfl, hn, hk⟩
   refine ⟨_, rfl, ?_⟩
   rw [hF] at hn
   replace hS := hS.add hk hn -- +rowb
   clear hn hk
   refine hK _ _ ?_; clear hK K
   refine wl_v (x_assign (tmS rfl rfl)) ?_
   refine wl_nil ?_
   refine then_n (hK4 _ _ ?_); clear hK4 K4
   refine wp_seq_k ?_; intro K5 hK5
   refine wlit ?_
   refine wl_v (x_move (tmS rfl rfl)) ?_
   refine wl_v (x_fa 2 Try.underlying152 rfl rfl ts_3 (tmP rfl rfl)) ?_
   first
    | refine wl_v (x_load Try.underlying3 rfl (tmP rfl rfl) (cellB hS.ok 1 rfl rfl)) ?_
    | refine wl_v (x_load Try.underlying3 rfl (tmP rfl rfl) (cellB hS.ok 1 rfl (getm (by omega)))) ?_
   first
    | refine wl_v (x_convN Try.underlying3 Try.underlying24 (tmI rfl rfl) (fit_u64 (by omega))) ?_
    | refine wl_v (x_convU Try.underlying3 Try.underlying24 (tmI rfl rfl) rfl) ?_
    | refine wl_v (x_conv Try.underlying3 Try.underlying24 (tmI rfl rfl)) ?_
   refine wl_e rfl ?_; intro K hK
   refine ow_call Try.func105 rfl rfl (evs_cons (tmS rfl rfl) <| evs_cons (tmI rfl rfl) <| evs_cons (ev_cN 2) <| evs_nil) (put_c _ _ _ _ _ _ _ (viewR hS.ok 0 rfl) (by simp [be_length]) (by omega) (by omega) (by omega)) ?_
   rintro e w ⟨g2, rfl, hn, hk⟩
   refine ⟨_, rfl, ?_⟩
   replace hS := (hS.add hk hn).pick [0, 2] rfl rfl --ents rowb,g0_0
   clear hn hk
   try replace hS := St.nm (M' := [.row _ _ _ _ _, .blk _ _ [_, _, _, _, _, _, _, _, _, _, _]]) hS rfl
   refine hK _ _ ?_; clear hK K
   refine wl_v (x_assign (tmS rfl rfl)) ?_
   refine wl_nil ?_
   refine then_n (hK5 _ _ ?_); clear hK5 K5
   refine wp_seq_k ?_; intro K6 hK6
   refine wlit ?_
   refine wl_v (x_move (tmS rfl rfl)) ?_
   refine wl_v (x_fa 3 Try.underlying152 rfl rfl ts_5 (tmP rfl rfl)) ?_
   first
    | refine wl_v (x_load Try.underlying5 rfl (tmP rfl rfl) (cellB hS.ok 1 rfl rfl)) ?_
    | refine wl_v (x_load Try.underlying5 rfl (tmP rfl rfl) (cellB hS.ok 1 rfl (getm (by omega)))) ?_
   first
    | refine wl_v (x_convN Try.underlying5 Try.underlying24 (tmI rfl rfl) (fit_u64 (by omega))) ?_
    | refine wl_v (x_convU Try.underlying5 Try.underlying24 (tmI rfl rfl) rfl) ?_
    | refine wl_v (x_conv Try.underlying5 Try.underlying24 (tmI rfl rfl)) ?_
   refine wl_e rfl ?_; intro K hK
   refine ow_call Try.func105 rfl rfl (evs_cons (tmS rfl rfl) <| evs_cons (tmI rfl rfl) <| evs_cons (ev_cN 1) <| evs_nil) (put_c _ _ _ _ _ _ _ (viewR hS.ok 0 rfl) (by simp [be_length]) (by omega) (by omega) (by omega)) ?_
   rintro e w ⟨g2, rfl, hn, hk⟩
   refine ⟨_, rfl, ?_⟩
   replace hS := (hS.add hk hn).pick [0, 2] rfl rfl --ents rowb,g0_0
   clear hn hk
   try replace hS := St.nm (M' := [.row _ _ _ _ _, .blk _ _ [_, _, _, _, _, _, _, _, _, _, _]]) hS rfl
   refine hK _ _ ?_; clear hK K
   refine wl_v (x_assign (tmS rfl rfl)) ?_
   refine wl_nil ?_
   refine then_n (hK6 _ _ ?_); clear hK6 K6
   refine wp_seq_k ?_; intro K7 hK7
   refine wlit ?_
   refine wl_v (x_move (tmS rfl rfl)) ?_
   refine wl_v (x_fa 4 Try.underlying152 rfl rfl ts_5 (tmP rfl rfl)) ?_
   first
    | refine wl_v (x_load Try.underlying5 rfl (tmP rfl rfl) (cellB hS.ok 1 rfl rfl)) ?_
    | refine wl_v (x_load Try.underlying5 rfl (tmP rfl rfl) (cellB hS.ok 1 rfl (getm (by omega)))) ?_
   first
    | refine wl_v (x_convN Try.underlying5 Try.underlying24 (tmI rfl rfl) (fit_u64 (by omega))) ?_
    | refine wl_v (x_convU Try.underlying5 Try.underlying24 (tmI rfl rfl) rfl) ?_
    | refine wl_v (x_conv Try.underlying5 Try.underlying24 (tmI rfl rfl)) ?_
   refine wl_e rfl ?_; intro K hK
   refine ow_call Try.func105 rfl rfl (evs_cons (tmS rfl rfl) <| evs_cons (tmI rfl rfl) <| evs_cons (ev_cN 1) <| evs_nil) (put_c _ _ _ _ _ _ _ (viewR hS.ok 0 rfl) (by simp [be_length]) (by omega) (by omega) (by omega)) ?_
   rintro e w ⟨g2, rfl, hn, hk⟩
   refine ⟨_, rfl, ?_⟩
   replace hS := (hS.add hk hn).pick [0, 2] rfl rfl --ents rowb,g0_0
   clear hn hk
   try replace hS := St.nm (M' := [.row _ _ _ _ _, .blk _ _ [_, _, _, _, _, _, _, _, _, _, _]]) hS rfl
   refine hK _ _ ?_; clear hK K
   refine wl_v (x_assign (tmS rfl rfl)) ?_
   refine wl_nil ?_
   refine then_n (hK7 _ _ ?_); clear hK7 K7
   refine wp_seq_k ?_; intro K8 hK8
   refine wlit ?_
   refine wl_v (x_move (tmS rfl rfl)) ?_
   refine wl_v (x_fa 5 Try.underlying152 rfl rfl ts_26 (tmP rfl rfl)) ?_
   refine wl_v (x_loadA (cs := [_, _, _]) Try.underlying26 rfl ts_26 (tmP rfl rfl) (rangeB hS.ok 1 rfl rfl)) ?_
   refine wl_e rfl ?_; intro K hK
   refine ow_call Try.func150 rfl rfl (evs_cons (tmA rfl rfl) <| evs_nil) (ad_bytes_c _ _ hls) ?_
   rintro e w ⟨A', n', c', hn', rfl, hn, hk⟩
   refine ⟨_, rfl, ?_⟩
   obtain rfl : n' = 16 := hn'.trans hns
   replace hS := ((hS.add hk hn).freeze 0 rfl).pick [1, 0, 2] rfl rfl --ents rowb,va,g0_0
   clear hn hk
   try replace hS := St.nm (M' := [.row _ _ _ _ _, .vw _ _, .blk _ _ [_, _, _, _, _, _, _, _, _, _, _]]) hS rfl
   refine hK _ _ ?_; clear hK K
   refine wl_e rfl ?_; intro K hK
   first
    | (refine ow_append hS 0 1 rfl rfl Try.underlying22 tz_5 rfl (tmS rfl rfl) (tmS rfl rfl) rfl ⟨by decide, by decide, rfl⟩ (by simp only [maxLen]; omega) (by omega) ?_; clear hS; intro g7_4 cg7_4 w hS)
    | (refine ow_append hS 0 2 rfl rfl Try.underlying22 tz_5 rfl (tmS rfl rfl) (tmS rfl rfl) rfl ⟨by decide, by decide, rfl⟩ (by simp only [maxLen]; omega) (by omega) ?_; clear hS; intro g7_4 cg7_4 w hS)
    | (refine ow_appendV hS 0 rfl (viewR hS.ok 0 rfl) Try.underlying22 tz_5 rfl (tmS rfl rfl) (tmS rfl rfl) (by first | exact u8v_one _ | (intro u hu; simp at hu; first | (rcases hu with rfl | rfl <;> rfl) | (obtain ⟨_, _, rfl⟩ := hu; rfl))) ⟨by decide, by first | rfl | (simp; done) | (simp; omega)⟩ (by simp only [maxLen]; omega) (by omega) ?_; clear hS; intro g7_4 cg7_4 w hAg7_4 hCg7_4 hS)
    | (refine ow_appendV hS 0 rfl (viewV hS.ok 1 rfl) Try.underlying22 tz_5 rfl (tmS rfl rfl) (tmS rfl rfl) (by first | exact u8v_one _ | (intro u hu; simp at hu; first | (rcases hu with rfl | rfl <;> rfl) | (obtain ⟨_, _, rfl⟩ := hu; rfl))) ⟨by decide, by first | rfl | (simp; done) | (simp; omega)⟩ (by simp only [maxLen]; omega) (by omega) ?_; clear hS; intro g7_4 cg7_4 w hAg7_4 hCg7_4 hS)
    | (refine ow_appendV hS 0 rfl View.nil_ Try.underlying22 tz_5 rfl (tmS rfl rfl) (tmS rfl rfl) (by first | exact u8v_one _ | (intro u hu; simp at hu; first | (rcases hu with rfl | rfl <;> rfl) | (obtain ⟨_, _, rfl⟩ := hu; rfl))) ⟨by decide, by first | rfl | (simp; done) | (simp; omega)⟩ (by simp only [maxLen]; omega) (by omega) ?_; clear hS; intro g7_4 cg7_4 w hAg7_4 hCg7_4 hS)
   refine hK _ _ ?_; clear hK K
   refine wl_v (x_assign (tmS rfl rfl)) ?_
   refine wl_nil ?_
   rw [← List.map_append] at hS
   replace hS := hS.pick [0, 2] rfl rfl
   try replace hS := St.nm (M' := [.row _ _ _ _ _, .blk _ _ [_, _, _, _, _, _, _, _, _, _, _]]) hS rfl
   refine then_n (hK8 _ _ ?_); clear hK8 K8
   refine wp_seq_k ?_; intro K9 hK9
   refine wlit ?_
   refine wl_v (x_move (tmS rfl rfl)) ?_
   refine wl_v (x_fa 8 Try.underlying152 rfl rfl ts_26 (tmP rfl rfl)) ?_
   refine wl_v (x_loadA (cs := [_, _, _]) Try.underlying26 rfl ts_26 (tmP rfl rfl) (rangeB hS.ok 1 rfl rfl)) ?_
   refine wl_e rfl ?_; intro K hK
   refine ow_call Try.func150 rfl rfl (evs_cons (tmA rfl rfl) <| evs_nil) (ad_bytes_c _ _ hld) ?_
   rintro e w ⟨A', n', c', hn', rfl, hn, hk⟩
   refine ⟨_, rfl, ?_⟩
   obtain rfl : n' = 16 := hn'.trans hnd
   replace hS := ((hS.add hk hn).freeze 0 rfl).pick [1, 0, 2] rfl rfl --ents rowb,va,g0_0
   clear hn hk
   try replace hS := St.nm (M' := [.row _ _ _ _ _, .vw _ _, .blk _ _ [_, _, _, _, _, _, _, _, _, _, _]]) hS rfl
   refine hK _ _ ?_; clear hK K
   refine wl_e rfl ?_; intro K hK
   first
    | (refine ow_append hS 0 1 rfl rfl Try.underlying22 tz_5 rfl (tmS rfl rfl) (tmS rfl rfl) rfl ⟨by decide, by decide, rfl⟩ (by simp only [maxLen]; omega) (by omega) ?_; clear hS; intro g8_4 cg8_4 w hS)
    | (refine ow_append hS 0 2 rfl rfl Try.underlying22 tz_5 rfl (tmS rfl rfl) (tmS rfl rfl) rfl ⟨by decide, by decide, rfl⟩ (by simp only [maxLen]; omega) (by omega) ?_; clear hS; intro g8_4 cg8_4 w hS)
    | (refine ow_appendV hS 0 rfl (viewR hS.ok 0 rfl) Try.underlying22 tz_5 rfl (tmS rfl rfl) (tmS rfl rfl) (by first | exact u8v_one _ | (intro u hu; simp at hu; first | (rcases hu with rfl | rfl <;> rfl) | (obtain ⟨_, _, rfl⟩ := hu; rfl))) ⟨by decide, by first | rfl | (simp; done) | (simp; omega)⟩ (by simp only [maxLen]; omega) (by omega) ?_; clear hS; intro g8_4 cg8_4 w hAg8_4 hCg8_4 hS)
    | (refine ow_appendV hS 0 rfl (viewV hS.ok 1 rfl) Try.underlying22 tz_5 rfl (tmS rfl rfl) (tmS rfl rfl) (by first | exact u8v_one _ | (intro u hu; simp at hu; first | (rcases hu with rfl | rfl <;> rfl) | (obtain ⟨_, _, rfl⟩ := hu; rfl))) ⟨by decide, by first | rfl | (simp; done) | (simp; omega)⟩ (by simp only [maxLen]; omega) (by omega) ?_; clear hS; intro g8_4 cg8_4 w hAg8_4 hCg8_4 hS)
    | (refine ow_appendV hS 0 rfl View.nil_ Try.underlying22 tz_5 rfl (tmS rfl rfl) (tmS rfl rfl) (by first | exact u8v_one _ | (intro u hu; simp at hu; first | (rcases hu with rfl | rfl <;> rfl) | (obtain ⟨_, _, rfl⟩ := hu; rfl))) ⟨by decide, by first | rfl | (simp; done) | (simp; omega)⟩ (by simp only [maxLen]; omega) (by omega) ?_; clear hS; intro g8_4 cg8_4 w hAg8_4 hCg8_4 hS)
   refine hK _ _ ?_; clear hK K
   refine wl_v (x_assign (tmS rfl rfl)) ?_
   refine wl_nil ?_
   rw [← List.map_append] at hS
   refine then_n (hK9 _ _ ?_); clear hK9 K9
   refine wp_ret ?_
   refine ret1 rfl (.tmp rfl (show _ = Value.slice _ _ _ from rfl)) ?_
   exact ⟨_, _, _, by omega, rfl, hS.new 0 rfl rfl, hS.kp⟩

end Go.Proofs.Ytilgolflpdpfnaa
