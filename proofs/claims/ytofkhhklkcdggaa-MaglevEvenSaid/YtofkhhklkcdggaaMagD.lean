
/- Tables by contract, over all their cases. Conditions: none but bounds. -/
import Derived.Test.YtofkhhklkcdggaaMagC
namespace Go.Proofs.Ytofkhhklkcdggaa
open Go.RowKit
def V42 (z : Int) (l : List Int) : Prop := z ≤ 2048 ∧ isP z.toNat ∧ okM l ∧ 1 ≤ l.length ∧ (l.length : Int) ≤ z
open Classical in
noncomputable def tabZ (k : Nat → Nat) (z : Int) (l : List Int) : List Int := if V42 z l then tabN k l z.toNat z.toNat else []
theorem tabZ_yes {k : Nat → Nat} {z : Int} {l : List Int} (h : V42 z l) : tabZ k z l = tabN k l z.toNat z.toNat := if_pos h
theorem tabZ_no {k : Nat → Nat} {z : Int} {l : List Int} (h : ¬ V42 z l) : tabZ k z l = [] := if_neg h
theorem tabZ_len {k : Nat → Nat} {z : Int} {l : List Int} (h : V42 z l) : (tabZ k z l).length = z.toNat := by rw [tabZ_yes h, tab_len]
theorem tabZ_le (k : Nat → Nat) (z : Int) (l : List Int) : (tabZ k z l).length ≤ 2048 := by
  by_cases h : V42 z l
  · rw [tabZ_len h]; have := h.1; omega
  · rw [tabZ_no h]; simp
theorem mbuild_z (k : Nat → Nat) (z : Int) (A : Option Addr) (c : Nat) (l : List Int) (w0 : World) (hkb : Bytes (kL k)) (hv : View w0 w0.heap.size A (l.map i64v)) (hq : l.length ≤ 70) (hz : -9223372036854775808 ≤ z ∧ z ≤ 9223372036854775807) :
    Calls Try.prog 6 #[.agg (kC k).toArray, .int .i64 z, .slice A l.length c] w0 fun e w' => ∃ G E, e = .returned (.tuple #[.agg #[.slice G (tabZ k z l).length (tabZ k z l).length], .int .i64 ((E : Nat) : Int)]) ∧ ((V42 z l ∧ E = 0) ∨ (¬ V42 z l ∧ E = 1)) ∧ NewV w0 w' G ((tabZ k z l).map i64v) ∧ Kp [] w0 w' := by
  by_cases h : V42 z l
  · obtain ⟨h1, h2, h3, h4, h5⟩ := h
    obtain ⟨n, rfl⟩ := Int.eq_ofNat_of_zero_le (a := z) (by omega)
    rw [tabZ_len ⟨h1, h2, h3, h4, h5⟩, tabZ_yes ⟨h1, h2, h3, h4, h5⟩, Int.toNat_natCast] 
    rw [Int.toNat_natCast] at h2
    refine Calls.mono (mbuild_c k n A l.length c l w0 hkb hv rfl hq h2 (by omega) h3 h4 (by omega)) ?_
    rintro e w' ⟨g, rfl, hn, hk⟩
    exact ⟨some ⟨g, 0, none⟩, 0, rfl, .inl ⟨⟨h1, by rw [Int.toNat_natCast]; exact h2, h3, h4, h5⟩, rfl⟩, hn.view, hk⟩
  · rw [tabZ_no h]
    refine Calls.mono (mbuild_bad k z A l.length c l w0 hv rfl hq hz h) ?_
    rintro e w' ⟨rfl, hk⟩
    exact ⟨none, 1, rfl, .inr ⟨h, rfl⟩, NewV.nil_ _ _ _, hk⟩
set_option maxRecDepth 100000 in
set_option maxHeartbeats 4000000 in
theorem rright_big (A : Option Addr) (q c : Nat) (z : Int) (w0 : World) (hz : z < 2 ∨ 2048 < z) (hz1 : -9223372036854775808 ≤ z) :
    Calls Try.prog 7 #[.int .i64 z, .slice A q c] w0 fun e w' => e = .returned (.bool false) ∧ Kp [] w0 w' := by
  have hS := St.sv w0
  refine ent (n := 57) Try.func7 rfl rfl ?_
  refine wp_seq_k ?_; intro K1 hK1
  refine wlit ?_
  refine wl_v (x_assign ev_c) ?_
  refine wl_nil ?_
  refine then_n (hK1 _ _ ?_); clear hK1 K1
  refine wp_seq_k ?_; intro K2 hK2
  refine wp_seq_k ?_; intro K3 hK3
  refine wlit ?_
  refine wl_v (x_move (tmI rfl rfl)) ?_
  refine wl_v (x_gtr (tmI rfl rfl) (ev_cN 2048)) ?_
  refine wl_v (x_move (tmB rfl rfl)) ?_
  refine gs_wl (tm (t := 9) rfl) (fun hg1_2 => ?_) (fun hg1_2 => ?_)
  · have hg1_2' := hg1_2; (try simp only [nrm] at hg1_2'); try (exfalso; first | with_reducible exact absurd hg1_2 Bool.false_ne_true | with_reducible exact absurd hg1_2.symm Bool.false_ne_true | omega | (simp at hg1_2; done))
    all_goals
     refine wl_s rfl (want_n rfl rfl rfl rfl (by rw [hg1_2]; rfl)) ?_
     refine wl_s rfl (want_n rfl rfl rfl rfl (by rw [hg1_2]; rfl)) ?_
     refine wl_s rfl (want_n rfl rfl rfl rfl (by rw [hg1_2]; rfl)) ?_
     refine wl_v (x_pickT (tmB rfl rfl) hg1_2 ev_c) ?_
     refine wl_v (x_move (tmB rfl rfl)) ?_
     refine wl_s rfl (want_n rfl rfl rfl rfl rfl) ?_
     refine wl_s rfl (want_n rfl rfl rfl rfl rfl) ?_
     refine wl_s rfl (want_n rfl rfl rfl rfl rfl) ?_
     refine wl_v (x_pickT (tmB rfl rfl) rfl ev_c) ?_
     refine wl_v (x_move (tmB rfl rfl)) ?_
     refine wl_s rfl (want_n rfl rfl rfl rfl rfl) ?_
     refine wl_s rfl (want_n rfl rfl rfl rfl rfl) ?_
     refine wl_s rfl (want_n rfl rfl rfl rfl rfl) ?_
     refine wl_s rfl (want_n rfl rfl rfl rfl rfl) ?_
     refine wl_v (x_pickT (tmB rfl rfl) rfl ev_c) ?_
     refine wl_nil ?_
     refine then_n (hK3 _ _ ?_); clear hK3 K3
     refine cnd_t (tmB rfl rfl) rfl ?_
     refine wp_seq_k ?_; intro K4 hK4
     refine wlit ?_
     refine wl_v (x_assign ev_c) ?_
     refine wl_nil ?_
     refine then_n (hK4 _ _ ?_); clear hK4 K4
     refine wp_ret ?_
     refine then_r ?_
     refine ret1 rfl (.tmp rfl (show _ = Value.bool _ from rfl)) ?_
     exact ⟨rfl, hS.kp⟩
  have hg1_2' := hg1_2; (try simp only [nrm] at hg1_2'); try (exfalso; first | with_reducible exact absurd hg1_2 Bool.false_ne_true | with_reducible exact absurd hg1_2.symm Bool.false_ne_true | omega | (simp at hg1_2; done))
  all_goals
   refine wl_gv (want_y rfl rfl rfl rfl (by rw [hg1_2]; rfl)) (x_move (tmI rfl rfl)) ?_
   refine wl_g (want_y rfl rfl rfl rfl (by rw [hg1_2]; rfl)) ?_; intro K hK
   refine ow_call Try.func18 rfl rfl (evs_cons (tmI rfl rfl) <| evs_nil) (rprime_low z _ (by omega) hz1) ?_
   rintro e w ⟨rfl, hk⟩
   refine ⟨_, rfl, ?_⟩
   replace hS := hS.kept hk
   clear hk
   refine hK _ _ ?_; clear hK K
   refine wl_gv (want_y rfl rfl rfl rfl (by rw [hg1_2]; rfl)) (x_not (tmB rfl rfl)) ?_
   refine wl_v (x_pickF (tmB rfl rfl) hg1_2 (tmB rfl rfl)) ?_
   refine wl_v (x_move (tmB rfl rfl)) ?_
   refine gs_wl (tm (t := 14) rfl) (fun hg1_7 => ?_) (fun hg1_7 => ?_)
   · have hg1_7' := hg1_7; (try simp only [nrm] at hg1_7'); try (exfalso; first | with_reducible exact absurd hg1_7 Bool.false_ne_true | with_reducible exact absurd hg1_7.symm Bool.false_ne_true | omega | (simp at hg1_7; done))
     all_goals
      refine wl_s rfl (want_n rfl rfl rfl rfl (by rw [hg1_7]; rfl)) ?_
      refine wl_s rfl (want_n rfl rfl rfl rfl (by rw [hg1_7]; rfl)) ?_
      refine wl_s rfl (want_n rfl rfl rfl rfl (by rw [hg1_7]; rfl)) ?_
      refine wl_v (x_pickT (tmB rfl rfl) hg1_7 ev_c) ?_
      refine wl_v (x_move (tmB rfl rfl)) ?_
      refine wl_s rfl (want_n rfl rfl rfl rfl rfl) ?_
      refine wl_s rfl (want_n rfl rfl rfl rfl rfl) ?_
      refine wl_s rfl (want_n rfl rfl rfl rfl rfl) ?_
      refine wl_s rfl (want_n rfl rfl rfl rfl rfl) ?_
      refine wl_v (x_pickT (tmB rfl rfl) rfl ev_c) ?_
      refine wl_nil ?_
      refine then_n (hK3 _ _ ?_); clear hK3 K3
      refine cnd_t (tmB rfl rfl) rfl ?_
      refine wp_seq_k ?_; intro K5 hK5
      refine wlit ?_
      refine wl_v (x_assign ev_c) ?_
      refine wl_nil ?_
      refine then_n (hK5 _ _ ?_); clear hK5 K5
      refine wp_ret ?_
      refine then_r ?_
      refine ret1 rfl (.tmp rfl (show _ = Value.bool _ from rfl)) ?_
      exact ⟨rfl, hS.kp⟩
   have hg1_7' := hg1_7; (try simp only [nrm] at hg1_7'); try (exfalso; first | with_reducible exact absurd hg1_7 Bool.false_ne_true | with_reducible exact absurd hg1_7.symm Bool.false_ne_true | omega | (simp at hg1_7; done))
   all_goals
    refine wl_gv (want_y rfl rfl rfl rfl (by rw [hg1_7]; rfl)) (x_move (tmS rfl rfl)) ?_
    refine wl_gv (want_y rfl rfl rfl rfl (by rw [hg1_7]; rfl)) (x_len Try.underlying23 (tmS rfl rfl)) ?_
    refine wl_gv (want_y rfl rfl rfl rfl (by rw [hg1_7]; rfl)) (x_eql (tmI rfl rfl) (ev_cN 0)) ?_
    refine wl_v (x_pickF (tmB rfl rfl) hg1_7 (tmB rfl rfl)) ?_
    refine wl_v (x_move (tmB rfl rfl)) ?_
    refine gs_wl (tm (t := 19) rfl) (fun hg1_12 => ?_) (fun hg1_12 => ?_)
    · have hg1_12' := hg1_12; (try simp only [nrm] at hg1_12'); try (exfalso; first | with_reducible exact absurd hg1_12 Bool.false_ne_true | with_reducible exact absurd hg1_12.symm Bool.false_ne_true | omega | (simp at hg1_12; done))
      all_goals
       refine wl_s rfl (want_n rfl rfl rfl rfl (by rw [hg1_12]; rfl)) ?_
       refine wl_s rfl (want_n rfl rfl rfl rfl (by rw [hg1_12]; rfl)) ?_
       refine wl_s rfl (want_n rfl rfl rfl rfl (by rw [hg1_12]; rfl)) ?_
       refine wl_s rfl (want_n rfl rfl rfl rfl (by rw [hg1_12]; rfl)) ?_
       refine wl_v (x_pickT (tmB rfl rfl) hg1_12 ev_c) ?_
       refine wl_nil ?_
       refine then_n (hK3 _ _ ?_); clear hK3 K3
       refine cnd_t (tmB rfl rfl) rfl ?_
       refine wp_seq_k ?_; intro K6 hK6
       refine wlit ?_
       refine wl_v (x_assign ev_c) ?_
       refine wl_nil ?_
       refine then_n (hK6 _ _ ?_); clear hK6 K6
       refine wp_ret ?_
       refine then_r ?_
       refine ret1 rfl (.tmp rfl (show _ = Value.bool _ from rfl)) ?_
       exact ⟨rfl, hS.kp⟩
    have hg1_12' := hg1_12; (try simp only [nrm] at hg1_12'); try (exfalso; first | with_reducible exact absurd hg1_12 Bool.false_ne_true | with_reducible exact absurd hg1_12.symm Bool.false_ne_true | omega | (simp at hg1_12; done))
    all_goals
     refine wl_gv (want_y rfl rfl rfl rfl (by rw [hg1_12]; rfl)) (x_move (tmS rfl rfl)) ?_
     refine wl_gv (want_y rfl rfl rfl rfl (by rw [hg1_12]; rfl)) (x_len Try.underlying23 (tmS rfl rfl)) ?_
     refine wl_gv (want_y rfl rfl rfl rfl (by rw [hg1_12]; rfl)) (x_move (tmI rfl rfl)) ?_
     refine wl_gv (want_y rfl rfl rfl rfl (by rw [hg1_12]; rfl)) (x_gtr (tmI rfl rfl) (tmI rfl rfl)) ?_
     refine wl_v (x_pickF (tmB rfl rfl) hg1_12 (tmB rfl rfl)) ?_
     refine wl_nil ?_
     refine then_n (hK3 _ _ ?_); clear hK3 K3
     refine cnds (tm rfl) (fun hc0 => ?_) (fun hc0 => ?_)
     · exfalso
       simp_all
     try (exfalso; first | with_reducible exact absurd hc0 Bool.false_ne_true | with_reducible exact absurd hc0.symm Bool.false_ne_true | (simp only [nrm] at hc0; omega) | (simp at hc0; done))
     all_goals
      try simp only [nrm] at hc0
      refine wp_seq_k ?_; intro K7 hK7
      refine wlit ?_
      refine wl_v (x_assign ev_c) ?_
      refine wl_nil ?_
      refine then_n (hK7 _ _ ?_); clear hK7 K7
      refine wp_ret ?_
      refine then_r ?_
      refine ret1 rfl (.tmp rfl (show _ = Value.bool _ from rfl)) ?_
      exact ⟨rfl, hS.kp⟩
theorem rright_z (A : Option Addr) (c : Nat) (l : List Int) (z : Int) (w0 : World) (hv : View w0 w0.heap.size A (l.map i64v)) (hq : l.length ≤ 70) (hz1 : -9223372036854775808 ≤ z) :
    Calls Try.prog 7 #[.int .i64 z, .slice A l.length c] w0 fun e w' => ∃ b, e = .returned (.bool b) ∧ (b = true ↔ V42 z l) ∧ Kp [] w0 w' := by
  by_cases h : z < 2 ∨ 2048 < z
  · refine Calls.mono (rright_big A l.length c z w0 h hz1) ?_
    rintro e w' ⟨rfl, hk⟩
    refine ⟨false, rfl, ⟨fun h1 => absurd h1 Bool.false_ne_true, fun h1 => ?_⟩, hk⟩
    obtain ⟨h2, h3, -⟩ := h1
    have := h3.1
    omega
  · obtain ⟨n, rfl⟩ := Int.eq_ofNat_of_zero_le (a := z) (by omega)
    refine Calls.mono (rright_c A l.length c l n w0 hv rfl hq (by omega) (by omega)) ?_
    rintro e w' ⟨b, rfl, hb, hk⟩
    refine ⟨b, rfl, ?_, hk⟩
    rw [hb]
    unfold V42
    rw [Int.toNat_natCast]
    constructor
    · rintro ⟨h1, h2, h3, h4⟩; exact ⟨by omega, h1, h2, h3, by omega⟩
    · rintro ⟨h1, h2, h3, h4, h5⟩; exact ⟨h2, h3, h4, by omega⟩
def atI (t : List Int) (i : Int) : Int := if 0 ≤ i ∧ i < (t.length : Int) then t.getD i.toNat 0 else 0
theorem atI_nat {t : List Int} {i : Nat} (h : i < t.length) : atI t (i : Int) = t.getD i 0 := by unfold atI; rw [if_pos (by omega), Int.toNat_natCast]
theorem atI_out {t : List Int} {i : Int} (h : ¬ (0 ≤ i ∧ i < (t.length : Int))) : atI t i = 0 := if_neg h
set_option maxRecDepth 100000 in
set_option maxHeartbeats 4000000 in
theorem mTlen_c (G : Option Addr) (m c : Nat) (w0 : World) : Calls Try.prog 8 #[.agg #[.slice G m c]] w0 fun e w' => e = .returned (.int .i64 (m : Int)) ∧ Kp [] w0 w' := by
  have hS := St.sv w0
  refine ent (n := 6) Try.func8 rfl rfl ?_
  refine wp_seq_k ?_; intro K1 hK1
  refine wlit ?_
  refine wl_e rfl ?_; intro K hK
  refine ow_box hS (tmA rfl rfl) rfl ?_
  clear hS; intro g0_0 w hg0_0 hS
  refine hK _ _ ?_; clear hK K
  refine wl_v (x_assign (ev_cN 0)) ?_
  refine wl_nil ?_
  refine then_n (hK1 _ _ ?_); clear hK1 K1
  refine wp_seq_k ?_; intro K2 hK2
  refine wlit ?_
  refine wl_v (x_fa 0 Try.underlying27 rfl rfl ts_23 (tmP rfl rfl)) ?_
  first
   | refine wl_v (x_load Try.underlying23 rfl (tmP rfl rfl) (cellB hS.ok 0 rfl rfl)) ?_
   | refine wl_v (x_load Try.underlying23 rfl (tmP rfl rfl) (cellB hS.ok 0 rfl (getm (by omega)))) ?_
  refine wl_v (x_len Try.underlying23 (tmS rfl rfl)) ?_
  refine wl_v (x_assign (tmI rfl rfl)) ?_
  refine wl_nil ?_
  refine then_n (hK2 _ _ ?_); clear hK2 K2
  refine wp_ret ?_
  refine ret1 rfl (.tmp rfl (show _ = Value.int _ _ from rfl)) ?_
  exact ⟨rfl, hS.kp⟩
set_option maxRecDepth 100000 in
set_option maxHeartbeats 4000000 in
theorem mTat_c (G : Option Addr) (c : Nat) (t : List Int) (i : Int) (w0 : World) (hv : View w0 w0.heap.size G (t.map i64v)) : Calls Try.prog 9 #[.agg #[.slice G t.length c], .int .i64 i] w0 fun e w' => e = .returned (.int .i64 (atI t i)) ∧ Kp [] w0 w' := by
  have hS := (St.sv w0).vcons rfl hv
  refine ent (n := 19) Try.func9 rfl rfl ?_
  refine wp_seq_k ?_; intro K1 hK1
  refine wlit ?_
  refine wl_e rfl ?_; intro K hK
  refine ow_box hS (tmA rfl rfl) rfl ?_
  clear hS; intro g0_0 w hg0_0 hS
  refine hK _ _ ?_; clear hK K
  refine wl_v (x_assign (ev_cN 0)) ?_
  refine wl_nil ?_
  refine then_n (hK1 _ _ ?_); clear hK1 K1
  refine wp_seq_k ?_; intro K2 hK2
  refine wp_seq_k ?_; intro K3 hK3
  refine wlit ?_
  refine wl_v (x_move (tmI rfl rfl)) ?_
  refine wl_v (x_lss (tmI rfl rfl) (ev_cN 0)) ?_
  refine wl_v (x_move (tmB rfl rfl)) ?_
  refine gs_wl (tm (t := 7) rfl) (fun hg1_2 => ?_) (fun hg1_2 => ?_)
  · have hg1_2' := hg1_2; (try simp only [nrm] at hg1_2'); try (exfalso; first | with_reducible exact absurd hg1_2 Bool.false_ne_true | with_reducible exact absurd hg1_2.symm Bool.false_ne_true | omega | (simp at hg1_2; done))
    all_goals
     refine wl_s rfl (want_n rfl rfl rfl rfl (by rw [hg1_2]; rfl)) ?_
     refine wl_s rfl (want_n rfl rfl rfl rfl (by rw [hg1_2]; rfl)) ?_
     refine wl_s rfl (want_n rfl rfl rfl rfl (by rw [hg1_2]; rfl)) ?_
     refine wl_s rfl (want_n rfl rfl rfl rfl (by rw [hg1_2]; rfl)) ?_
     refine wl_s rfl (want_n rfl rfl rfl rfl (by rw [hg1_2]; rfl)) ?_
     refine wl_v (x_pickT (tmB rfl rfl) hg1_2 ev_c) ?_
     refine wl_nil ?_
     refine then_n (hK3 _ _ ?_); clear hK3 K3
     refine cnd_t (tmB rfl rfl) rfl ?_
     refine wp_seq_k ?_; intro K4 hK4
     have hout : ¬ (0 ≤ i ∧ i < (t.length : Int)) := by omega
     refine wlit ?_
     refine wl_v (x_assign (ev_cN 0)) ?_
     refine wl_nil ?_
     refine then_n (hK4 _ _ ?_); clear hK4 K4
     refine wp_ret ?_
     refine then_r ?_
     refine ret1 rfl (.tmp rfl (show _ = Value.int _ _ from rfl)) ?_
     first
       | (refine ⟨?_, hS.kp⟩
          rw [atI_out hout]
          first | done | rfl)
       | (refine ⟨?_, hS.kp⟩
          rw [atI_nat hj]
          first | done | rfl)
  have hg1_2' := hg1_2; (try simp only [nrm] at hg1_2'); try (exfalso; first | with_reducible exact absurd hg1_2 Bool.false_ne_true | with_reducible exact absurd hg1_2.symm Bool.false_ne_true | omega | (simp at hg1_2; done))
  all_goals
   refine wl_gv (want_y rfl rfl rfl rfl (by rw [hg1_2]; rfl)) (x_move (tmI rfl rfl)) ?_
   refine wl_gv (want_y rfl rfl rfl rfl (by rw [hg1_2]; rfl)) (x_fa 0 Try.underlying27 rfl rfl ts_23 (tmP rfl rfl)) ?_
   first
    | refine wl_gv (want_y rfl rfl rfl rfl (by rw [hg1_2]; rfl)) (x_load Try.underlying23 rfl (tmP rfl rfl) (cellB hS.ok 0 rfl rfl)) ?_
    | refine wl_gv (want_y rfl rfl rfl rfl (by rw [hg1_2]; rfl)) (x_load Try.underlying23 rfl (tmP rfl rfl) (cellB hS.ok 0 rfl (getm (by omega)))) ?_
   refine wl_gv (want_y rfl rfl rfl rfl (by rw [hg1_2]; rfl)) (x_len Try.underlying23 (tmS rfl rfl)) ?_
   refine wl_gv (want_y rfl rfl rfl rfl (by rw [hg1_2]; rfl)) (x_geq (tmI rfl rfl) (tmI rfl rfl)) ?_
   refine wl_v (x_pickF (tmB rfl rfl) hg1_2 (tmB rfl rfl)) ?_
   refine wl_nil ?_
   refine then_n (hK3 _ _ ?_); clear hK3 K3
   refine cnd (tm rfl) (fun hc0 => ?_) (fun hc0 => ?_)
   · try (exfalso; first | with_reducible exact absurd hc0 Bool.false_ne_true | with_reducible exact absurd hc0.symm Bool.false_ne_true | (simp only [nrm] at hc0; omega) | (simp at hc0; done))
     all_goals
      try simp only [nrm] at hc0
      refine wp_seq_k ?_; intro K5 hK5
      have hout : ¬ (0 ≤ i ∧ i < (t.length : Int)) := by omega
      refine wlit ?_
      refine wl_v (x_assign (ev_cN 0)) ?_
      refine wl_nil ?_
      refine then_n (hK5 _ _ ?_); clear hK5 K5
      refine wp_ret ?_
      refine then_r ?_
      refine ret1 rfl (.tmp rfl (show _ = Value.int _ _ from rfl)) ?_
      first
        | (refine ⟨?_, hS.kp⟩
           rw [atI_out hout]
           first | done | rfl)
        | (refine ⟨?_, hS.kp⟩
           rw [atI_nat hj]
           first | done | rfl)
   try (exfalso; first | with_reducible exact absurd hc0 Bool.false_ne_true | with_reducible exact absurd hc0.symm Bool.false_ne_true | (simp only [nrm] at hc0; omega) | (simp at hc0; done))
   all_goals
    try simp only [nrm] at hc0
    refine wp_skip ?_
    refine then_n (hK2 _ _ ?_); clear hK2 K2
    refine wp_seq_k ?_; intro K6 hK6
    obtain ⟨j, rfl⟩ := Int.eq_ofNat_of_zero_le (a := i) (by omega)
    have hj : j < t.length := by omega
    obtain ⟨b0, o0, rfl⟩ := view_some hv (by rw [List.length_map]; omega)
    have hgj : (t.map i64v)[j]? = some (.int .i64 (t.getD j 0)) := getm hj
    refine wlit ?_
    refine wl_v (x_fa 0 Try.underlying27 rfl rfl ts_23 (tmP rfl rfl)) ?_
    first
     | refine wl_v (x_load Try.underlying23 rfl (tmP rfl rfl) (cellB hS.ok 0 rfl rfl)) ?_
     | refine wl_v (x_load Try.underlying23 rfl (tmP rfl rfl) (cellB hS.ok 0 rfl (getm (by omega)))) ?_
    refine wl_v (x_move (tmI rfl rfl)) ?_
    refine wl_v (x_ixs1 Try.underlying23 ts_3 (tmS rfl rfl) (tmI rfl rfl) (by omega)) ?_
    refine wl_v (x_load (v := .int .i64 (t.getD j 0)) Try.underlying3 rfl (tmP rfl rfl) (cellV hS.ok 1 rfl hgj)) ?_
    refine wl_v (x_assign (tmI rfl rfl)) ?_
    refine wl_nil ?_
    refine then_n (hK6 _ _ ?_); clear hK6 K6
    refine wp_ret ?_
    refine ret1 rfl (.tmp rfl (show _ = Value.int _ _ from rfl)) ?_
    first
      | (refine ⟨?_, hS.kp⟩
         rw [atI_out hout]
         first | done | rfl)
      | (refine ⟨?_, hS.kp⟩
         rw [atI_nat hj]
         first | done | rfl)
set_option maxRecDepth 100000 in
set_option maxHeartbeats 4000000 in
theorem mTpick_c (k : Nat → Nat) (G : Option Addr) (c : Nat) (t : List Int) (B : Option Addr) (nb cb x : Nat) (lb : List Nat) (w0 : World) (hkb : Bytes (kL k)) (hv : View w0 w0.heap.size G (t.map i64v)) (ht : t.length ≤ 2048) (hvb : View w0 w0.heap.size B (lb.map u8v)) (hlb : lb.length = nb) (hbb : Bytes lb) (hnb : nb ≤ 1000) (hcb : nb ≤ cb) (hx : sipF k lb = x) :
    Calls Try.prog 10 #[.agg #[.slice G t.length c], .agg (kC k).toArray, .slice B nb cb] w0 fun e w' => e = .returned (.int .i64 (t.getD (x % t.length) 0)) ∧ Kp [] w0 w' := by
  have hS := ((St.sv w0).vcons rfl hvb).vcons rfl hv
  have hxl := sipF_lt k lb
  have hsum := fun w hv => sum_c k B nb cb lb w hkb hv hlb hbb (by omega) hcb
  rw [hx] at hsum hxl
  clear hx
  refine ent (n := 23) Try.func10 rfl rfl ?_
  refine wp_seq_k ?_; intro K1 hK1
  refine wlit ?_
  refine wl_e rfl ?_; intro K hK
  refine ow_box hS (tmA rfl rfl) rfl ?_
  clear hS; intro g0_0 w hg0_0 hS
  refine hK _ _ ?_; clear hK K
  refine wl_e rfl ?_; intro K hK
  refine ow_box hS (tmA rfl rfl) rfl ?_
  clear hS; intro g0_1 w hg0_1 hS
  refine hK _ _ ?_; clear hK K
  refine wl_v (x_assign (ev_cN 0)) ?_
  refine wl_nil ?_
  refine then_n (hK1 _ _ ?_); clear hK1 K1
  refine wp_seq_k ?_; intro K2 hK2
  refine wp_seq_k ?_; intro K3 hK3
  refine wlit ?_
  refine wl_v (x_fa 0 Try.underlying27 rfl rfl ts_23 (tmP rfl rfl)) ?_
  first
   | refine wl_v (x_load Try.underlying23 rfl (tmP rfl rfl) (cellB hS.ok 1 rfl rfl)) ?_
   | refine wl_v (x_load Try.underlying23 rfl (tmP rfl rfl) (cellB hS.ok 1 rfl (getm (by omega)))) ?_
  refine wl_v (x_len Try.underlying23 (tmS rfl rfl)) ?_
  refine wl_v (x_eql (tmI rfl rfl) (ev_cN 0)) ?_
  refine wl_nil ?_
  refine then_n (hK3 _ _ ?_); clear hK3 K3
  refine cnd (tm rfl) (fun hc0 => ?_) (fun hc0 => ?_)
  · try (exfalso; first | with_reducible exact absurd hc0 Bool.false_ne_true | with_reducible exact absurd hc0.symm Bool.false_ne_true | (simp only [nrm] at hc0; omega) | (simp at hc0; done))
    all_goals
     try simp only [nrm] at hc0
     have ht0 : t = [] := List.eq_nil_of_length_eq_zero (by omega)
     refine wp_seq_k ?_; intro K4 hK4
     refine wlit ?_
     refine wl_v (x_assign (ev_cN 0)) ?_
     refine wl_nil ?_
     refine then_n (hK4 _ _ ?_); clear hK4 K4
     refine wp_ret ?_
     refine then_r ?_
     refine ret1 rfl (.tmp rfl (show _ = Value.int _ _ from rfl)) ?_
     first
       | (subst ht0; exact ⟨rfl, hS.kp⟩)
       | exact ⟨rfl, hS.kp⟩
  try (exfalso; first | with_reducible exact absurd hc0 Bool.false_ne_true | with_reducible exact absurd hc0.symm Bool.false_ne_true | (simp only [nrm] at hc0; omega) | (simp at hc0; done))
  all_goals
   try simp only [nrm] at hc0
   have hmod := Nat.mod_lt x (show t.length > 0 by omega)
   obtain ⟨b0, o0, rfl⟩ := view_some hv (by rw [List.length_map]; omega)
   have hgj : (t.map i64v)[x % t.length]? = some (.int .i64 (t.getD (x % t.length) 0)) := getm hmod
   refine wp_skip ?_
   refine then_n (hK2 _ _ ?_); clear hK2 K2
   refine wp_seq_k ?_; intro K5 hK5
   refine rg_startk 0 hS mixed_ ?_
   clear hS; intro w hS
   refine rg_take 0 rfl rfl (by kernel_rfl) (by kernel_rfl) (by kernel_rfl) (want_0) (fun w hok => x_fa 0 Try.underlying27 rfl rfl ts_23 (tmP rfl rfl)) ?_
   first
    | refine rg_take 1 rfl rfl (by kernel_rfl) (by kernel_rfl) (by kernel_rfl) (want_0) (fun w hok => x_load Try.underlying23 rfl (tmP rfl rfl) (cellB hok 1 rfl rfl)) ?_
    | refine rg_take 1 rfl rfl (by kernel_rfl) (by kernel_rfl) (by kernel_rfl) (want_0) (fun w hok => x_load Try.underlying23 rfl (tmP rfl rfl) (cellB hok 1 rfl (getm (by omega)))) ?_
   refine rg_take 2 rfl rfl (by kernel_rfl) (by kernel_rfl) (by kernel_rfl) (want_0) (fun w hok => x_loadA (cs := [_, _, _, _, _, _, _, _, _, _, _, _, _, _, _, _]) Try.underlying41 rfl ts_41 (tmP rfl rfl) (rangeB hok 0 rfl rfl)) ?_
   refine rg_take 3 rfl rfl (by kernel_rfl) (by kernel_rfl) (by kernel_rfl) (want_0) (fun w hok => x_move (tmS rfl rfl)) ?_
   refine rg_take 5 rfl rfl (by kernel_rfl) (by kernel_rfl) (by kernel_rfl) (want_0) (fun w hok => x_fa 0 Try.underlying27 rfl rfl ts_23 (tmP rfl rfl)) ?_
   first
    | refine rg_take 6 rfl rfl (by kernel_rfl) (by kernel_rfl) (by kernel_rfl) (want_0) (fun w hok => x_load Try.underlying23 rfl (tmP rfl rfl) (cellB hok 1 rfl rfl)) ?_
    | refine rg_take 6 rfl rfl (by kernel_rfl) (by kernel_rfl) (by kernel_rfl) (want_0) (fun w hok => x_load Try.underlying23 rfl (tmP rfl rfl) (cellB hok 1 rfl (getm (by omega)))) ?_
   refine rg_take 7 rfl rfl (by kernel_rfl) (by kernel_rfl) (by kernel_rfl) (want_0) (fun w hok => x_len Try.underlying23 (tmS rfl rfl)) ?_
   first
    | refine rg_take 8 rfl rfl (by kernel_rfl) (by kernel_rfl) (by kernel_rfl) (want_0) (fun w hok => x_convN Try.underlying3 Try.underlying36 (tmI rfl rfl) (fit_u64 (by omega))) ?_
    | refine rg_take 8 rfl rfl (by kernel_rfl) (by kernel_rfl) (by kernel_rfl) (want_0) (fun w hok => x_convU Try.underlying3 Try.underlying36 (tmI rfl rfl) rfl) ?_
    | refine rg_take 8 rfl rfl (by kernel_rfl) (by kernel_rfl) (by kernel_rfl) (want_0) (fun w hok => x_conv Try.underlying3 Try.underlying36 (tmI rfl rfl)) ?_
   refine rg_step 4 rfl (by kernel_rfl) (want_0) (oks_drop hS 0 rfl) ?_; intro K hK
   refine ow_call Try.func19 rfl rfl (evs_cons (tmA rfl rfl) <| evs_cons (tmS rfl rfl) <| evs_nil) (hsum _ (viewV hS.ok 3 rfl)) ?_
   rintro e w ⟨rfl, hk⟩
   refine ⟨_, rfl, ?_⟩
   replace hS := hS.kept hk
   clear hk
   refine hK _ _ ?_; clear hK K
   first
    | refine rg_take 9 rfl rfl (by kernel_rfl) (by kernel_rfl) (by kernel_rfl) (want_0) (fun w hok => x_remN (tmI rfl rfl) (tmI rfl rfl) (by omega)) ?_
    | refine rg_take 9 rfl rfl (by kernel_rfl) (by kernel_rfl) (by kernel_rfl) (want_0) (fun w hok => x_rem (tmI rfl rfl) (tmI rfl rfl) (by omega)) ?_
   refine rg_take 10 rfl rfl (by kernel_rfl) (by kernel_rfl) (by kernel_rfl) (want_0) (fun w hok => x_ixs1 Try.underlying23 ts_3 (tmS rfl rfl) (tmI rfl rfl) (by omega)) ?_
   refine rg_take 11 rfl rfl (by kernel_rfl) (by kernel_rfl) (by kernel_rfl) (want_0) (fun w hok => x_load (v := .int .i64 (t.getD (x % t.length) 0)) Try.underlying3 rfl (tmP rfl rfl) (cellV hok 2 rfl hgj)) ?_
   refine rg_take 12 rfl rfl (by kernel_rfl) (by kernel_rfl) (by kernel_rfl) (want_0) (fun w hok => x_assign (tmI rfl rfl)) ?_
   refine rg_done (oks_drop hS 0 rfl) (by kernel_rfl) ?_
   refine then_n (hK5 _ _ ?_); clear hK5 K5
   refine wp_ret ?_
   refine ret1 rfl (.tmp rfl (show _ = Value.int _ _ from rfl)) ?_
   first
     | (subst ht0; exact ⟨rfl, hS.kp⟩)
     | exact ⟨rfl, hS.kp⟩
end Go.Proofs.Ytofkhhklkcdggaa
