/- tunnel: Six, fault, number; what parsing gives, by contract. Conditions: none but bounds. -/
import Derived.Test.YtmekadkmmddocaaDoorTunA
import Derived.Test.YtmekadkmmddocaaDoorIp4R
namespace Go.Proofs.YtmekadkmmddocaaDoor
open Go.RowKit
def sixE (l : List Nat) : Nat := if l.length = 0 then 20 else if nth l 0 / 16 = 4 ∨ nth l 0 / 16 = 6 then 0 else 21
def sixP (l : List Nat) : Prop := l.length ≠ 0 ∧ nth l 0 / 16 = 6
instance (l : List Nat) : Decidable (sixP l) := by unfold sixP; exact inferInstance
def sixN (l : List Nat) : Int := if l.length = 0 then -1 else if nth l 0 / 16 = 4 then 4 else if nth l 0 / 16 = 6 then 6 else 0
theorem sx0 {l : List Nat} (h : l.length = 0) : sixE l = 20 ∧ decide (sixP l) = false ∧ sixN l = -1 := by
  unfold sixE sixN
  exact ⟨if_pos h, decide_eq_false (fun hp => hp.1 h), if_pos h⟩
theorem sx4 {l : List Nat} (h : l.length ≠ 0) (h4 : nth l 0 / 16 = 4) : sixE l = 0 ∧ decide (sixP l) = false ∧ sixN l = 4 := by
  unfold sixE sixN
  exact ⟨by rw [if_neg h, if_pos (.inl h4)], decide_eq_false (fun hp => by have := hp.2; omega), by rw [if_neg h, if_pos h4]⟩
theorem sx6 {l : List Nat} (h : l.length ≠ 0) (h6 : nth l 0 / 16 = 6) : sixE l = 0 ∧ decide (sixP l) = true ∧ sixN l = 6 := by
  unfold sixE sixN
  exact ⟨by rw [if_neg h, if_pos (.inr h6)], decide_eq_true ⟨h, h6⟩, by rw [if_neg h, if_neg (by omega), if_pos h6]⟩
theorem sxo {l : List Nat} (h : l.length ≠ 0) (h4 : nth l 0 / 16 ≠ 4) (h6 : nth l 0 / 16 ≠ 6) : sixE l = 21 ∧ decide (sixP l) = false ∧ sixN l = 0 := by
  unfold sixE sixN
  exact ⟨by rw [if_neg h, if_neg (by omega)], decide_eq_false (fun hp => h6 hp.2), by rw [if_neg h, if_neg h4, if_neg h6]⟩

set_option maxRecDepth 100000 in
set_option maxHeartbeats 4000000 in
theorem six_c (n : Nat) (A : Option Addr) (c : Nat) (l : List Nat) (w0 : World) (hv : View w0 w0.heap.size A (l.map u8v)) (hl : l.length = n) (hb : Bytes l) (hn4 : n ≤ 1000000) :
    Calls Tryd.prog 30 #[.slice A n c] w0 fun e w' => e = .returned (.tuple #[.bool (decide (sixP l)), .int .i64 (sixE l : Int)]) ∧ Kp [] w0 w' := by
  have hS := (St.sv w0).vcons rfl hv
  have hq : l.getD 0 0 = nth l 0 := rfl
  have hqb := nth_lt hb 0
  refine ent (n := 15) Tryd.func30 rfl rfl ?_
  refine wp_seq_k ?_; intro K1 hK1
  refine wlit ?_
  refine wl_v (x_assign ev_c) ?_
  refine wl_v (x_assign (ev_cN 0)) ?_
  refine wl_nil ?_
  refine then_n (hK1 _ _ ?_); clear hK1 K1
  refine wp_seq_k ?_; intro K2 hK2
  refine wp_seq_k ?_; intro K3 hK3
  refine wlit ?_
  refine wl_v (x_move (tmS rfl rfl)) ?_
  refine wl_v (x_len Tryd.underlying22 (tmS rfl rfl)) ?_
  refine wl_v (x_eql (tmI rfl rfl) (ev_cN 0)) ?_
  refine wl_nil ?_
  refine then_n (hK3 _ _ ?_); clear hK3 K3
  refine cnd (tm rfl) (fun hc0 => ?_) (fun hc0 => ?_)
  · skip
    all_goals
     try simp only [nrm] at hc0
     refine wp_seq_k ?_; intro K4 hK4
     refine wlit ?_
     refine wl_v (x_assign ev_c) ?_
     refine wl_v (x_assign (ev_cN 20)) ?_
     refine wl_nil ?_
     refine then_n (hK4 _ _ ?_); clear hK4 K4
     refine wp_ret ?_
     refine then_r ?_
     refine ret2 rfl (.tmp rfl (show _ = Value.bool _ from rfl)) (.tmp rfl (show _ = Value.int _ _ from rfl)) ?_
     refine ⟨?_, hS.kp⟩
     obtain ⟨e1, e2, _⟩ := sx0 (l := l) (by omega); rw [e1, e2]; first | done | rfl
  all_goals
   try simp only [nrm] at hc0
   obtain ⟨b4, o4, rfl⟩ := view_some hv (by rw [List.length_map]; omega)
   refine wp_skip ?_
   refine then_n (hK2 _ _ ?_); clear hK2 K2
   refine wp_seq_k ?_; intro K5 hK5
   refine wp_seq_k ?_; intro K6 hK6
   refine wlit ?_
   refine wl_v (x_move (tmS rfl rfl)) ?_
   refine wl_v (x_ixs1 Tryd.underlying22 ts_5 (tmS rfl rfl) (ev_cN 0) (by omega)) ?_
   refine wl_v (x_load Tryd.underlying5 rfl (tmP rfl rfl) (cellV hS.ok 0 rfl (getm (by omega)))) ?_
   refine wl_v (x_shrN (tmI rfl rfl) (ev_cN 4) (fit_u8 (by omega))) ?_
   refine wl_nil ?_
   refine then_n (hK6 _ _ ?_); clear hK6 K6
   refine wp_block ?_
   refine wp_seq_k ?_; intro K7 hK7
   refine wlit ?_
   refine wl_v (x_eql (tmI rfl rfl) (ev_cN 4)) ?_
   refine wl_v (x_assign (tmB rfl rfl)) ?_
   refine wl_nil ?_
   refine then_n (hK7 _ _ ?_); clear hK7 K7
   refine cnd (tm rfl) (fun hc1 => ?_) (fun hc1 => ?_)
   · skip
     all_goals
      try simp only [nrm] at hc1
      refine wp_seq_k ?_; intro K8 hK8
      refine wlit ?_
      refine wl_v (x_assign ev_c) ?_
      refine wl_v (x_assign (ev_cN 0)) ?_
      refine wl_nil ?_
      refine then_n (hK8 _ _ ?_); clear hK8 K8
      refine wp_ret ?_
      refine inb_r ?_
      refine then_r ?_
      refine ret2 rfl (.tmp rfl (show _ = Value.bool _ from rfl)) (.tmp rfl (show _ = Value.int _ _ from rfl)) ?_
      refine ⟨?_, hS.kp⟩
      obtain ⟨e1, e2, _⟩ := sx4 (l := l) (by omega) (by omega); rw [e1, e2]; first | done | rfl
   all_goals
    try simp only [nrm] at hc1
    refine wp_seq_k ?_; intro K9 hK9
    refine wlit ?_
    refine wl_v (x_eql (tmI rfl rfl) (ev_cN 6)) ?_
    refine wl_v (x_assign (tmB rfl rfl)) ?_
    refine wl_nil ?_
    refine then_n (hK9 _ _ ?_); clear hK9 K9
    refine cnd (tm rfl) (fun hc2 => ?_) (fun hc2 => ?_)
    · skip
      all_goals
       try simp only [nrm] at hc2
       refine wp_seq_k ?_; intro K10 hK10
       refine wlit ?_
       refine wl_v (x_assign ev_c) ?_
       refine wl_v (x_assign (ev_cN 0)) ?_
       refine wl_nil ?_
       refine then_n (hK10 _ _ ?_); clear hK10 K10
       refine wp_ret ?_
       refine inb_r ?_
       refine then_r ?_
       refine ret2 rfl (.tmp rfl (show _ = Value.bool _ from rfl)) (.tmp rfl (show _ = Value.int _ _ from rfl)) ?_
       refine ⟨?_, hS.kp⟩
       obtain ⟨e1, e2, _⟩ := sx6 (l := l) (by omega) (by omega); rw [e1, e2]; first | done | rfl
    all_goals
     try simp only [nrm] at hc2
     refine wp_skip ?_
     refine inb_n ?_
     refine then_n (hK5 _ _ ?_); clear hK5 K5
     refine wp_seq_k ?_; intro K11 hK11
     refine wlit ?_
     refine wl_v (x_assign ev_c) ?_
     refine wl_v (x_assign (ev_cN 21)) ?_
     refine wl_nil ?_
     refine then_n (hK11 _ _ ?_); clear hK11 K11
     refine wp_ret ?_
     refine ret2 rfl (.tmp rfl (show _ = Value.bool _ from rfl)) (.tmp rfl (show _ = Value.int _ _ from rfl)) ?_
     refine ⟨?_, hS.kp⟩
     obtain ⟨e1, e2, _⟩ := sxo (l := l) (by omega) (by omega) (by omega); rw [e1, e2]; first | done | rfl

set_option maxRecDepth 100000 in
set_option maxHeartbeats 4000000 in
theorem rsix_c (n : Nat) (A : Option Addr) (c : Nat) (l : List Nat) (w0 : World) (hv : View w0 w0.heap.size A (l.map u8v)) (hl : l.length = n) (hb : Bytes l) (hn4 : n ≤ 1000000) :
    Calls Tryd.prog 38 #[.slice A n c] w0 fun e w' => e = .returned (.int .i64 (sixN l)) ∧ Kp [] w0 w' := by
  have hS := (St.sv w0).vcons rfl hv
  have hq : l.getD 0 0 = nth l 0 := rfl
  have hqb := nth_lt hb 0
  refine ent (n := 19) Tryd.func38 rfl rfl ?_
  refine wp_seq_k ?_; intro K1 hK1
  refine wlit ?_
  refine wl_v (x_assign (ev_cN 0)) ?_
  refine wl_nil ?_
  refine then_n (hK1 _ _ ?_); clear hK1 K1
  refine wp_seq_k ?_; intro K2 hK2
  refine wp_seq_k ?_; intro K3 hK3
  refine wlit ?_
  refine wl_v (x_move (tmS rfl rfl)) ?_
  refine wl_v (x_len Tryd.underlying22 (tmS rfl rfl)) ?_
  refine wl_v (x_eql (tmI rfl rfl) (ev_cN 0)) ?_
  refine wl_nil ?_
  refine then_n (hK3 _ _ ?_); clear hK3 K3
  refine cnd (tm rfl) (fun hc0 => ?_) (fun hc0 => ?_)
  · skip
    all_goals
     try simp only [nrm] at hc0
     refine wp_seq_k ?_; intro K4 hK4
     refine wlit ?_
     refine wl_v (x_assign ev_c) ?_
     refine wl_nil ?_
     refine then_n (hK4 _ _ ?_); clear hK4 K4
     refine wp_ret ?_
     refine then_r ?_
     refine ret1 rfl (.tmp rfl (show _ = Value.int _ _ from rfl)) ?_
     refine ⟨?_, hS.kp⟩
     obtain ⟨_, _, e3⟩ := sx0 (l := l) (by omega); rw [e3]; first | done | rfl
  all_goals
   try simp only [nrm] at hc0
   obtain ⟨b4, o4, rfl⟩ := view_some hv (by rw [List.length_map]; omega)
   refine wp_skip ?_
   refine then_n (hK2 _ _ ?_); clear hK2 K2
   refine wp_seq_k ?_; intro K5 hK5
   refine wlit ?_
   refine wl_v (x_move (tmS rfl rfl)) ?_
   refine wl_v (x_ixs1 Tryd.underlying22 ts_5 (tmS rfl rfl) (ev_cN 0) (by omega)) ?_
   refine wl_v (x_load Tryd.underlying5 rfl (tmP rfl rfl) (cellV hS.ok 0 rfl (getm (by omega)))) ?_
   refine wl_v (x_quoN (tmI rfl rfl) (ev_cN 16) (by omega) (fit_u8 (by omega))) ?_
   refine wl_v (x_convN Tryd.underlying5 Tryd.underlying3 (tmI rfl rfl) (fit_i64 (by omega))) ?_
   refine wl_v (x_assign (tmI rfl rfl)) ?_
   refine wl_nil ?_
   refine then_n (hK5 _ _ ?_); clear hK5 K5
   refine wp_seq_k ?_; intro K6 hK6
   refine wp_seq_k ?_; intro K7 hK7
   refine wlit ?_
   refine wl_v (x_move (tmI rfl rfl)) ?_
   refine wl_v (x_eql (tmI rfl rfl) (ev_cN 4)) ?_
   refine wl_v (x_move (tmB rfl rfl)) ?_
   refine gs_wl (tm (t := 14) rfl) (fun hg4_2 => ?_) (fun hg4_2 => ?_)
   · have hg4_2' := hg4_2; (try simp only [nrm] at hg4_2')
     all_goals
      refine wl_s rfl (want_n rfl rfl rfl rfl (by rw [hg4_2]; rfl)) ?_
      refine wl_s rfl (want_n rfl rfl rfl rfl (by rw [hg4_2]; rfl)) ?_
      refine wl_v (x_pickT (tmB rfl rfl) hg4_2 ev_c) ?_
      refine wl_nil ?_
      refine then_n (hK7 _ _ ?_); clear hK7 K7
      refine cnd_t (tmB rfl rfl) rfl ?_
      refine wp_seq_k ?_; intro K8 hK8
      refine wlit ?_
      refine wl_v (x_move (tmI rfl rfl)) ?_
      refine wl_v (x_assign (tmI rfl rfl)) ?_
      refine wl_nil ?_
      refine then_n (hK8 _ _ ?_); clear hK8 K8
      refine wp_ret ?_
      refine then_r ?_
      refine ret1 rfl (.tmp rfl (show _ = Value.int _ _ from rfl)) ?_
      refine ⟨?_, hS.kp⟩
      obtain ⟨_, _, e3⟩ := sx4 (l := l) (by omega) (by omega); rw [e3, show l.getD 0 0 / 16 = 4 by omega]; first | done | rfl
   have hg4_2' := hg4_2; (try simp only [nrm] at hg4_2')
   all_goals
    refine wl_gv (want_y rfl rfl rfl rfl (by rw [hg4_2]; rfl)) (x_move (tmI rfl rfl)) ?_
    refine wl_gv (want_y rfl rfl rfl rfl (by rw [hg4_2]; rfl)) (x_eql (tmI rfl rfl) (ev_cN 6)) ?_
    refine wl_v (x_pickF (tmB rfl rfl) hg4_2 (tmB rfl rfl)) ?_
    refine wl_nil ?_
    refine then_n (hK7 _ _ ?_); clear hK7 K7
    refine cnd (tm rfl) (fun hc1 => ?_) (fun hc1 => ?_)
    · skip
      all_goals
       try simp only [nrm] at hc1
       refine wp_seq_k ?_; intro K9 hK9
       refine wlit ?_
       refine wl_v (x_move (tmI rfl rfl)) ?_
       refine wl_v (x_assign (tmI rfl rfl)) ?_
       refine wl_nil ?_
       refine then_n (hK9 _ _ ?_); clear hK9 K9
       refine wp_ret ?_
       refine then_r ?_
       refine ret1 rfl (.tmp rfl (show _ = Value.int _ _ from rfl)) ?_
       refine ⟨?_, hS.kp⟩
       obtain ⟨_, _, e3⟩ := sx6 (l := l) (by omega) (by omega); rw [e3, show l.getD 0 0 / 16 = 6 by omega]; first | done | rfl
    all_goals
     try simp only [nrm] at hc1
     refine wp_skip ?_
     refine then_n (hK6 _ _ ?_); clear hK6 K6
     refine wp_seq_k ?_; intro K10 hK10
     refine wlit ?_
     refine wl_v (x_assign (ev_cN 0)) ?_
     refine wl_nil ?_
     refine then_n (hK10 _ _ ?_); clear hK10 K10
     refine wp_ret ?_
     refine ret1 rfl (.tmp rfl (show _ = Value.int _ _ from rfl)) ?_
     refine ⟨?_, hS.kp⟩
     obtain ⟨_, _, e3⟩ := sxo (l := l) (by omega) (by omega) (by omega); rw [e3]; first | done | rfl

theorem newV_nil (w w' : World) : NewV w w' none ([].map u8v) := ⟨View.nil_, fun g hg => by cases hg⟩
theorem Bytes.part {l : List Nat} (h : Bytes l) (a b : Nat) : Bytes ((l.drop a).take b) := (h.drop a).take b
end Go.Proofs.YtmekadkmmddocaaDoor
