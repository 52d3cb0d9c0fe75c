
/- octet's Put and the reference's Bytes; bytes.Clone, by contract. Conditions: none but bounds. -/
import Derived.Test.YtijeegfmfpamkaaNum
import Derived.Test.YtijeegfmfpamkaaTy
namespace Go.Proofs.Ytijeegfmfpamkaa
open Go.RowKit

set_option maxRecDepth 100000 in
set_option maxHeartbeats 4000000 in
theorem clone_c (n : Nat) (A : Option Addr) (c : Nat) (l : List Nat) (w0 : World) (hv : View w0 w0.heap.size A (l.map u8v)) (hl : l.length = n) (hn4 : n ≤ 1000000) :
    Calls Try.prog 19 #[.slice A n c] w0 fun e w' => ∃ A' c', e = .returned (.slice A' n c') ∧ New w0 w' (.row (.slice A' n c') 5 1 n (l.map u8v)) ∧ Kp [] w0 w' := by
  have hS := (St.sv w0).vcons rfl hv
  cases A with
  | none =>
    obtain rfl := view_none hv
    obtain rfl : n = 0 := by simpa using hl.symm
    refine ent (n := 8) Try.func19 rfl rfl ?_
    refine wp_seq_k ?_; intro K1 hK1
    refine wlit ?_
    refine wl_v (x_assign ev_c) ?_
    refine wl_nil ?_
    refine then_n (hK1 _ _ ?_); clear hK1 K1
    refine wp_seq_k ?_; intro K2 hK2
    refine wp_seq_k ?_; intro K3 hK3
    refine wlit ?_
    refine wl_v (x_move (tmS rfl rfl)) ?_
    first
     | refine wl_v (x_seql Try.underlying26 (tmS rfl rfl) ev_c) ?_
     | refine wl_v (x_seqln Try.underlying26 (tmS rfl rfl) ev_c) ?_
    refine wl_nil ?_
    refine then_n (hK3 _ _ ?_); clear hK3 K3
    refine cnds (tm rfl) (fun hc0 => ?_) (fun hc0 => ?_)
    · exfalso
      simp at hc0
    try (exfalso; first | with_reducible exact absurd hc0 Bool.false_ne_true | with_reducible exact absurd hc0.symm Bool.false_ne_true | (simp only [nrm] at hc0; omega) | (simp at hc0; done))
    all_goals
     try simp only [nrm] at hc0
     refine wp_seq_k ?_; intro K4 hK4
     refine wlit ?_
     refine wl_v (x_assign ev_c) ?_
     refine wl_nil ?_
     refine then_n (hK4 _ _ ?_); clear hK4 K4
     refine wp_ret ?_
     refine then_r ?_
     refine ret1 rfl (.tmp rfl (show _ = Value.slice _ _ _ from rfl)) ?_
     have hS := hS.nilrow 5 1
     exact ⟨none, 0, rfl, hS.new 0 rfl rfl, hS.kp⟩
  | some ad =>
    refine ent (n := 8) Try.func19 rfl rfl ?_
    refine wp_seq_k ?_; intro K1 hK1
    refine wlit ?_
    refine wl_v (x_assign ev_c) ?_
    refine wl_nil ?_
    refine then_n (hK1 _ _ ?_); clear hK1 K1
    refine wp_seq_k ?_; intro K2 hK2
    refine wp_seq_k ?_; intro K3 hK3
    refine wlit ?_
    refine wl_v (x_move (tmS rfl rfl)) ?_
    first
     | refine wl_v (x_seql Try.underlying26 (tmS rfl rfl) ev_c) ?_
     | refine wl_v (x_seqln Try.underlying26 (tmS rfl rfl) ev_c) ?_
    refine wl_nil ?_
    refine then_n (hK3 _ _ ?_); clear hK3 K3
    refine cnd (tm rfl) (fun hc0 => ?_) (fun hc0 => ?_)
    · exfalso
      simp at hc0
    try (exfalso; first | with_reducible exact absurd hc0 Bool.false_ne_true | with_reducible exact absurd hc0.symm Bool.false_ne_true | (simp only [nrm] at hc0; omega) | (simp at hc0; done))
    all_goals
     try simp only [nrm] at hc0
     refine wp_skip ?_
     refine then_n (hK2 _ _ ?_); clear hK2 K2
     refine wp_seq_k ?_; intro K4 hK4
     refine wlit ?_
     refine wl_e rfl ?_; intro K hK
     refine ow_build0 hS Try.underlying26 tz_5 rfl rfl ?_
     clear hS; intro g3_0 w hg3_0 hS
     refine hK _ _ ?_; clear hK K
     refine wl_v (x_move (tmS rfl rfl)) ?_
     refine wl_e rfl ?_; intro K hK
     first
      | (refine ow_append hS 0 1 rfl rfl Try.underlying26 tz_5 rfl (tmS rfl rfl) (tmS rfl rfl) rfl ⟨by decide, by decide, rfl⟩ (by simp only [maxLen]; omega) (by omega) ?_; clear hS; intro g3_2 cg3_2 w hS)
      | (refine ow_appendV hS 0 rfl (viewR hS.ok 0 rfl) Try.underlying26 tz_5 rfl (tmS rfl rfl) (tmS rfl rfl) (by first | exact u8v_one _ | (intro u hu; simp at hu; first | (rcases hu with rfl | rfl <;> rfl) | (obtain ⟨_, _, rfl⟩ := hu; rfl))) ⟨by decide, by first | rfl | (simp; done) | (simp; omega)⟩ (by simp only [maxLen]; omega) (by omega) ?_; clear hS; intro g3_2 cg3_2 w hAg3_2 hCg3_2 hS)
      | (refine ow_appendV hS 0 rfl (viewV hS.ok 1 rfl) Try.underlying26 tz_5 rfl (tmS rfl rfl) (tmS rfl rfl) (by first | exact u8v_one _ | (intro u hu; simp at hu; first | (rcases hu with rfl | rfl <;> rfl) | (obtain ⟨_, _, rfl⟩ := hu; rfl))) ⟨by decide, by first | rfl | (simp; done) | (simp; omega)⟩ (by simp only [maxLen]; omega) (by omega) ?_; clear hS; intro g3_2 cg3_2 w hAg3_2 hCg3_2 hS)
      | (refine ow_appendV hS 0 rfl View.nil_ Try.underlying26 tz_5 rfl (tmS rfl rfl) (tmS rfl rfl) (by first | exact u8v_one _ | (intro u hu; simp at hu; first | (rcases hu with rfl | rfl <;> rfl) | (obtain ⟨_, _, rfl⟩ := hu; rfl))) ⟨by decide, by first | rfl | (simp; done) | (simp; omega)⟩ (by simp only [maxLen]; omega) (by omega) ?_; clear hS; intro g3_2 cg3_2 w hAg3_2 hCg3_2 hS)
     refine hK _ _ ?_; clear hK K
     refine wl_v (x_assign (tmS rfl rfl)) ?_
     refine wl_nil ?_
     refine then_n (hK4 _ _ ?_); clear hK4 K4
     refine wp_ret ?_
     refine ret1 rfl (.tmp rfl (show _ = Value.slice _ _ _ from rfl)) ?_
     rw [List.nil_append, Nat.zero_add] at hS
     exact ⟨_, _, by rw [Nat.zero_add], hS.new 0 rfl rfl, hS.kp⟩
end Go.Proofs.Ytijeegfmfpamkaa
