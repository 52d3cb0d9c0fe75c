
/- octet's Set and the reference's Set, by contract. Conditions: none but bounds. -/
import Derived.Test.YtlpgedncnefaoaaJoin
namespace Go.Proofs.Ytlpgedncnefaoaa
open Go.RowKit

theorem splice_len {l x : List Nat} {p : Nat} (h : p + x.length ≤ l.length) : (splice l p x).length = l.length := length_splice _ _ _ h
theorem splice_bytes {l x : List Nat} {p : Nat} (hl : Bytes l) (hx : Bytes x) : Bytes (splice l p x) := by
  unfold splice
  exact (hl.take _).append (hx.append (hl.drop _))
theorem splice_nil (l : List Nat) (p : Nat) : splice l p [] = l := by simp [splice]
theorem splice_step (l x : List Nat) (p k : Nat) (hk : k < x.length) (hp : p + x.length ≤ l.length) : (splice l p (x.take k)).set (p + k) (nth x k) = splice l p (x.take (k + 1)) := by
  have h1 : (x.take k).length = k := by rw [List.length_take]; omega
  have h2 : (x.take (k + 1)).length = k + 1 := by rw [List.length_take]; omega
  have h3 : (l.take p).length = p := by rw [List.length_take]; omega
  unfold splice
  rw [List.set_append_right _ _ (by omega), h3, Nat.add_sub_cancel_left, List.set_append_right _ _ (by omega), h1, h2, Nat.sub_self, List.drop_eq_getElem_cons (by omega), List.set_cons_zero, List.take_succ_eq_append_getElem hk, nth_eq hk]
  simp [Nat.add_assoc]

set_option maxRecDepth 100000 in
set_option maxHeartbeats 4000000 in
theorem rset_c (n : Nat) (A : Option Addr) (c : Nat) (l : List Nat) (p : Nat) (m : Nat) (B : Option Addr) (d : Nat) (x : List Nat) (w0 : World) (hv : View w0 w0.heap.size A (l.map u8v)) (hl : l.length = n) (hn4 : n ≤ 1000000) (hv2 : View w0 w0.heap.size B (x.map u8v)) (hm : x.length = m) (hp : p + m ≤ n) :
    Calls Try.prog 32 #[.slice A n c, .int .i64 (p : Int), .slice B m d] w0 fun e w' => ∃ A' c', e = .returned (.slice A' n c') ∧ New w0 w' (.row (.slice A' n c') 5 1 n ((splice l p x).map u8v)) ∧ Kp [] w0 w' := by
  have hS := ((St.sv w0).vcons rfl hv2).vcons rfl hv
  refine ent (n := 28) Try.func32 rfl rfl ?_
  refine wp_seq_k ?_; intro K1 hK1
  refine wlit ?_
  refine wl_v (x_assign ev_c) ?_
  refine wl_nil ?_
  refine then_n (hK1 _ _ ?_); clear hK1 K1
  refine wp_seq_k ?_; intro K2 hK2
  refine wlit ?_
  refine wl_e rfl ?_; intro K hK
  refine ow_build0 hS Try.underlying70 tz_5 rfl rfl ?_
  clear hS; intro g1_0 w hg1_0 hS
  refine hK _ _ ?_; clear hK K
  refine wl_v (x_move (tmS rfl rfl)) ?_
  refine wl_e rfl ?_; intro K hK
  refine ow_appendV hS 0 rfl (viewV hS.ok 1 rfl) Try.underlying70 tz_5 rfl (tmS rfl rfl) (tmS rfl rfl) (u8v_one _) ⟨by decide, by simp; omega⟩ (by simp only [maxLen]; omega) (by omega) ?_
  clear hS; intro g1_2 cg1_2 w hAg1_2 hCg1_2 hS
  refine hK _ _ ?_; clear hK K
  refine wl_v (x_assign (tmS rfl rfl)) ?_
  refine wl_nil ?_
  simp only [List.nil_append, Nat.zero_add] at hS
  refine then_n (hK2 _ _ ?_); clear hK2 K2
  refine wp_seq_k ?_; intro K3 hK3
  refine wp_seq_k ?_; intro K4 hK4
  refine wlit ?_
  refine wl_v (x_assign (ev_cN 0)) ?_
  refine wl_nil ?_
  refine then_n (hK4 _ _ ?_); clear hK4 K4
  refine wp_block ?_
  refine lp [8, 12, 13, 14, 15, 16, 17, 18, 19, 20, 21, 22, 23, 24, 25, 26] (fun mz g w => ∃ (k : Nat), mz = m - k ∧ g 8 = .int .i64 (k : Int) ∧ St [] w0 [.row (.slice g1_2 n cg1_2) 5 1 n ((splice l p (x.take k)).map u8v), .vw A (l.map u8v), .vw B (x.map u8v)] w ∧ (k ≤ m)) ?_ ?_
  · exact ⟨_, 0, rfl, (by first | rfl | go_num | exact congrArg (Value.int _) (by first | omega | (simp; done) | (simp; omega))), (by rw [List.take_zero, splice_nil]; exact hS), (by omega)⟩
  · clear hS; intro mz g w hI
    obtain ⟨k, rfl, hs8, hS, hk⟩ := hI
    refine fr_know (d := 8) hs8 ?_; clear hs8
    refine wp_seq_k ?_; intro K5 hK5
    refine wp_seq_k ?_; intro K6 hK6
    refine wlit ?_
    refine wl_v (x_move (tmI rfl rfl)) ?_
    refine wl_v (x_move (tmS rfl rfl)) ?_
    refine wl_v (x_len Try.underlying70 (tmS rfl rfl)) ?_
    refine wl_v (x_lss (tmI rfl rfl) (tmI rfl rfl)) ?_
    refine wl_nil ?_
    refine then_n (hK6 _ _ ?_); clear hK6 K6
    refine cnd (tm rfl) (fun hc0 => ?_) (fun hc0 => ?_)
    · try (exfalso; first | with_reducible exact absurd hc0 Bool.false_ne_true | with_reducible exact absurd hc0.symm Bool.false_ne_true | (simp only [nrm] at hc0; omega) | (simp at hc0; done))
      all_goals
       try simp only [nrm] at hc0
       have hx : ((splice l p (x.take k)).map u8v).set (p + k) (u8v (nth x k)) = (splice l p (x.take (k + 1))).map u8v := by
         rw [map_set_u8v, splice_step l x p k (by omega) (by omega)]
       have hsl : (splice l p (x.take k)).length = n := by rw [splice_len (by rw [List.length_take]; omega)]; exact hl
       obtain ⟨b4, o4, rfl⟩ := view_some hv2 (by rw [List.length_map]; omega)
       obtain ⟨gq, rfl⟩ := row_some (hS.rowOk 0 rfl) (by omega)
       refine wp_skip ?_
       refine then_n (hK5 _ _ ?_); clear hK5 K5
       refine wp_seq_k ?_; intro K7 hK7
       refine wp_block ?_
       refine wlit ?_
       refine wl_v (x_move (tmS rfl rfl)) ?_
       refine wl_v (x_move (tmI rfl rfl)) ?_
       refine wl_v (x_move (tmI rfl rfl)) ?_
       first
        | refine wl_v (x_addN (tmI rfl rfl) (tmI rfl rfl) (fit_i64 (by omega))) ?_
        | refine wl_v (x_addI (tmI rfl rfl) (tmI rfl rfl) (IntWalk.i64_in _ (by omega))) ?_
        | refine wl_v (x_add (tmI rfl rfl) (tmI rfl rfl)) ?_
       refine wl_v (x_move (tmS rfl rfl)) ?_
       refine wl_v (x_move (tmI rfl rfl)) ?_
       refine wl_v (x_ixs1 Try.underlying70 ts_5 (tmS rfl rfl) (tmI rfl rfl) (by omega)) ?_
       first
        | refine wl_v (x_load Try.underlying5 rfl (tmP rfl rfl) (cellR hS.ok 0 rfl rfl)) ?_
        | refine wl_v (x_load Try.underlying5 rfl (tmP rfl rfl) (cellR hS.ok 0 rfl (getm (by omega)))) ?_
        | refine wl_v (x_load Try.underlying5 rfl (tmP rfl rfl) (cellRs hS.ok 0 rfl (fun _ => rfl) rfl (by omega) rfl)) ?_
        | refine wl_v (x_load Try.underlying5 rfl (tmP rfl rfl) (cellV hS.ok 1 rfl rfl)) ?_
        | refine wl_v (x_load Try.underlying5 rfl (tmP rfl rfl) (cellV hS.ok 1 rfl (getm (by omega)))) ?_
        | refine wl_v (x_load Try.underlying5 rfl (tmP rfl rfl) (cellVs hS.ok 1 rfl (fun _ => rfl) rfl (by omega) rfl)) ?_
        | refine wl_v (x_load Try.underlying5 rfl (tmP rfl rfl) (cellV hS.ok 2 rfl rfl)) ?_
        | refine wl_v (x_load Try.underlying5 rfl (tmP rfl rfl) (cellV hS.ok 2 rfl (getm (by omega)))) ?_
        | refine wl_v (x_load Try.underlying5 rfl (tmP rfl rfl) (cellVs hS.ok 2 rfl (fun _ => rfl) rfl (by omega) rfl)) ?_
       refine wl_v (x_ixs1 Try.underlying70 ts_5 (tmS rfl rfl) (tmI rfl rfl) (by omega)) ?_
       refine wl_e rfl ?_; intro K hK
       first
        | refine ow_store hS 0 rfl ts_5 (tmP rfl rfl) (tmI rfl rfl) rfl rfl ?_
        | refine ow_storeX hS 0 rfl ts_5 (tmP rfl rfl) (tmI rfl rfl) rfl (by simp; omega) ?_
        | refine ow_storeRs hS 0 rfl ts_5 (tmP rfl rfl) (tmI rfl rfl) rfl (by first | omega | (simp; omega)) ?_
        | refine ow_storeR hS 0 rfl ts_5 (tmP rfl rfl) (tmI rfl rfl) rfl (by first | omega | (simp; omega)) ?_
       clear hS; intro w hS
       refine hK _ _ ?_; clear hK K
       refine wl_nil ?_
       refine inb_n ?_
       refine then_n (hK7 _ _ ?_); clear hK7 K7
       refine wlit ?_
       refine wl_v (x_move (tmI rfl rfl)) ?_
       first
        | refine wl_v (x_addN (tmI rfl rfl) (ev_cN 1) (fit_i64 (by omega))) ?_
        | refine wl_v (x_addI (tmI rfl rfl) (ev_cN 1) (IntWalk.i64_in _ (by omega))) ?_
        | refine wl_v (x_add (tmI rfl rfl) (ev_cN 1)) ?_
       refine wl_v (x_assign (tmI rfl rfl)) ?_
       refine wl_nil ?_
       exact then_n ⟨_, _, rfl, (by show _ < _; omega), (by repeat (first | exact agree_self | exact agree_refl | refine agree_upd rfl ?_ | refine agree_mix rfl ?_)), k + 1, rfl, (by first | rfl | go_num | exact congrArg (Value.int _) (by first | omega | (simp; done) | (simp; omega))), (by rw [← hx]; exact hS), (by omega)⟩
    try (exfalso; first | with_reducible exact absurd hc0 Bool.false_ne_true | with_reducible exact absurd hc0.symm Bool.false_ne_true | (simp only [nrm] at hc0; omega) | (simp at hc0; done))
    all_goals
     try simp only [nrm] at hc0
     refine wp_exit ?_
     refine then_x ?_; clear hK5 K5
     refine then_x ?_
     refine inb_x ?_
     refine then_n (hK3 _ _ ?_); clear hK3 K3
     refine wp_seq_k ?_; intro K8 hK8
     refine wlit ?_
     refine wl_v (x_move (tmS rfl rfl)) ?_
     refine wl_v (x_assign (tmS rfl rfl)) ?_
     refine wl_nil ?_
     refine then_n (hK8 _ _ ?_); clear hK8 K8
     refine wp_ret ?_
     refine ret1 rfl (.tmp rfl (show _ = Value.slice _ _ _ from rfl)) ?_
     obtain rfl : k = m := by omega
     rw [List.take_of_length_le (by omega)] at hS
     exact ⟨g1_2, cg1_2, by rw [Nat.zero_add], hS.new 0 rfl rfl, hS.kp⟩
end Go.Proofs.Ytlpgedncnefaoaa
