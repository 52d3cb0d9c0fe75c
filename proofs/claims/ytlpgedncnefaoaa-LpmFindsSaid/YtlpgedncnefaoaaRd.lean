
/- octet's Reader, and the reference's Num and Get, by contract. Conditions: none but bounds. -/
import Derived.Test.YtlpgedncnefaoaaOct
namespace Go.Proofs.Ytlpgedncnefaoaa
open Go.RowKit

def rdV (A : Option Addr) (n c : Nat) (bad : Bool) : List Value := [.slice A n c, .bool bad]
theorem or_low {x y : Nat} (h : y < 256) : x * 2 ^ 8 ||| y = x * 256 + y := by
  have := Nat.shiftLeft_add_eq_or_of_lt (i := 8) (b := y) (by omega) x
  rw [Nat.shiftLeft_eq] at this
  rw [← this]

def getN (l : List Nat) (p k : Nat) : Nat := numBE ((l.drop p).take k)
theorem getN_lt {l : List Nat} (hb : Bytes l) (p k : Nat) : getN l p k < 256 ^ k := by
  have h := numBE_lt' ((hb.drop p).take k)
  have h2 : ((l.drop p).take k).length ≤ k := by rw [List.length_take]; omega
  exact Nat.lt_of_lt_of_le h (Nat.pow_le_pow_right (by omega) h2)
theorem getN_one {l : List Nat} {p : Nat} (h : p < l.length) : getN l p 1 = nth l p := by
  unfold getN
  rw [List.drop_eq_getElem_cons h, List.take_succ_cons, List.take_zero, nth_eq h]
  simp [numBE]

set_option maxRecDepth 100000 in
set_option maxHeartbeats 4000000 in
theorem rnum_c (n : Nat) (A : Option Addr) (c : Nat) (l : List Nat) (w0 : World) (hv : View w0 w0.heap.size A (l.map u8v)) (hl : l.length = n) (hb : Bytes l) (h8 : n ≤ 8) :
    Calls Try.prog 36 #[.slice A n c] w0 fun e w' => e = .returned (.int .u64 ((numBE l : Nat) : Int)) ∧ Kp [] w0 w' := by
  have hS := (St.sv w0).vcons rfl hv
  refine ent (n := 20) Try.func36 rfl rfl ?_
  refine wp_seq_k ?_; intro K1 hK1
  refine wlit ?_
  refine wl_v (x_assign (ev_cN 0)) ?_
  refine wl_nil ?_
  refine then_n (hK1 _ _ ?_); clear hK1 K1
  refine wp_seq_k ?_; intro K2 hK2
  refine wlit ?_
  refine wl_v (x_assign (ev_cN 0)) ?_
  refine wl_nil ?_
  refine then_n (hK2 _ _ ?_); clear hK2 K2
  refine wp_seq_k ?_; intro K3 hK3
  refine wp_seq_k ?_; intro K4 hK4
  refine wlit ?_
  refine wl_v (x_assign (ev_cN 0)) ?_
  refine wl_nil ?_
  refine then_n (hK4 _ _ ?_); clear hK4 K4
  refine wp_block ?_
  refine lp [3, 4, 5, 6, 7, 8, 9, 10, 11, 12, 13, 14, 15, 16, 17, 18] (fun mz g w => ∃ (j : Nat), mz = n - j ∧ g 4 = .int .i64 (j : Int) ∧ g 3 = .int .u64 ((numBE (l.take j) : Nat) : Int) ∧ St [] w0 [.vw A (l.map u8v)] w ∧ (j ≤ n)) ?_ ?_
  · exact ⟨_, 0, rfl, (by first | rfl | go_num | exact congrArg (Value.int _) (by first | omega | (simp; done) | (simp; omega))), (by first | rfl | go_num | exact congrArg (Value.int _) (by first | omega | (simp; done) | (simp; omega))), hS, (by omega)⟩
  · clear hS; intro mz g w hI
    obtain ⟨j, rfl, hs4, hs3, hS, hj⟩ := hI
    refine fr_know (d := 4) hs4 ?_; clear hs4
    refine fr_know (d := 3) hs3 ?_; clear hs3
    refine wp_seq_k ?_; intro K5 hK5
    refine wp_seq_k ?_; intro K6 hK6
    refine wlit ?_
    refine wl_v (x_move (tmI rfl rfl)) ?_
    refine wl_v (x_move (tmS rfl rfl)) ?_
    refine wl_v (x_len Try.underlying70 (tmS rfl rfl)) ?_
    refine wl_v (x_lss (tmI rfl rfl) (tmI rfl rfl)) ?_
    refine wl_nil ?_
    refine then_n (hK6 _ _ ?_); clear hK6 K6
    refine cnd (tm rfl) (fun hc0 => ?_) (fun hc0 => ?_)
    · try (exfalso; first | with_reducible exact absurd hc0 Bool.false_ne_true | with_reducible exact absurd hc0.symm Bool.false_ne_true | (simp only [nrm] at hc0; omega) | (simp at hc0; done))
      all_goals
       try simp only [nrm] at hc0
       obtain ⟨b4, o4, rfl⟩ := view_some hv (by rw [List.length_map]; omega)
       have hbj' : l.getD j 0 < 256 := nth_lt hb j
       have hnl := numBE_lt hb j (by omega)
       have hnl2 : numBE (l.take j) < 256 ^ 7 := Nat.lt_of_lt_of_le hnl (Nat.pow_le_pow_right (by omega) (by omega))
       have hx : numBE (l.take (j + 1)) = numBE (l.take j) * 256 + l.getD j 0 := numBE_snoc _ j (by omega)
       generalize hq : numBE (l.take j) = q at *
       refine wp_skip ?_
       refine then_n (hK5 _ _ ?_); clear hK5 K5
       refine wp_seq_k ?_; intro K7 hK7
       refine wp_block ?_
       refine wlit ?_
       refine wl_v (x_move (tmI rfl rfl)) ?_
       first
        | refine wl_v (x_mulN (tmI rfl rfl) (ev_cN 256) (fit_u64 (by omega))) ?_
        | refine wl_v (x_mulI (tmI rfl rfl) (ev_cN 256) (IntWalk.u64_in _ (by omega))) ?_
        | refine wl_v (x_mulU (tmI rfl rfl) (ev_cN 256) rfl) ?_
        | refine wl_v (x_mul (tmI rfl rfl) (ev_cN 256)) ?_
       refine wl_v (x_move (tmS rfl rfl)) ?_
       refine wl_v (x_move (tmI rfl rfl)) ?_
       refine wl_v (x_ixs1 Try.underlying70 ts_5 (tmS rfl rfl) (tmI rfl rfl) (by omega)) ?_
       first
        | refine wl_v (x_load Try.underlying5 rfl (tmP rfl rfl) (cellV hS.ok 0 rfl rfl)) ?_
        | refine wl_v (x_load Try.underlying5 rfl (tmP rfl rfl) (cellV hS.ok 0 rfl (getm (by omega)))) ?_
        | refine wl_v (x_load Try.underlying5 rfl (tmP rfl rfl) (cellVs hS.ok 0 rfl (fun _ => rfl) rfl (by omega) rfl)) ?_
       first
        | refine wl_v (x_convN Try.underlying5 Try.underlying23 (tmI rfl rfl) (fit_u64 (by omega))) ?_
        | refine wl_v (x_convU Try.underlying5 Try.underlying23 (tmI rfl rfl) rfl) ?_
        | refine wl_v (x_conv Try.underlying5 Try.underlying23 (tmI rfl rfl)) ?_
       first
        | refine wl_v (x_addN (tmI rfl rfl) (tmI rfl rfl) (fit_u64 (by omega))) ?_
        | refine wl_v (x_addI (tmI rfl rfl) (tmI rfl rfl) (IntWalk.u64_in _ (by omega))) ?_
        | refine wl_v (x_addU (tmI rfl rfl) (tmI rfl rfl) rfl) ?_
        | refine wl_v (x_add (tmI rfl rfl) (tmI rfl rfl)) ?_
       refine wl_v (x_assign (tmI rfl rfl)) ?_
       refine wl_nil ?_
       refine inb_n ?_
       refine then_n (hK7 _ _ ?_); clear hK7 K7
       refine wlit ?_
       refine wl_v (x_move (tmI rfl rfl)) ?_
       first
        | refine wl_v (x_addN (tmI rfl rfl) (ev_cN 1) (fit_i64 (by omega))) ?_
        | refine wl_v (x_addI (tmI rfl rfl) (ev_cN 1) (IntWalk.i64_in _ (by omega))) ?_
        | refine wl_v (x_add (tmI rfl rfl) (ev_cN 1)) ?_
       refine wl_v (x_assign (tmI rfl rfl)) ?_
       refine wl_nil ?_
       exact then_n ⟨_, _, rfl, (by show _ < _; omega), (by repeat (first | exact agree_self | exact agree_refl | refine agree_upd rfl ?_ | refine agree_mix rfl ?_)), j + 1, rfl, (by first | rfl | go_num | exact congrArg (Value.int _) (by first | omega | (simp; done) | (simp; omega))), (by first | rfl | (rw [hx]; done) | (rw [hx]; rfl) | (rw [hx]; go_num)), hS, (by omega)⟩
    try (exfalso; first | with_reducible exact absurd hc0 Bool.false_ne_true | with_reducible exact absurd hc0.symm Bool.false_ne_true | (simp only [nrm] at hc0; omega) | (simp at hc0; done))
    all_goals
     try simp only [nrm] at hc0
     refine wp_exit ?_
     refine then_x ?_; clear hK5 K5
     refine then_x ?_
     refine inb_x ?_
     refine then_n (hK3 _ _ ?_); clear hK3 K3
     refine wp_seq_k ?_; intro K8 hK8
     refine wlit ?_
     refine wl_v (x_move (tmI rfl rfl)) ?_
     refine wl_v (x_assign (tmI rfl rfl)) ?_
     refine wl_nil ?_
     refine then_n (hK8 _ _ ?_); clear hK8 K8
     refine wp_ret ?_
     refine ret1 rfl (.tmp rfl (show _ = Value.int _ _ from rfl)) ?_
     obtain rfl : n = j := by omega
     rw [List.take_of_length_le (by omega)]
     exact ⟨rfl, hS.kp⟩

theorem getN_at {l P Q : List Nat} {v s k : Nat} (h : l = P ++ (be v s ++ Q)) (hk : P.length = k) : getN l k s = v % 256 ^ s := by
  subst hk; subst h
  unfold getN
  rw [List.drop_left, List.take_append_of_le_length (by rw [be_length]; omega), List.take_of_length_le (by rw [be_length]; omega), numBE_be]
theorem part_at {l P Q o : List Nat} {k m : Nat} (h : l = P ++ (o ++ Q)) (hk : P.length = k) (hm : o.length = m) : (l.drop k).take m = o := by
  subst hk; subst hm; subst h
  rw [List.drop_left, List.take_left]
theorem tail_at {l P o : List Nat} {k : Nat} (h : l = P ++ o) (hk : P.length = k) : l.drop k = o := by
  subst hk; subst h
  rw [List.drop_left]
end Go.Proofs.Ytlpgedncnefaoaa
