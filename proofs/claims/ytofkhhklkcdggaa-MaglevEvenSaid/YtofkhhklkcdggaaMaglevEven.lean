
/- Proved: MaglevEven returns true for every input, and changes no memory that was there. Conditions: none. -/
import Derived.Test.YtofkhhklkcdggaaMagF
import Derived.Test.YtofkhhklkcdggaaArrO
import Derived.Test.YtofkhhklkcdggaaArgs
namespace Go.Proofs.Ytofkhhklkcdggaa
open Go.ChangeShapes Go.WideShapes Go.ChangeAt Go.RowKit
theorem atI_get (t : List Int) (i : Nat) : atI t (i : Int) = t.getD i 0 := by
  by_cases h : i < t.length
  · exact atI_nat h
  · rw [atI_out (by omega), List.getD_eq_getElem?_getD, List.getElem?_eq_none (by omega)]
    rfl
def MvdP (T U : List Int) (z : Int) : Prop := (T.length ≠ U.length ∧ z = -1) ∨ (T.length = U.length ∧ z = (mvd T U T.length : Int))
set_option maxRecDepth 100000 in
set_option maxHeartbeats 4000000 in
theorem moved_c (G G2 : Option Addr) (T U : List Int) (w0 : World) (hv : View w0 w0.heap.size G (T.map i64v)) (hu : View w0 w0.heap.size G2 (U.map i64v)) (hT : T.length ≤ 2048) :
    Calls Try.prog 13 #[.agg #[.slice G T.length T.length], .agg #[.slice G2 U.length U.length]] w0 fun e w' => ∃ z, e = .returned (.int .i64 z) ∧ MvdP T U z ∧ Kp [] w0 w' := by
  have hS := ((St.sv w0).vcons rfl hu).vcons rfl hv
  refine ent (n := 34) Try.func13 rfl rfl ?_
  refine wp_seq_k ?_; intro K1 hK1
  refine wlit ?_
  refine wl_e rfl ?_; intro K hK
  refine ow_box hS (tmA rfl rfl) rfl ?_
  clear hS; intro g0_0 w hg0_0 hS
  refine hK _ _ ?_; clear hK K
  refine wl_e rfl ?_; intro K hK
  refine ow_box hS (tmA rfl rfl) rfl ?_
  clear hS; intro g0_1 w hg0_1 hS
  refine hK _ _ ?_; clear hK K
  refine wl_v (x_assign (ev_cN 0)) ?_
  refine wl_nil ?_
  refine then_n (hK1 _ _ ?_); clear hK1 K1
  refine wp_seq_k ?_; intro K2 hK2
  refine wp_seq_k ?_; intro K3 hK3
  refine wlit ?_
  refine wl_v (x_fa 0 Try.underlying27 rfl rfl ts_23 (tmP rfl rfl)) ?_
  first
   | refine wl_v (x_load Try.underlying23 rfl (tmP rfl rfl) (cellB hS.ok 1 rfl rfl)) ?_
   | refine wl_v (x_load Try.underlying23 rfl (tmP rfl rfl) (cellB hS.ok 1 rfl (getm (by omega)))) ?_
  refine wl_v (x_len Try.underlying23 (tmS rfl rfl)) ?_
  refine wl_v (x_fa 0 Try.underlying27 rfl rfl ts_23 (tmP rfl rfl)) ?_
  first
   | refine wl_v (x_load Try.underlying23 rfl (tmP rfl rfl) (cellB hS.ok 0 rfl rfl)) ?_
   | refine wl_v (x_load Try.underlying23 rfl (tmP rfl rfl) (cellB hS.ok 0 rfl (getm (by omega)))) ?_
  refine wl_v (x_len Try.underlying23 (tmS rfl rfl)) ?_
  refine wl_v (x_neq (tmI rfl rfl) (tmI rfl rfl)) ?_
  refine wl_nil ?_
  refine then_n (hK3 _ _ ?_); clear hK3 K3
  refine cnd (tm rfl) (fun hc0 => ?_) (fun hc0 => ?_)
  · try (exfalso; first | with_reducible exact absurd hc0 Bool.false_ne_true | with_reducible exact absurd hc0.symm Bool.false_ne_true | (simp only [nrm] at hc0; omega) | (simp at hc0; done))
    all_goals
     try simp only [nrm] at hc0
     refine wp_seq_k ?_; intro K4 hK4
     refine wlit ?_
     refine wl_v (x_assign ev_c) ?_
     refine wl_nil ?_
     refine then_n (hK4 _ _ ?_); clear hK4 K4
     refine wp_ret ?_
     refine then_r ?_
     refine ret1 rfl (.tmp rfl (show _ = Value.int _ _ from rfl)) ?_
     first
       | (have hjT : j = T.length := by omega
          subst hjT
          exact ⟨_, rfl, .inr ⟨heq, rfl⟩, hS.kp⟩)
       | exact ⟨-1, rfl, .inl ⟨by omega, rfl⟩, hS.kp⟩
       | exact ⟨-1, rfl, .inl ⟨by simp at hc0; omega, rfl⟩, hS.kp⟩
  try (exfalso; first | with_reducible exact absurd hc0 Bool.false_ne_true | with_reducible exact absurd hc0.symm Bool.false_ne_true | (simp only [nrm] at hc0; omega) | (simp at hc0; done))
  all_goals
   try simp only [nrm] at hc0
   have heq : T.length = U.length := by first | omega | (simp at hc0; omega)
   refine wp_skip ?_
   refine then_n (hK2 _ _ ?_); clear hK2 K2
   refine wp_seq_k ?_; intro K5 hK5
   refine wlit ?_
   refine wl_v (x_assign (ev_cN 0)) ?_
   refine wl_nil ?_
   refine then_n (hK5 _ _ ?_); clear hK5 K5
   refine wp_seq_k ?_; intro K6 hK6
   refine wp_seq_k ?_; intro K7 hK7
   refine wlit ?_
   refine wl_v (x_fa 0 Try.underlying27 rfl rfl ts_23 (tmP rfl rfl)) ?_
   first
    | refine wl_v (x_load Try.underlying23 rfl (tmP rfl rfl) (cellB hS.ok 1 rfl rfl)) ?_
    | refine wl_v (x_load Try.underlying23 rfl (tmP rfl rfl) (cellB hS.ok 1 rfl (getm (by omega)))) ?_
   refine wl_v (x_len Try.underlying23 (tmS rfl rfl)) ?_
   refine wl_v (x_move (ev_cN 0)) ?_
   refine wl_nil ?_
   refine then_n (hK7 _ _ ?_); clear hK7 K7
   refine wp_block ?_
   refine lp [5, 6, 7, 18, 19, 20, 21, 22, 23, 24, 25, 26, 27, 28, 29, 30, 31, 32] (fun mz g w => ∃ (j : Nat), mz = T.length - j ∧ g 18 = .int .i64 (j : Int) ∧ g 5 = .int .i64 ((mvd T U j : Nat) : Int) ∧ St [] w0 [.blk g0_1 27 [.slice G2 U.length U.length], .blk g0_0 27 [.slice G T.length T.length], .vw G (T.map i64v), .vw G2 (U.map i64v)] w ∧ (j ≤ T.length)) ?_ ?_
   · exact ⟨_, 0, rfl, (by first | rfl | go_num | exact congrArg (Value.int _) (by first | omega | (simp; done) | (simp; omega))), (by first | rfl | go_num | exact congrArg (Value.int _) (by first | omega | (simp; done) | (simp; omega))), hS, (by omega)⟩
   · clear hS; intro mz g w hI
     obtain ⟨j, rfl, hs18, hs5, hS, hj⟩ := hI
     refine fr_know (d := 18) hs18 ?_; clear hs18
     refine fr_know (d := 5) hs5 ?_; clear hs5
     refine wp_seq_k ?_; intro K8 hK8
     refine wlit ?_
     refine wl_v (x_lss (tmI rfl rfl) (tmI rfl rfl)) ?_
     refine wl_nil ?_
     refine then_n (hK8 _ _ ?_); clear hK8 K8
     refine wp_seq_k ?_; intro K9 hK9
     refine cnd (tm rfl) (fun hc1 => ?_) (fun hc1 => ?_)
     · try (exfalso; first | with_reducible exact absurd hc1 Bool.false_ne_true | with_reducible exact absurd hc1.symm Bool.false_ne_true | (simp only [nrm] at hc1; omega) | (simp at hc1; done))
       all_goals
        try simp only [nrm] at hc1
        obtain ⟨b0, o0, rfl⟩ := view_some hv (by rw [List.length_map]; omega)
        obtain ⟨b1, o1, rfl⟩ := view_some hu (by rw [List.length_map]; omega)
        have hgt : (T.map i64v)[j]? = some (.int .i64 (T.getD j 0)) := getm (by omega)
        have hgu : (U.map i64v)[j]? = some (.int .i64 (U.getD j 0)) := getm (by omega)
        have hle := mvd_le T U j
        refine wp_skip ?_
        refine then_n (hK9 _ _ ?_); clear hK9 K9
        refine wp_seq_k ?_; intro K10 hK10
        refine wp_block ?_
        refine wp_seq_k ?_; intro K11 hK11
        refine wlit ?_
        refine wl_v (x_move (tmI rfl rfl)) ?_
        refine wl_v (x_ixs1 Try.underlying23 ts_3 (tmS rfl rfl) (tmI rfl rfl) (by omega)) ?_
        refine wl_v (x_load (v := .int .i64 (T.getD j 0)) Try.underlying3 rfl (tmP rfl rfl) (cellV hS.ok 2 rfl hgt)) ?_
        refine wl_v (x_assign (tmI rfl rfl)) ?_
        refine wl_v (x_assign (tmI rfl rfl)) ?_
        refine wl_nil ?_
        refine then_n (hK11 _ _ ?_); clear hK11 K11
        refine wp_seq_k ?_; intro K12 hK12
        refine wlit ?_
        refine wl_v (x_move (tmI rfl rfl)) ?_
        refine wl_v (x_fa 0 Try.underlying27 rfl rfl ts_23 (tmP rfl rfl)) ?_
        first
         | refine wl_v (x_load Try.underlying23 rfl (tmP rfl rfl) (cellB hS.ok 0 rfl rfl)) ?_
         | refine wl_v (x_load Try.underlying23 rfl (tmP rfl rfl) (cellB hS.ok 0 rfl (getm (by omega)))) ?_
        refine wl_v (x_move (tmI rfl rfl)) ?_
        refine wl_v (x_ixs1 Try.underlying23 ts_3 (tmS rfl rfl) (tmI rfl rfl) (by omega)) ?_
        refine wl_v (x_load (v := .int .i64 (U.getD j 0)) Try.underlying3 rfl (tmP rfl rfl) (cellV hS.ok 3 rfl hgu)) ?_
        refine wl_v (x_neq (tmI rfl rfl) (tmI rfl rfl)) ?_
        refine wl_nil ?_
        refine then_n (hK12 _ _ ?_); clear hK12 K12
        refine cnd (tm rfl) (fun hc2 => ?_) (fun hc2 => ?_)
        · try (exfalso; first | with_reducible exact absurd hc2 Bool.false_ne_true | with_reducible exact absurd hc2.symm Bool.false_ne_true | (simp only [nrm] at hc2; omega) | (simp at hc2; done))
          all_goals
           try simp only [nrm] at hc2
           have hst : mvd T U (j + 1) = mvd T U j + 1 := by rw [mvd, if_neg (by simpa using hc2)]
           refine wlit ?_
           refine wl_v (x_move (tmI rfl rfl)) ?_
           first
            | refine wl_v (x_addN (tmI rfl rfl) (ev_cN 1) (fit_i64 (by omega))) ?_
            | refine wl_v (x_addI (tmI rfl rfl) (ev_cN 1) (IntWalk.i64_in _ (by omega))) ?_
            | refine wl_v (x_add (tmI rfl rfl) (ev_cN 1)) ?_
           refine wl_v (x_assign (tmI rfl rfl)) ?_
           refine wl_nil ?_
           refine inb_n ?_
           refine then_n (hK10 _ _ ?_); clear hK10 K10
           refine wlit ?_
           first
            | refine wl_v (x_addN (tmI rfl rfl) (ev_cN 1) (fit_i64 (by omega))) ?_
            | refine wl_v (x_addI (tmI rfl rfl) (ev_cN 1) (IntWalk.i64_in _ (by omega))) ?_
            | refine wl_v (x_add (tmI rfl rfl) (ev_cN 1)) ?_
           refine wl_v (x_move (tmI rfl rfl)) ?_
           refine wl_nil ?_
           exact then_n ⟨_, _, rfl, (by show _ < _; omega), (by repeat (first | exact agree_self | exact agree_refl | refine agree_upd rfl ?_ | refine agree_mix rfl ?_)), j + 1, rfl, (by first | rfl | go_num | exact congrArg (Value.int _) (by first | omega | (simp; done) | (simp; omega))), (by first | rfl | go_num | exact congrArg (Value.int _) (by first | omega | (simp; done) | (simp; omega))), hS, (by omega)⟩
        try (exfalso; first | with_reducible exact absurd hc2 Bool.false_ne_true | with_reducible exact absurd hc2.symm Bool.false_ne_true | (simp only [nrm] at hc2; omega) | (simp at hc2; done))
        all_goals
         try simp only [nrm] at hc2
         have hst : mvd T U (j + 1) = mvd T U j := by rw [mvd, if_pos (by simpa using hc2)]; rfl
         refine wp_skip ?_
         refine inb_n ?_
         refine then_n (hK10 _ _ ?_); clear hK10 K10
         refine wlit ?_
         first
          | refine wl_v (x_addN (tmI rfl rfl) (ev_cN 1) (fit_i64 (by omega))) ?_
          | refine wl_v (x_addI (tmI rfl rfl) (ev_cN 1) (IntWalk.i64_in _ (by omega))) ?_
          | refine wl_v (x_add (tmI rfl rfl) (ev_cN 1)) ?_
         refine wl_v (x_move (tmI rfl rfl)) ?_
         refine wl_nil ?_
         exact then_n ⟨_, _, rfl, (by show _ < _; omega), (by repeat (first | exact agree_self | exact agree_refl | refine agree_upd rfl ?_ | refine agree_mix rfl ?_)), j + 1, rfl, (by first | rfl | go_num | exact congrArg (Value.int _) (by first | omega | (simp; done) | (simp; omega))), (by first | rfl | go_num | exact congrArg (Value.int _) (by first | omega | (simp; done) | (simp; omega))), hS, (by omega)⟩
     try (exfalso; first | with_reducible exact absurd hc1 Bool.false_ne_true | with_reducible exact absurd hc1.symm Bool.false_ne_true | (simp only [nrm] at hc1; omega) | (simp at hc1; done))
     all_goals
      try simp only [nrm] at hc1
      refine wp_exit ?_
      refine then_x ?_; clear hK9 K9
      refine then_x ?_
      refine inb_x ?_
      refine then_n (hK6 _ _ ?_); clear hK6 K6
      refine wp_seq_k ?_; intro K13 hK13
      refine wlit ?_
      refine wl_v (x_move (tmI rfl rfl)) ?_
      refine wl_v (x_assign (tmI rfl rfl)) ?_
      refine wl_nil ?_
      refine then_n (hK13 _ _ ?_); clear hK13 K13
      refine wp_ret ?_
      refine ret1 rfl (.tmp rfl (show _ = Value.int _ _ from rfl)) ?_
      first
        | (have hjT : j = T.length := by omega
           subst hjT
           exact ⟨_, rfl, .inr ⟨heq, rfl⟩, hS.kp⟩)
        | exact ⟨-1, rfl, .inl ⟨by omega, rfl⟩, hS.kp⟩
        | exact ⟨-1, rfl, .inl ⟨by simp at hc0; omega, rfl⟩, hS.kp⟩
namespace MaglevEven
set_option maxRecDepth 100000 in
set_option maxHeartbeats 8000000 in
theorem walk_all (k : Nat → Nat) (z : Int) (A : Option Addr) (c : Nat) (l : List Int) (B : Option Addr) (cb : Nat) (m : List Int) (w0 : World) (hkb : Bytes (kL k)) (hz : -9223372036854775808 ≤ z ∧ z ≤ 9223372036854775807)
    (hv : View w0 w0.heap.size A (l.map i64v)) (hvb : View w0 w0.heap.size B (m.map i64v)) :
    Calls Try.prog 4 #[.agg (kC k).toArray, .int .i64 z, .slice A l.length c, .slice B m.length cb] w0 fun e w' => e = .returned (.bool true) ∧ Below w0.heap.size w0 w' := by
  have hS := ((St.sv w0).vcons rfl hvb).vcons rfl hv
  have hbl := fun w hv hq => mbuild_z k z A c l w hkb hv hq hz
  have hbm := fun w hv hq => mbuild_z k z B cb m w hkb hv hq hz
  have hTl : V42 z l → (tabZ k z l).length = z.toNat := fun h => tabZ_len h
  have hTe : V42 z l → tabZ k z l = tabN k l z.toNat z.toNat := fun h => tabZ_yes h
  have hTn : ¬ V42 z l → tabZ k z l = [] := fun h => tabZ_no h
  have hT2 := tabZ_le k z l
  have hU2 := tabZ_le k z m
  generalize tabZ k z l = T at *
  generalize tabZ k z m = U at *
  refine ent (n := 136) Try.func4 rfl rfl ?_
  refine wp_seq_k ?_; intro K1 hK1
  refine wlit ?_
  refine wl_e rfl ?_; intro K hK
  refine ow_box hS (tmA rfl rfl) rfl ?_
  clear hS; intro g0_0 w hg0_0 hS
  refine hK _ _ ?_; clear hK K
  refine wl_v (x_assign ev_c) ?_
  refine wl_nil ?_
  refine then_n (hK1 _ _ ?_); clear hK1 K1
  refine wp_seq_k ?_; intro K2 hK2
  refine wp_seq_k ?_; intro K3 hK3
  refine cutc [18, 19, 20, 21, 22, 23, 24, 25, 26, 27, 28, 29, 30, 31, 32, 33] (fun g w => ∃ (b33 : Bool), g 33 = .bool b33 ∧ St [] w0 [.blk g0_0 22 (kC k), .vw A (l.map i64v), .vw B (m.map i64v)] w ∧ (b33 = false → (l.length ≤ 70 ∧ m.length ≤ 70) ∧ (z < 300 ∨ 2048 < z))) ?_ ?_
  · skip
    refine wlit ?_
    refine wl_v (x_move (tmS rfl rfl)) ?_
    refine wl_v (x_len Try.underlying23 (tmS rfl rfl)) ?_
    refine wl_v (x_gtr (tmI rfl rfl) (ev_cN 70)) ?_
    refine wl_v (x_move (tmB rfl rfl)) ?_
    refine gs_wl (tm (t := 21) rfl) (fun hg1_3 => ?_) (fun hg1_3 => ?_)
    · have hg1_3' := hg1_3; (try simp only [nrm] at hg1_3'); try (exfalso; first | with_reducible exact absurd hg1_3 Bool.false_ne_true | with_reducible exact absurd hg1_3.symm Bool.false_ne_true | omega | (simp at hg1_3; done))
      all_goals
       refine wl_s rfl (want_n rfl rfl rfl rfl (by rw [hg1_3]; rfl)) ?_
       refine wl_s rfl (want_n rfl rfl rfl rfl (by rw [hg1_3]; rfl)) ?_
       refine wl_s rfl (want_n rfl rfl rfl rfl (by rw [hg1_3]; rfl)) ?_
       refine wl_v (x_pickT (tmB rfl rfl) hg1_3 ev_c) ?_
       refine wl_v (x_move (tmB rfl rfl)) ?_
       refine wl_s rfl (want_n rfl rfl rfl rfl rfl) ?_
       refine wl_s rfl (want_n rfl rfl rfl rfl rfl) ?_
       refine wl_s rfl (want_n rfl rfl rfl rfl rfl) ?_
       refine wl_s rfl (want_u rfl rfl rfl rfl) ?_
       refine wl_s rfl (want_u rfl rfl rfl rfl) ?_
       refine wl_s rfl (want_n rfl rfl rfl rfl rfl) ?_
       refine wl_v (x_pickT (tmB rfl rfl) rfl ev_c) ?_
       refine wl_nil ?_
       exact then_n ⟨_, rfl, (by repeat (first | exact agree_self | exact agree_refl | refine agree_upd rfl ?_ | refine agree_mix rfl ?_)), _, (by first | rfl | go_num | exact congrArg (Value.int _) (by first | omega | (simp; done) | (simp; omega))), hS, (by first | (intro _; constructor <;> omega) | (intro h; simp at h; done) | (intro h; cases h) | (intro h; simp at h; constructor <;> omega))⟩
    have hg1_3' := hg1_3; (try simp only [nrm] at hg1_3'); try (exfalso; first | with_reducible exact absurd hg1_3 Bool.false_ne_true | with_reducible exact absurd hg1_3.symm Bool.false_ne_true | omega | (simp at hg1_3; done))
    all_goals
     refine wl_gv (want_y rfl rfl rfl rfl (by rw [hg1_3]; rfl)) (x_move (tmS rfl rfl)) ?_
     refine wl_gv (want_y rfl rfl rfl rfl (by rw [hg1_3]; rfl)) (x_len Try.underlying23 (tmS rfl rfl)) ?_
     refine wl_gv (want_y rfl rfl rfl rfl (by rw [hg1_3]; rfl)) (x_gtr (tmI rfl rfl) (ev_cN 70)) ?_
     refine wl_v (x_pickF (tmB rfl rfl) hg1_3 (tmB rfl rfl)) ?_
     refine wl_v (x_move (tmB rfl rfl)) ?_
     refine gs_wl (tm (t := 26) rfl) (fun hg1_8 => ?_) (fun hg1_8 => ?_)
     · have hg1_8' := hg1_8; (try simp only [nrm] at hg1_8'); try (exfalso; first | with_reducible exact absurd hg1_8 Bool.false_ne_true | with_reducible exact absurd hg1_8.symm Bool.false_ne_true | omega | (simp at hg1_8; done))
       all_goals
        refine wl_s rfl (want_n rfl rfl rfl rfl (by rw [hg1_8]; rfl)) ?_
        refine wl_s rfl (want_n rfl rfl rfl rfl (by rw [hg1_8]; rfl)) ?_
        refine wl_s rfl (want_n rfl rfl rfl rfl (by rw [hg1_8]; rfl)) ?_
        refine wl_s rfl (want_u rfl rfl rfl rfl) ?_
        refine wl_s rfl (want_u rfl rfl rfl rfl) ?_
        refine wl_s rfl (want_n rfl rfl rfl rfl (by rw [hg1_8]; rfl)) ?_
        refine wl_v (x_pickT (tmB rfl rfl) hg1_8 ev_c) ?_
        refine wl_nil ?_
        exact then_n ⟨_, rfl, (by repeat (first | exact agree_self | exact agree_refl | refine agree_upd rfl ?_ | refine agree_mix rfl ?_)), _, (by first | rfl | go_num | exact congrArg (Value.int _) (by first | omega | (simp; done) | (simp; omega))), hS, (by first | (intro _; constructor <;> omega) | (intro h; simp at h; done) | (intro h; cases h) | (intro h; simp at h; constructor <;> omega))⟩
     have hg1_8' := hg1_8; (try simp only [nrm] at hg1_8'); try (exfalso; first | with_reducible exact absurd hg1_8 Bool.false_ne_true | with_reducible exact absurd hg1_8.symm Bool.false_ne_true | omega | (simp at hg1_8; done))
     all_goals
      refine wl_gv (want_y rfl rfl rfl rfl (by rw [hg1_8]; rfl)) (x_move (tmI rfl rfl)) ?_
      refine wl_gv (want_y rfl rfl rfl rfl (by rw [hg1_8]; rfl)) (x_geq (tmI rfl rfl) (ev_cN 300)) ?_
      refine wl_gv (want_y rfl rfl rfl rfl (by rw [hg1_8]; rfl)) (x_move (tmB rfl rfl)) ?_
      refine gs_wl (tm (t := 29) rfl) (fun hg1_11 => ?_) (fun hg1_11 => ?_)
      · have hg1_11' := hg1_11; (try simp only [nrm] at hg1_11'); try (exfalso; first | with_reducible exact absurd hg1_11 Bool.false_ne_true | with_reducible exact absurd hg1_11.symm Bool.false_ne_true | omega | (simp at hg1_11; done))
        all_goals
         refine wl_gv (want_y rfl rfl rfl rfl (by rw [hg1_11]; rfl)) (x_move (tmI rfl rfl)) ?_
         refine wl_gv (want_y rfl rfl rfl rfl (by rw [hg1_11]; rfl)) (x_leq (tmI rfl rfl) (ev_cN 2048)) ?_
         refine wl_gv (want_y rfl rfl rfl rfl (by rw [hg1_8]; rfl)) (x_pickT (tmB rfl rfl) hg1_11 (tmB rfl rfl)) ?_
         refine wl_v (x_pickF (tmB rfl rfl) hg1_8 (tmB rfl rfl)) ?_
         refine wl_nil ?_
         exact then_n ⟨_, rfl, (by repeat (first | exact agree_self | exact agree_refl | refine agree_upd rfl ?_ | refine agree_mix rfl ?_)), _, (by first | rfl | go_num | exact congrArg (Value.int _) (by first | omega | (simp; done) | (simp; omega))), hS, (by first | (intro _; constructor <;> omega) | (intro h; simp at h; done) | (intro h; cases h) | (intro h; simp at h; constructor <;> omega))⟩
      have hg1_11' := hg1_11; (try simp only [nrm] at hg1_11'); try (exfalso; first | with_reducible exact absurd hg1_11 Bool.false_ne_true | with_reducible exact absurd hg1_11.symm Bool.false_ne_true | omega | (simp at hg1_11; done))
      all_goals
       refine wl_s rfl (want_n rfl rfl rfl rfl (by rw [hg1_11]; rfl)) ?_
       refine wl_s rfl (want_n rfl rfl rfl rfl (by rw [hg1_11]; rfl)) ?_
       refine wl_gv (want_y rfl rfl rfl rfl (by rw [hg1_8]; rfl)) (x_pickF (tmB rfl rfl) hg1_11 ev_c) ?_
       refine wl_v (x_pickF (tmB rfl rfl) hg1_8 (tmB rfl rfl)) ?_
       refine wl_nil ?_
       exact then_n ⟨_, rfl, (by repeat (first | exact agree_self | exact agree_refl | refine agree_upd rfl ?_ | refine agree_mix rfl ?_)), _, (by first | rfl | go_num | exact congrArg (Value.int _) (by first | omega | (simp; done) | (simp; omega))), hS, (by first | (intro _; constructor <;> omega) | (intro h; simp at h; done) | (intro h; cases h) | (intro h; simp at h; constructor <;> omega))⟩
  · clear hS; intro g w hI
    obtain ⟨b33, hs33, hS, hb33⟩ := hI
    refine fr_knowQ (d := 33) hs33 ?_; clear hs33
    refine then_n (hK3 _ _ ?_); clear hK3 K3
    refine cnd (tm rfl) (fun hc0 => ?_) (fun hc0 => ?_)
    · try (exfalso; first | with_reducible exact absurd hc0 Bool.false_ne_true | with_reducible exact absurd hc0.symm Bool.false_ne_true | (simp only [nrm] at hc0; omega) | (simp at hc0; done))
      all_goals
       try simp only [nrm] at hc0
       refine wp_seq_k ?_; intro K5 hK5
       refine wlit ?_
       refine wl_e rfl ?_; intro K hK
       refine ow_call Try.func5 rfl rfl (evs_nil) (law42_awake_c _) ?_
       rintro e w ⟨rfl, hk⟩
       refine ⟨_, rfl, ?_⟩
       replace hS := hS.kept hk
       clear hk
       refine hK _ _ ?_; clear hK K
       refine wl_v (x_assign (tmB rfl rfl)) ?_
       refine wl_nil ?_
       refine then_n (hK5 _ _ ?_); clear hK5 K5
       refine wp_ret ?_
       refine then_r ?_
       refine ret1 rfl (.tmp rfl (show _ = Value.bool _ from rfl)) ?_
       exact ⟨rfl, hS.kp.below⟩
    try (exfalso; first | with_reducible exact absurd hc0 Bool.false_ne_true | with_reducible exact absurd hc0.symm Bool.false_ne_true | (simp only [nrm] at hc0; omega) | (simp at hc0; done))
    all_goals
     try simp only [nrm] at hc0
     obtain ⟨⟨hql, hqm⟩, hz3⟩ := hb33 (by simpa using hc0)
     have hT3 : T.length ≤ 300 := by
       by_cases h : V42 z l
       · rw [hTl h]; have := h.1; omega
       · rw [hTn h]; simp
     refine wp_skip ?_
     refine then_n (hK2 _ _ ?_); clear hK2 K2
     refine wp_seq_k ?_; intro K6 hK6
     refine wlit ?_
     refine wl_v (x_loadA (cs := [_, _, _, _, _, _, _, _, _, _, _, _, _, _, _, _]) Try.underlying22 rfl ts_22 (tmP rfl rfl) (rangeB hS.ok 0 rfl rfl)) ?_
     refine wl_v (x_move (tmI rfl rfl)) ?_
     refine wl_v (x_move (tmS rfl rfl)) ?_
     refine wl_e rfl ?_; intro K hK
     refine ow_call Try.func6 rfl rfl (evs_cons (tmA rfl rfl) <| evs_cons (tmI rfl rfl) <| evs_cons (tmS rfl rfl) <| evs_nil) (hbl _ (viewV hS.ok 1 rfl) hql) ?_
     rintro e w ⟨G, E, rfl, hE, hn, hk⟩
     refine ⟨_, rfl, ?_⟩
     replace hS := hS.addn hk hn -- +vt
     clear hn hk
     refine hK _ _ ?_; clear hK K
     refine wl_v (x_move (tmT rfl rfl)) ?_
     refine wl_v (x_ext (tmT rfl rfl) rfl) ?_
     refine wl_v (x_ext (tmT rfl rfl) rfl) ?_
     refine wl_e rfl ?_; intro K hK
     refine ow_alloc hS tz_27 rfl ?_
     clear hS; intro g3_7 w hg3_7 hS
     refine hK _ _ ?_; clear hK K
     refine wl_e rfl ?_; intro K hK
     refine ow_storeA hS 0 rfl ts_27 (tmP rfl rfl) (tmA rfl rfl) rfl rfl rfl ?_
     clear hS; intro w hS
     refine hK _ _ ?_; clear hK K
     refine wl_v (x_assign (tmI rfl rfl)) ?_
     refine wl_nil ?_
     refine then_n (hK6 _ _ ?_); clear hK6 K6
     refine wp_seq_k ?_; intro K7 hK7
     refine wlit ?_
     refine wl_v (x_loadA (cs := [_, _, _, _, _, _, _, _, _, _, _, _, _, _, _, _]) Try.underlying22 rfl ts_22 (tmP rfl rfl) (rangeB hS.ok 2 rfl rfl)) ?_
     refine wl_v (x_move (tmI rfl rfl)) ?_
     refine wl_v (x_move (tmS rfl rfl)) ?_
     refine wl_e rfl ?_; intro K hK
     refine ow_call Try.func6 rfl rfl (evs_cons (tmA rfl rfl) <| evs_cons (tmI rfl rfl) <| evs_cons (tmS rfl rfl) <| evs_nil) (hbm _ (viewV hS.ok 4 rfl) hqm) ?_
     rintro e w ⟨G2, E2, rfl, hE2, hn, hk⟩
     refine ⟨_, rfl, ?_⟩
     replace hS := hS.addn hk hn -- +vu
     clear hn hk
     refine hK _ _ ?_; clear hK K
     refine wl_v (x_move (tmT rfl rfl)) ?_
     refine wl_v (x_ext (tmT rfl rfl) rfl) ?_
     refine wl_v (x_ext (tmT rfl rfl) rfl) ?_
     refine wl_e rfl ?_; intro K hK
     refine ow_alloc hS tz_27 rfl ?_
     clear hS; intro g4_7 w hg4_7 hS
     refine hK _ _ ?_; clear hK K
     refine wl_e rfl ?_; intro K hK
     refine ow_storeA hS 0 rfl ts_27 (tmP rfl rfl) (tmA rfl rfl) rfl rfl rfl ?_
     clear hS; intro w hS
     refine hK _ _ ?_; clear hK K
     refine wl_v (x_assign (tmI rfl rfl)) ?_
     refine wl_nil ?_
     refine then_n (hK7 _ _ ?_); clear hK7 K7
     refine wp_seq_k ?_; intro K8 hK8
     refine wp_seq_k ?_; intro K9 hK9
     refine wlit ?_
     refine wl_v (x_move (tmI rfl rfl)) ?_
     refine wl_v (x_eql (tmI rfl rfl) (ev_cN 0)) ?_
     refine wl_v (x_move (tmI rfl rfl)) ?_
     refine wl_v (x_move (tmS rfl rfl)) ?_
     refine wl_e rfl ?_; intro K hK
     refine ow_call Try.func7 rfl rfl (evs_cons (tmI rfl rfl) <| evs_cons (tmS rfl rfl) <| evs_nil) (rright_z A c l z _ (viewV hS.ok 5 rfl) hql (by omega)) ?_
     rintro e w ⟨br, rfl, hbr, hk⟩
     refine ⟨_, rfl, ?_⟩
     replace hS := hS.kept hk
     clear hk
     have hEb : decide ((E : Int) = ((0 : Nat) : Int)) = br := by
       rcases hE with ⟨h, rfl⟩ | ⟨h, rfl⟩
       · rw [hbr.2 h]; rfl
       · cases hb : br with
         | false => rfl
         | true => exact absurd (hbr.1 hb) h
     refine hK _ _ ?_; clear hK K
     refine wl_v (x_bneq Try.underlying4 (tmB rfl rfl) (tmB rfl rfl)) ?_
     refine wl_v (x_move (tmB rfl rfl)) ?_
     refine gs_wl (tm (t := 55) rfl) (fun hg5_6 => ?_) (fun hg5_6 => ?_)
     · exfalso
       rw [hEb] at hg5_6
       simp at hg5_6
     have hg5_6' := hg5_6; (try simp only [nrm] at hg5_6'); try (exfalso; first | with_reducible exact absurd hg5_6 Bool.false_ne_true | with_reducible exact absurd hg5_6.symm Bool.false_ne_true | omega | (simp at hg5_6; done))
     all_goals
      refine wl_gv (want_y rfl rfl rfl rfl (by rw [hg5_6]; rfl)) (x_move (tmI rfl rfl)) ?_
      refine wl_gv (want_y rfl rfl rfl rfl (by rw [hg5_6]; rfl)) (x_eql (tmI rfl rfl) (ev_cN 0)) ?_
      refine wl_gv (want_y rfl rfl rfl rfl (by rw [hg5_6]; rfl)) (x_move (tmI rfl rfl)) ?_
      refine wl_gv (want_y rfl rfl rfl rfl (by rw [hg5_6]; rfl)) (x_move (tmS rfl rfl)) ?_
      refine wl_g (want_y rfl rfl rfl rfl (by rw [hg5_6]; rfl)) ?_; intro K hK
      refine ow_call Try.func7 rfl rfl (evs_cons (tmI rfl rfl) <| evs_cons (tmS rfl rfl) <| evs_nil) (rright_z B cb m z _ (viewV hS.ok 6 rfl) hqm (by omega)) ?_
      rintro e w ⟨br2, rfl, hbr2, hk⟩
      refine ⟨_, rfl, ?_⟩
      replace hS := hS.kept hk
      clear hk
      have hEb2 : decide ((E2 : Int) = ((0 : Nat) : Int)) = br2 := by
        rcases hE2 with ⟨h, rfl⟩ | ⟨h, rfl⟩
        · rw [hbr2.2 h]; rfl
        · cases hb : br2 with
          | false => rfl
          | true => exact absurd (hbr2.1 hb) h
      refine hK _ _ ?_; clear hK K
      refine wl_gv (want_y rfl rfl rfl rfl (by rw [hg5_6]; rfl)) (x_bneq Try.underlying4 (tmB rfl rfl) (tmB rfl rfl)) ?_
      refine wl_v (x_pickF (tmB rfl rfl) hg5_6 (tmB rfl rfl)) ?_
      refine wl_nil ?_
      refine then_n (hK9 _ _ ?_); clear hK9 K9
      refine cnd (tm rfl) (fun hc1 => ?_) (fun hc1 => ?_)
      · exfalso
        first
          | (rw [hEb2] at hc1; simp at hc1)
          | (simp at hc1; simp_all)
      try (exfalso; first | with_reducible exact absurd hc1 Bool.false_ne_true | with_reducible exact absurd hc1.symm Bool.false_ne_true | (simp only [nrm] at hc1; omega) | (simp at hc1; done))
      all_goals
       try simp only [nrm] at hc1
       refine wp_skip ?_
       refine then_n (hK8 _ _ ?_); clear hK8 K8
       refine wp_seq_k ?_; intro K10 hK10
       refine wlit ?_
       refine wl_v (x_assign (ev_cN 0)) ?_
       refine wl_nil ?_
       refine then_n (hK10 _ _ ?_); clear hK10 K10
       refine wp_seq_k ?_; intro K11 hK11
       refine wp_seq_k ?_; intro K12 hK12
       refine wlit ?_
       refine wl_v (x_assign (ev_cN 0)) ?_
       refine wl_nil ?_
       refine then_n (hK12 _ _ ?_); clear hK12 K12
       refine wp_block ?_
       refine lp [13, 14, 63, 64, 65, 66, 67, 68, 69, 70, 71, 72, 73, 74, 75, 76, 77, 78, 79, 80, 81] (fun mz g w => ∃ (j : Nat), mz = T.length - j ∧ g 14 = .int .i64 (j : Int) ∧ g 13 = .int .i64 ((mvd T U j : Nat) : Int) ∧ St [] w0 [.blk g4_7 27 [.slice G2 U.length U.length], .vw G2 (U.map i64v), .blk g3_7 27 [.slice G T.length T.length], .vw G (T.map i64v), .vw A (l.map i64v)] w ∧ (j ≤ T.length)) ?_ ?_
       · exact ⟨_, 0, rfl, (by first | rfl | go_num | exact congrArg (Value.int _) (by first | omega | (simp; done) | (simp; omega))), (by first | rfl | go_num | exact congrArg (Value.int _) (by first | omega | (simp; done) | (simp; omega))), (hS.pick [0, 1, 2, 3, 5] rfl rfl), (by omega)⟩
       · clear hS; intro mz g w hI
         obtain ⟨j, rfl, hs14, hs13, hS, hj⟩ := hI
         refine fr_know (d := 14) hs14 ?_; clear hs14
         refine fr_know (d := 13) hs13 ?_; clear hs13
         refine wp_seq_k ?_; intro K13 hK13
         refine wp_seq_k ?_; intro K14 hK14
         refine wlit ?_
         refine wl_v (x_move (tmI rfl rfl)) ?_
         refine wl_v (x_loadA (cs := [_]) Try.underlying27 rfl ts_27 (tmP rfl rfl) (rangeB hS.ok 2 rfl rfl)) ?_
         refine wl_e rfl ?_; intro K hK
         refine ow_call Try.func8 rfl rfl (evs_cons (tmA rfl rfl) <| evs_nil) (mTlen_c G T.length T.length _) ?_
         rintro e w ⟨rfl, hk⟩
         refine ⟨_, rfl, ?_⟩
         replace hS := hS.kept hk
         clear hk
         refine hK _ _ ?_; clear hK K
         refine wl_v (x_lss (tmI rfl rfl) (tmI rfl rfl)) ?_
         refine wl_v (x_move (tmB rfl rfl)) ?_
         refine gs_wl (tm (t := 67) rfl) (fun hg9_4 => ?_) (fun hg9_4 => ?_)
         · have hg9_4' := hg9_4; (try simp only [nrm] at hg9_4'); try (exfalso; first | with_reducible exact absurd hg9_4 Bool.false_ne_true | with_reducible exact absurd hg9_4.symm Bool.false_ne_true | omega | (simp at hg9_4; done))
           all_goals
            refine wl_gv (want_y rfl rfl rfl rfl (by rw [hg9_4]; rfl)) (x_move (tmI rfl rfl)) ?_
            refine wl_gv (want_y rfl rfl rfl rfl (by rw [hg9_4]; rfl)) (x_lss (tmI rfl rfl) (ev_cN 300)) ?_
            refine wl_v (x_pickT (tmB rfl rfl) hg9_4 (tmB rfl rfl)) ?_
            refine wl_nil ?_
            refine then_n (hK14 _ _ ?_); clear hK14 K14
            refine cnd (tm rfl) (fun hc2 => ?_) (fun hc2 => ?_)
            · try (exfalso; first | with_reducible exact absurd hc2 Bool.false_ne_true | with_reducible exact absurd hc2.symm Bool.false_ne_true | (simp only [nrm] at hc2; omega) | (simp at hc2; done))
              all_goals
               try simp only [nrm] at hc2
               have hle := mvd_le T U j
               refine wp_skip ?_
               refine then_n (hK13 _ _ ?_); clear hK13 K13
               refine wp_seq_k ?_; intro K15 hK15
               refine wp_block ?_
               refine wp_seq_k ?_; intro K16 hK16
               refine rg_startk 0 hS mixed_ ?_
               clear hS; intro w hS
               refine rg_take 0 rfl rfl (by kernel_rfl) (by kernel_rfl) (by kernel_rfl) (want_0) (fun w hok => x_loadA (cs := [_]) Try.underlying27 rfl ts_27 (tmP rfl rfl) (rangeB hok 2 rfl rfl)) ?_
               refine rg_take 1 rfl rfl (by kernel_rfl) (by kernel_rfl) (by kernel_rfl) (want_0) (fun w hok => x_move (tmI rfl rfl)) ?_
               refine rg_take 3 rfl rfl (by kernel_rfl) (by kernel_rfl) (by kernel_rfl) (want_0) (fun w hok => x_loadA (cs := [_]) Try.underlying27 rfl ts_27 (tmP rfl rfl) (rangeB hok 0 rfl rfl)) ?_
               refine rg_take 4 rfl rfl (by kernel_rfl) (by kernel_rfl) (by kernel_rfl) (want_0) (fun w hok => x_move (tmI rfl rfl)) ?_
               refine rg_step 2 rfl (by kernel_rfl) (want_0) (oks_drop hS 0 rfl) ?_; intro K hK
               refine ow_call Try.func9 rfl rfl (evs_cons (tmA rfl rfl) <| evs_cons (tmI rfl rfl) <| evs_nil) (mTat_c G T.length T j _ (viewV hS.ok 3 rfl)) ?_
               rintro e w ⟨rfl, hk⟩
               refine ⟨_, rfl, ?_⟩
               rw [atI_get]
               replace hS := hS.kept hk
               clear hk
               refine hK _ _ ?_; clear hK K
               refine rg_step 5 rfl (by kernel_rfl) (want_0) (oks_drop hS 0 rfl) ?_; intro K hK
               refine ow_call Try.func9 rfl rfl (evs_cons (tmA rfl rfl) <| evs_cons (tmI rfl rfl) <| evs_nil) (mTat_c G2 U.length U j _ (viewV hS.ok 1 rfl)) ?_
               rintro e w ⟨rfl, hk⟩
               refine ⟨_, rfl, ?_⟩
               rw [atI_get]
               replace hS := hS.kept hk
               clear hk
               refine hK _ _ ?_; clear hK K
               refine rg_take 6 rfl rfl (by kernel_rfl) (by kernel_rfl) (by kernel_rfl) (want_0) (fun w hok => x_neq (tmI rfl rfl) (tmI rfl rfl)) ?_
               refine rg_done (oks_drop hS 0 rfl) (by kernel_rfl) ?_
               refine then_n (hK16 _ _ ?_); clear hK16 K16
               refine cnd (tm rfl) (fun hc3 => ?_) (fun hc3 => ?_)
               · try (exfalso; first | with_reducible exact absurd hc3 Bool.false_ne_true | with_reducible exact absurd hc3.symm Bool.false_ne_true | (simp only [nrm] at hc3; omega) | (simp at hc3; done))
                 all_goals
                  try simp only [nrm] at hc3
                  have hst : mvd T U (j + 1) = mvd T U j + 1 := by rw [mvd, if_neg (by simpa using hc3)]
                  refine wlit ?_
                  refine wl_v (x_move (tmI rfl rfl)) ?_
                  first
                   | refine wl_v (x_addN (tmI rfl rfl) (ev_cN 1) (fit_i64 (by omega))) ?_
                   | refine wl_v (x_addI (tmI rfl rfl) (ev_cN 1) (IntWalk.i64_in _ (by omega))) ?_
                   | refine wl_v (x_add (tmI rfl rfl) (ev_cN 1)) ?_
                  refine wl_v (x_assign (tmI rfl rfl)) ?_
                  refine wl_nil ?_
                  refine inb_n ?_
                  refine then_n (hK15 _ _ ?_); clear hK15 K15
                  refine wlit ?_
                  refine wl_v (x_move (tmI rfl rfl)) ?_
                  first
                   | refine wl_v (x_addN (tmI rfl rfl) (ev_cN 1) (fit_i64 (by omega))) ?_
                   | refine wl_v (x_addI (tmI rfl rfl) (ev_cN 1) (IntWalk.i64_in _ (by omega))) ?_
                   | refine wl_v (x_add (tmI rfl rfl) (ev_cN 1)) ?_
                  refine wl_v (x_assign (tmI rfl rfl)) ?_
                  refine wl_nil ?_
                  exact then_n ⟨_, _, rfl, (by show _ < _; omega), (by repeat (first | exact agree_self | exact agree_refl | refine agree_upd rfl ?_ | refine agree_mix rfl ?_)), j + 1, rfl, (by first | rfl | go_num | exact congrArg (Value.int _) (by first | omega | (simp; done) | (simp; omega))), (by first | rfl | go_num | exact congrArg (Value.int _) (by first | omega | (simp; done) | (simp; omega))), hS, (by omega)⟩
               try (exfalso; first | with_reducible exact absurd hc3 Bool.false_ne_true | with_reducible exact absurd hc3.symm Bool.false_ne_true | (simp only [nrm] at hc3; omega) | (simp at hc3; done))
               all_goals
                try simp only [nrm] at hc3
                have hst : mvd T U (j + 1) = mvd T U j := by rw [mvd, if_pos (by simpa using hc3)]; rfl
                refine wp_skip ?_
                refine inb_n ?_
                refine then_n (hK15 _ _ ?_); clear hK15 K15
                refine wlit ?_
                refine wl_v (x_move (tmI rfl rfl)) ?_
                first
                 | refine wl_v (x_addN (tmI rfl rfl) (ev_cN 1) (fit_i64 (by omega))) ?_
                 | refine wl_v (x_addI (tmI rfl rfl) (ev_cN 1) (IntWalk.i64_in _ (by omega))) ?_
                 | refine wl_v (x_add (tmI rfl rfl) (ev_cN 1)) ?_
                refine wl_v (x_assign (tmI rfl rfl)) ?_
                refine wl_nil ?_
                exact then_n ⟨_, _, rfl, (by show _ < _; omega), (by repeat (first | exact agree_self | exact agree_refl | refine agree_upd rfl ?_ | refine agree_mix rfl ?_)), j + 1, rfl, (by first | rfl | go_num | exact congrArg (Value.int _) (by first | omega | (simp; done) | (simp; omega))), (by first | rfl | go_num | exact congrArg (Value.int _) (by first | omega | (simp; done) | (simp; omega))), hS, (by omega)⟩
            try (exfalso; first | with_reducible exact absurd hc2 Bool.false_ne_true | with_reducible exact absurd hc2.symm Bool.false_ne_true | (simp only [nrm] at hc2; omega) | (simp at hc2; done))
            all_goals
             try simp only [nrm] at hc2
             refine wp_exit ?_
             refine then_x ?_; clear hK13 K13
             refine then_x ?_
             refine inb_x ?_
             refine then_n (hK11 _ _ ?_); clear hK11 K11
             refine wp_seq_k ?_; intro K17 hK17
             refine wp_seq_k ?_; intro K18 hK18
             refine rg_startk 0 hS mixed_ ?_
             clear hS; intro w hS
             refine rg_take 0 rfl rfl (by kernel_rfl) (by kernel_rfl) (by kernel_rfl) (want_0) (fun w hok => x_loadA (cs := [_]) Try.underlying27 rfl ts_27 (tmP rfl rfl) (rangeB hok 2 rfl rfl)) ?_
             refine rg_take 2 rfl rfl (by kernel_rfl) (by kernel_rfl) (by kernel_rfl) (want_0) (fun w hok => x_loadA (cs := [_]) Try.underlying27 rfl ts_27 (tmP rfl rfl) (rangeB hok 0 rfl rfl)) ?_
             refine rg_step 1 rfl (by kernel_rfl) (want_0) (oks_drop hS 0 rfl) ?_; intro K hK
             refine ow_call Try.func8 rfl rfl (evs_cons (tmA rfl rfl) <| evs_nil) (mTlen_c G T.length T.length _) ?_
             rintro e w ⟨rfl, hk⟩
             refine ⟨_, rfl, ?_⟩
             replace hS := hS.kept hk
             clear hk
             refine hK _ _ ?_; clear hK K
             refine rg_step 3 rfl (by kernel_rfl) (want_0) (oks_drop hS 0 rfl) ?_; intro K hK
             refine ow_call Try.func8 rfl rfl (evs_cons (tmA rfl rfl) <| evs_nil) (mTlen_c G2 U.length U.length _) ?_
             rintro e w ⟨rfl, hk⟩
             refine ⟨_, rfl, ?_⟩
             replace hS := hS.kept hk
             clear hk
             refine hK _ _ ?_; clear hK K
             refine rg_take 4 rfl rfl (by kernel_rfl) (by kernel_rfl) (by kernel_rfl) (want_0) (fun w hok => x_neq (tmI rfl rfl) (tmI rfl rfl)) ?_
             refine rg_done (oks_drop hS 0 rfl) (by kernel_rfl) ?_
             refine then_n (hK18 _ _ ?_); clear hK18 K18
             refine cutc [13] (fun g w => ∃ (zz : Int), g 13 = .int .i64 zz ∧ St [] w0 [.blk g4_7 27 [.slice G2 U.length U.length], .vw G2 (U.map i64v), .blk g3_7 27 [.slice G T.length T.length], .vw G (T.map i64v), .vw A (l.map i64v)] w ∧ (MvdP T U zz)) ?_ ?_
             · skip
               refine cnd (tm rfl) (fun hc4 => ?_) (fun hc4 => ?_)
               · try (exfalso; first | with_reducible exact absurd hc4 Bool.false_ne_true | with_reducible exact absurd hc4.symm Bool.false_ne_true | (simp only [nrm] at hc4; omega) | (simp at hc4; done))
                 all_goals
                  try simp only [nrm] at hc4
                  refine wlit ?_
                  refine wl_v (x_assign ev_c) ?_
                  refine wl_nil ?_
                  exact then_n ⟨_, rfl, (by repeat (first | exact agree_self | exact agree_refl | refine agree_upd rfl ?_ | refine agree_mix rfl ?_)), _, (by first | rfl | go_num | exact congrArg (Value.int _) (by first | omega | (simp; done) | (simp; omega))), hS, (by first | exact .inl ⟨by omega, rfl⟩ | (refine .inr ⟨by omega, ?_⟩; (have hjT : j = T.length := by omega); subst hjT; rfl))⟩
               try (exfalso; first | with_reducible exact absurd hc4 Bool.false_ne_true | with_reducible exact absurd hc4.symm Bool.false_ne_true | (simp only [nrm] at hc4; omega) | (simp at hc4; done))
               all_goals
                try simp only [nrm] at hc4
                refine wp_skip ?_
                exact then_n ⟨_, rfl, (by repeat (first | exact agree_self | exact agree_refl | refine agree_upd rfl ?_ | refine agree_mix rfl ?_)), _, (by first | rfl | go_num | exact congrArg (Value.int _) (by first | omega | (simp; done) | (simp; omega))), hS, (by first | exact .inl ⟨by omega, rfl⟩ | (refine .inr ⟨by omega, ?_⟩; (have hjT : j = T.length := by omega); subst hjT; rfl))⟩
             · clear hS; intro g w hI
               obtain ⟨zz, hs13, hS, hzz⟩ := hI
               refine fr_knowQ (d := 13) hs13 ?_; clear hs13
               refine then_n (hK17 _ _ ?_); clear hK17 K17
               refine wp_seq_k ?_; intro K20 hK20
               refine wp_seq_k ?_; intro K21 hK21
               refine wlit ?_
               refine wl_v (x_loadA (cs := [_]) Try.underlying27 rfl ts_27 (tmP rfl rfl) (rangeB hS.ok 2 rfl rfl)) ?_
               refine wl_v (x_loadA (cs := [_]) Try.underlying27 rfl ts_27 (tmP rfl rfl) (rangeB hS.ok 0 rfl rfl)) ?_
               refine wl_e rfl ?_; intro K hK
               refine ow_call Try.func13 rfl rfl (evs_cons (tmA rfl rfl) <| evs_cons (tmA rfl rfl) <| evs_nil) (moved_c G G2 T U _ (viewV hS.ok 3 rfl) (viewV hS.ok 1 rfl) hT2) ?_
               rintro e w ⟨z2, rfl, hz2, hk⟩
               refine ⟨_, rfl, ?_⟩
               replace hS := hS.kept hk
               clear hk
               obtain rfl : zz = z2 := by
                 rcases hzz with ⟨h1, h2⟩ | ⟨h1, h2⟩ <;> rcases hz2 with ⟨h3, h4⟩ | ⟨h3, h4⟩
                 · rw [h2, h4]
                 · exact absurd h3 h1
                 · exact absurd h1 h3
                 · rw [h2, h4]
               refine hK _ _ ?_; clear hK K
               refine wl_v (x_move (tmI rfl rfl)) ?_
               refine wl_v (x_neq (tmI rfl rfl) (tmI rfl rfl)) ?_
               refine wl_nil ?_
               refine then_n (hK21 _ _ ?_); clear hK21 K21
               refine cnd (tm rfl) (fun hc5 => ?_) (fun hc5 => ?_)
               · exfalso
                 simp at hc5
               try (exfalso; first | with_reducible exact absurd hc5 Bool.false_ne_true | with_reducible exact absurd hc5.symm Bool.false_ne_true | (simp only [nrm] at hc5; omega) | (simp at hc5; done))
               all_goals
                try simp only [nrm] at hc5
                refine wp_skip ?_
                refine then_n (hK20 _ _ ?_); clear hK20 K20
                refine wp_seq_k ?_; intro K22 hK22
                refine wp_seq_k ?_; intro K23 hK23
                refine wlit ?_
                refine wl_v (x_assign (ev_cN 0)) ?_
                refine wl_nil ?_
                refine then_n (hK23 _ _ ?_); clear hK23 K23
                refine wp_block ?_
                refine lp [8, 15, 16, 17, 92, 93, 94, 95, 96, 97, 98, 99, 100, 101, 102, 103, 104, 105, 106, 107, 108, 109, 110, 111, 112, 113, 114, 115, 116, 117, 118, 119, 120, 121, 122, 123, 124, 125, 126, 127, 128, 129, 130, 131, 132, 133, 134] (fun mz g w => ∃ (i : Nat), mz = l.length - i ∧ g 15 = .int .i64 (i : Int) ∧ St [] w0 [.blk g4_7 27 [.slice G2 U.length U.length], .vw G2 (U.map i64v), .blk g3_7 27 [.slice G T.length T.length], .vw G (T.map i64v), .vw A (l.map i64v)] w ∧ (i ≤ l.length)) ?_ ?_
                · exact ⟨_, 0, rfl, (by first | rfl | go_num | exact congrArg (Value.int _) (by first | omega | (simp; done) | (simp; omega))), hS, (by omega)⟩
                · clear hS; intro mz g w hI
                  obtain ⟨i, rfl, hs15, hS, hi⟩ := hI
                  refine fr_know (d := 15) hs15 ?_; clear hs15
                  refine wp_seq_k ?_; intro K24 hK24
                  refine wp_seq_k ?_; intro K25 hK25
                  refine wlit ?_
                  refine wl_v (x_move (tmI rfl rfl)) ?_
                  refine wl_v (x_move (tmS rfl rfl)) ?_
                  refine wl_v (x_len Try.underlying23 (tmS rfl rfl)) ?_
                  refine wl_v (x_lss (tmI rfl rfl) (tmI rfl rfl)) ?_
                  refine wl_v (x_move (tmB rfl rfl)) ?_
                  refine gs_wl (tm (t := 96) rfl) (fun hg18_4 => ?_) (fun hg18_4 => ?_)
                  · have hg18_4' := hg18_4; (try simp only [nrm] at hg18_4'); try (exfalso; first | with_reducible exact absurd hg18_4 Bool.false_ne_true | with_reducible exact absurd hg18_4.symm Bool.false_ne_true | omega | (simp at hg18_4; done))
                    all_goals
                     refine wl_gv (want_y rfl rfl rfl rfl (by rw [hg18_4]; rfl)) (x_move (tmI rfl rfl)) ?_
                     refine wl_gv (want_y rfl rfl rfl rfl (by rw [hg18_4]; rfl)) (x_eql (tmI rfl rfl) (ev_cN 0)) ?_
                     refine wl_v (x_pickT (tmB rfl rfl) hg18_4 (tmB rfl rfl)) ?_
                     refine wl_nil ?_
                     refine then_n (hK25 _ _ ?_); clear hK25 K25
                     refine cnd (tm rfl) (fun hc6 => ?_) (fun hc6 => ?_)
                     · try (exfalso; first | with_reducible exact absurd hc6 Bool.false_ne_true | with_reducible exact absurd hc6.symm Bool.false_ne_true | (simp only [nrm] at hc6; omega) | (simp at hc6; done))
                       all_goals
                        try simp only [nrm] at hc6
                        have hE0 : E = 0 := by first | omega | (simp at hc6; omega)
                        have hV : V42 z l := by
                          rcases hE with ⟨h, _⟩ | ⟨_, h⟩
                          · exact h
                          · omega
                        obtain ⟨n, hzn⟩ := Int.eq_ofNat_of_zero_le (a := z) (by have := hV.2.2.2.1; have := hV.2.2.2.2; omega)
                        have hzt : z.toNat = n := by omega
                        have hTn' := hTl hV
                        have hTe' := hTe hV
                        rw [hzt] at hTn' hTe'
                        have hP : isP n := by have := hV.2.1; rwa [hzt] at this
                        have hil : i < l.length := by first | omega | (simp_all; done)
                        have hhits := tab_hits (k := k) hP hV.2.2.1 hV.2.2.2.1 hil n (Nat.le_refl _)
                        have hbd := hits_bd (n := n) (i := i) (show 0 < l.length by omega) hil
                        rw [← hTe'] at hhits
                        have hcq := cntI_eq T (l.getD i 0) n (by omega)
                        rw [List.take_of_length_le (by omega), hhits] at hcq
                        rw [← hcq] at hbd
                        clear hhits hcq hTe'
                        have hC0 := cntI_0 T (l.getD i 0)
                        have hCs := cntI_s T (l.getD i 0)
                        have hCl := cntI_le T (l.getD i 0)
                        generalize cntI T (l.getD i 0) = C at *
                        have hn300 : n ≤ 2048 := by have := hV.1; omega
                        obtain ⟨b0, o0, hA0⟩ := view_some hv (by rw [List.length_map]; omega)
                        have hgl : (l.map i64v)[i]? = some (.int .i64 (l.getD i 0)) := getm hil
                        refine wp_skip ?_
                        refine then_n (hK24 _ _ ?_); clear hK24 K24
                        refine wp_seq_k ?_; intro K26 hK26
                        refine wp_block ?_
                        refine wp_seq_k ?_; intro K27 hK27
                        refine wlit ?_
                        refine wl_v (x_assign (ev_cN 0)) ?_
                        refine wl_nil ?_
                        refine then_n (hK27 _ _ ?_); clear hK27 K27
                        refine wp_seq_k ?_; intro K28 hK28
                        refine wp_seq_k ?_; intro K29 hK29
                        refine wlit ?_
                        refine wl_v (x_assign (ev_cN 0)) ?_
                        refine wl_nil ?_
                        refine then_n (hK29 _ _ ?_); clear hK29 K29
                        refine wp_block ?_
                        refine lp [16, 17, 102, 103, 104, 105, 106, 107, 108, 109, 110, 111, 112, 113, 114, 115, 116] (fun mz g w => ∃ (p : Nat), mz = n - p ∧ g 16 = .int .i64 ((C p : Nat) : Int) ∧ g 17 = .int .i64 (p : Int) ∧ St [] w0 [.blk g4_7 27 [.slice G2 U.length U.length], .vw G2 (U.map i64v), .blk g3_7 27 [.slice G T.length T.length], .vw G (T.map i64v), .vw A (l.map i64v)] w ∧ (p ≤ n)) ?_ ?_
                        · exact ⟨_, 0, rfl, (by first | rfl | go_num | exact congrArg (Value.int _) (by first | omega | (simp; done) | (simp; omega))), (by first | rfl | go_num | exact congrArg (Value.int _) (by first | omega | (simp; done) | (simp; omega))), hS, (by omega)⟩
                        · clear hS; intro mz g w hI
                          obtain ⟨p, rfl, hs16, hs17, hS, hp⟩ := hI
                          refine fr_know (d := 16) hs16 ?_; clear hs16
                          refine fr_know (d := 17) (upd_ne rfl hs17) ?_; clear hs17
                          refine wp_seq_k ?_; intro K30 hK30
                          refine wp_seq_k ?_; intro K31 hK31
                          refine wlit ?_
                          refine wl_v (x_move (tmI rfl rfl)) ?_
                          refine wl_v (x_move (tmI rfl rfl)) ?_
                          refine wl_v (x_lss (tmI rfl rfl) (tmI rfl rfl)) ?_
                          refine wl_nil ?_
                          refine then_n (hK31 _ _ ?_); clear hK31 K31
                          refine cnd (tm rfl) (fun hc7 => ?_) (fun hc7 => ?_)
                          · try (exfalso; first | with_reducible exact absurd hc7 Bool.false_ne_true | with_reducible exact absurd hc7.symm Bool.false_ne_true | (simp only [nrm] at hc7; omega) | (simp at hc7; done))
                            all_goals
                             try simp only [nrm] at hc7
                             have hct := hCs p
                             have hcl := hCl p
                             refine wp_skip ?_
                             refine then_n (hK30 _ _ ?_); clear hK30 K30
                             refine wp_seq_k ?_; intro K32 hK32
                             refine wp_block ?_
                             refine wp_seq_k ?_; intro K33 hK33
                             refine rg_startk 0 hS mixed_ ?_
                             clear hS; intro w hS
                             refine rg_take 0 rfl rfl (by kernel_rfl) (by kernel_rfl) (by kernel_rfl) (want_0) (fun w hok => x_loadA (cs := [_]) Try.underlying27 rfl ts_27 (tmP rfl rfl) (rangeB hok 2 rfl rfl)) ?_
                             refine rg_take 1 rfl rfl (by kernel_rfl) (by kernel_rfl) (by kernel_rfl) (want_0) (fun w hok => x_move (tmI rfl rfl)) ?_
                             refine rg_take 3 rfl rfl (by kernel_rfl) (by kernel_rfl) (by kernel_rfl) (want_0) (fun w hok => x_move (tmS rfl rfl)) ?_
                             refine rg_take 4 rfl rfl (by kernel_rfl) (by kernel_rfl) (by kernel_rfl) (want_0) (fun w hok => x_move (tmI rfl rfl)) ?_
                             refine rg_take 5 rfl rfl (by kernel_rfl) (by kernel_rfl) (by kernel_rfl) (want_0) (fun w hok => x_ixs1 Try.underlying23 ts_3 (tmS rfl (congrArg (fun q => Value.slice q l.length c) hA0)) (tmI rfl rfl) (by omega)) ?_
                             refine rg_take 6 rfl rfl (by kernel_rfl) (by kernel_rfl) (by kernel_rfl) (want_0) (fun w hok => x_load (v := .int .i64 (l.getD i 0)) Try.underlying3 rfl (tmP rfl rfl) (cellV hok 4 (congrArg (fun q => some (Ent.vw q (l.map i64v))) hA0) hgl)) ?_
                             refine rg_step 2 rfl (by kernel_rfl) (want_0) (oks_drop hS 0 rfl) ?_; intro K hK
                             refine ow_call Try.func9 rfl rfl (evs_cons (tmA rfl rfl) <| evs_cons (tmI rfl rfl) <| evs_nil) (mTat_c G T.length T p _ (viewV hS.ok 3 rfl)) ?_
                             rintro e w ⟨rfl, hk⟩
                             refine ⟨_, rfl, ?_⟩
                             rw [atI_get]
                             replace hS := hS.kept hk
                             clear hk
                             refine hK _ _ ?_; clear hK K
                             refine rg_take 7 rfl rfl (by kernel_rfl) (by kernel_rfl) (by kernel_rfl) (want_0) (fun w hok => x_eql (tmI rfl rfl) (tmI rfl rfl)) ?_
                             refine rg_done (oks_drop hS 0 rfl) (by kernel_rfl) ?_
                             refine then_n (hK33 _ _ ?_); clear hK33 K33
                             refine cnd (tm rfl) (fun hc8 => ?_) (fun hc8 => ?_)
                             · try (exfalso; first | with_reducible exact absurd hc8 Bool.false_ne_true | with_reducible exact absurd hc8.symm Bool.false_ne_true | (simp only [nrm] at hc8; omega) | (simp at hc8; done))
                               all_goals
                                try simp only [nrm] at hc8
                                rw [if_pos (by simpa using hc8)] at hct
                                refine wlit ?_
                                refine wl_v (x_move (tmI rfl rfl)) ?_
                                first
                                 | refine wl_v (x_addN (tmI rfl rfl) (ev_cN 1) (fit_i64 (by omega))) ?_
                                 | refine wl_v (x_addI (tmI rfl rfl) (ev_cN 1) (IntWalk.i64_in _ (by omega))) ?_
                                 | refine wl_v (x_add (tmI rfl rfl) (ev_cN 1)) ?_
                                refine wl_v (x_assign (tmI rfl rfl)) ?_
                                refine wl_nil ?_
                                refine inb_n ?_
                                refine then_n (hK32 _ _ ?_); clear hK32 K32
                                refine wlit ?_
                                refine wl_v (x_move (tmI rfl rfl)) ?_
                                first
                                 | refine wl_v (x_addN (tmI rfl rfl) (ev_cN 1) (fit_i64 (by omega))) ?_
                                 | refine wl_v (x_addI (tmI rfl rfl) (ev_cN 1) (IntWalk.i64_in _ (by omega))) ?_
                                 | refine wl_v (x_add (tmI rfl rfl) (ev_cN 1)) ?_
                                refine wl_v (x_assign (tmI rfl rfl)) ?_
                                refine wl_nil ?_
                                exact then_n ⟨_, _, rfl, (by show _ < _; omega), (by repeat (first | exact agree_self | exact agree_refl | refine agree_upd rfl ?_ | refine agree_mix rfl ?_)), p + 1, rfl, (by first | rfl | (first | exact congrArg (fun q : Nat => Value.int .i64 (q : Int)) hC0.symm | exact congrArg (fun q : Nat => Value.int .i64 (q : Int)) hct.symm; done) | (first | exact congrArg (fun q : Nat => Value.int .i64 (q : Int)) hC0.symm | exact congrArg (fun q : Nat => Value.int .i64 (q : Int)) hct.symm; rfl) | (first | exact congrArg (fun q : Nat => Value.int .i64 (q : Int)) hC0.symm | exact congrArg (fun q : Nat => Value.int .i64 (q : Int)) hct.symm; go_num)), (by first | rfl | go_num | exact congrArg (Value.int _) (by first | omega | (simp; done) | (simp; omega))), hS, (by omega)⟩
                             try (exfalso; first | with_reducible exact absurd hc8 Bool.false_ne_true | with_reducible exact absurd hc8.symm Bool.false_ne_true | (simp only [nrm] at hc8; omega) | (simp at hc8; done))
                             all_goals
                              try simp only [nrm] at hc8
                              rw [if_neg (by simpa using hc8)] at hct
                              refine wp_skip ?_
                              refine inb_n ?_
                              refine then_n (hK32 _ _ ?_); clear hK32 K32
                              refine wlit ?_
                              refine wl_v (x_move (tmI rfl rfl)) ?_
                              first
                               | refine wl_v (x_addN (tmI rfl rfl) (ev_cN 1) (fit_i64 (by omega))) ?_
                               | refine wl_v (x_addI (tmI rfl rfl) (ev_cN 1) (IntWalk.i64_in _ (by omega))) ?_
                               | refine wl_v (x_add (tmI rfl rfl) (ev_cN 1)) ?_
                              refine wl_v (x_assign (tmI rfl rfl)) ?_
                              refine wl_nil ?_
                              exact then_n ⟨_, _, rfl, (by show _ < _; omega), (by repeat (first | exact agree_self | exact agree_refl | refine agree_upd rfl ?_ | refine agree_mix rfl ?_)), p + 1, rfl, (by first | rfl | (first | exact congrArg (fun q : Nat => Value.int .i64 (q : Int)) hC0.symm | exact congrArg (fun q : Nat => Value.int .i64 (q : Int)) hct.symm; done) | (first | exact congrArg (fun q : Nat => Value.int .i64 (q : Int)) hC0.symm | exact congrArg (fun q : Nat => Value.int .i64 (q : Int)) hct.symm; rfl) | (first | exact congrArg (fun q : Nat => Value.int .i64 (q : Int)) hC0.symm | exact congrArg (fun q : Nat => Value.int .i64 (q : Int)) hct.symm; go_num)), (by first | rfl | go_num | exact congrArg (Value.int _) (by first | omega | (simp; done) | (simp; omega))), hS, (by omega)⟩
                          try (exfalso; first | with_reducible exact absurd hc7 Bool.false_ne_true | with_reducible exact absurd hc7.symm Bool.false_ne_true | (simp only [nrm] at hc7; omega) | (simp at hc7; done))
                          all_goals
                           try simp only [nrm] at hc7
                           refine wp_exit ?_
                           refine then_x ?_; clear hK30 K30
                           refine then_x ?_
                           refine inb_x ?_
                           refine then_n (hK28 _ _ ?_); clear hK28 K28
                           refine wp_seq_k ?_; intro K34 hK34
                           obtain rfl : p = n := by omega
                           refine wlit ?_
                           refine wl_v (x_move (tmI rfl rfl)) ?_
                           refine wl_v (x_move (tmI rfl rfl)) ?_
                           refine wl_v (x_move (tmS rfl rfl)) ?_
                           refine wl_v (x_len Try.underlying23 (tmS rfl rfl)) ?_
                           refine wl_v (x_quoN (tmI rfl (congrArg (Value.int .i64) hzn)) (tmI rfl rfl) (by omega) (fit_i64 (by omega))) ?_
                           refine wl_v (x_lss (tmI rfl rfl) (tmI rfl rfl)) ?_
                           refine wl_v (x_move (tmB rfl rfl)) ?_
                           refine gs_wl (tm (t := 123) rfl) (fun hg26_6 => ?_) (fun hg26_6 => ?_)
                           · have hg26_6' := hg26_6; (try simp only [nrm] at hg26_6'); try (exfalso; first | with_reducible exact absurd hg26_6 Bool.false_ne_true | with_reducible exact absurd hg26_6.symm Bool.false_ne_true | omega | (simp at hg26_6; done))
                             all_goals
                              refine wl_s rfl (want_n rfl rfl rfl rfl (by rw [hg26_6]; rfl)) ?_
                              refine wl_s rfl (want_n rfl rfl rfl rfl (by rw [hg26_6]; rfl)) ?_
                              refine wl_s rfl (want_n rfl rfl rfl rfl (by rw [hg26_6]; rfl)) ?_
                              refine wl_s rfl (want_n rfl rfl rfl rfl (by rw [hg26_6]; rfl)) ?_
                              refine wl_s rfl (want_n rfl rfl rfl rfl (by rw [hg26_6]; rfl)) ?_
                              refine wl_s rfl (want_n rfl rfl rfl rfl (by rw [hg26_6]; rfl)) ?_
                              refine wl_s rfl (want_n rfl rfl rfl rfl (by rw [hg26_6]; rfl)) ?_
                              refine wl_s rfl (want_n rfl rfl rfl rfl (by rw [hg26_6]; rfl)) ?_
                              refine wl_s rfl (want_n rfl rfl rfl rfl (by rw [hg26_6]; rfl)) ?_
                              refine wl_s rfl (want_n rfl rfl rfl rfl (by rw [hg26_6]; rfl)) ?_
                              refine wl_v (x_pickT (tmB rfl rfl) hg26_6 ev_c) ?_
                              refine wl_nil ?_
                              refine then_n (hK34 _ _ ?_); clear hK34 K34
                              refine cnd_t (tmB rfl rfl) rfl ?_
                              refine wp_seq_k ?_; intro K35 hK35
                              refine wlit ?_
                              refine wl_v (x_assign ev_c) ?_
                              refine wl_nil ?_
                              refine then_n (hK35 _ _ ?_); clear hK35 K35
                              refine wp_ret ?_
                              refine inb_r ?_
                              refine then_r ?_
                              refine then_r ?_
                              refine inb_r ?_
                              refine then_r ?_
                              refine ret1 rfl (.tmp rfl (show _ = Value.bool _ from rfl)) ?_
                              exact ⟨rfl, hS.kp.below⟩
                           have hg26_6' := hg26_6; (try simp only [nrm] at hg26_6'); try (exfalso; first | with_reducible exact absurd hg26_6 Bool.false_ne_true | with_reducible exact absurd hg26_6.symm Bool.false_ne_true | omega | (simp at hg26_6; done))
                           all_goals
                            refine wl_gv (want_y rfl rfl rfl rfl (by rw [hg26_6]; rfl)) (x_move (tmI rfl rfl)) ?_
                            refine wl_gv (want_y rfl rfl rfl rfl (by rw [hg26_6]; rfl)) (x_move (tmI rfl rfl)) ?_
                            refine wl_gv (want_y rfl rfl rfl rfl (by rw [hg26_6]; rfl)) (x_move (tmS rfl rfl)) ?_
                            refine wl_gv (want_y rfl rfl rfl rfl (by rw [hg26_6]; rfl)) (x_len Try.underlying23 (tmS rfl rfl)) ?_
                            refine wl_gv (want_y rfl rfl rfl rfl (by rw [hg26_6]; rfl)) (x_addN (tmI rfl (congrArg (Value.int .i64) hzn)) (tmI rfl rfl) (fit_i64 (by omega))) ?_
                            first
                             | refine wl_gv (want_y rfl rfl rfl rfl (by rw [hg26_6]; rfl)) (x_subN (tmI rfl rfl) (ev_cN 1) (fit_i64 (by omega)) (by omega)) ?_
                             | refine wl_gv (want_y rfl rfl rfl rfl (by rw [hg26_6]; rfl)) (x_subI (tmI rfl rfl) (ev_cN 1) (IntWalk.i64_in _ (by omega))) ?_
                             | refine wl_gv (want_y rfl rfl rfl rfl (by rw [hg26_6]; rfl)) (x_sub (tmI rfl rfl) (ev_cN 1)) ?_
                            refine wl_gv (want_y rfl rfl rfl rfl (by rw [hg26_6]; rfl)) (x_move (tmS rfl rfl)) ?_
                            refine wl_gv (want_y rfl rfl rfl rfl (by rw [hg26_6]; rfl)) (x_len Try.underlying23 (tmS rfl rfl)) ?_
                            first
                             | refine wl_gv (want_y rfl rfl rfl rfl (by rw [hg26_6]; rfl)) (x_quoN (tmI rfl rfl) (tmI rfl rfl) (by omega) (fit_i64 (by omega))) ?_
                             | refine wl_gv (want_y rfl rfl rfl rfl (by rw [hg26_6]; rfl)) (x_quo (tmI rfl rfl) (tmI rfl rfl) (by omega)) ?_
                            refine wl_gv (want_y rfl rfl rfl rfl (by rw [hg26_6]; rfl)) (x_gtr (tmI rfl rfl) (tmI rfl rfl)) ?_
                            refine wl_v (x_pickF (tmB rfl rfl) hg26_6 (tmB rfl rfl)) ?_
                            refine wl_nil ?_
                            refine then_n (hK34 _ _ ?_); clear hK34 K34
                            refine cnd (tm rfl) (fun hc9 => ?_) (fun hc9 => ?_)
                            · try (exfalso; first | with_reducible exact absurd hc9 Bool.false_ne_true | with_reducible exact absurd hc9.symm Bool.false_ne_true | (simp only [nrm] at hc9; omega) | (simp at hc9; done))
                              all_goals
                               try simp only [nrm] at hc9
                               refine wp_seq_k ?_; intro K36 hK36
                               refine wlit ?_
                               refine wl_v (x_assign ev_c) ?_
                               refine wl_nil ?_
                               refine then_n (hK36 _ _ ?_); clear hK36 K36
                               refine wp_ret ?_
                               refine inb_r ?_
                               refine then_r ?_
                               refine then_r ?_
                               refine inb_r ?_
                               refine then_r ?_
                               refine ret1 rfl (.tmp rfl (show _ = Value.bool _ from rfl)) ?_
                               exact ⟨rfl, hS.kp.below⟩
                            try (exfalso; first | with_reducible exact absurd hc9 Bool.false_ne_true | with_reducible exact absurd hc9.symm Bool.false_ne_true | (simp only [nrm] at hc9; omega) | (simp at hc9; done))
                            all_goals
                             try simp only [nrm] at hc9
                             refine wp_skip ?_
                             refine inb_n ?_
                             refine then_n (hK26 _ _ ?_); clear hK26 K26
                             refine wlit ?_
                             refine wl_v (x_move (tmI rfl rfl)) ?_
                             first
                              | refine wl_v (x_addN (tmI rfl rfl) (ev_cN 1) (fit_i64 (by omega))) ?_
                              | refine wl_v (x_addI (tmI rfl rfl) (ev_cN 1) (IntWalk.i64_in _ (by omega))) ?_
                              | refine wl_v (x_add (tmI rfl rfl) (ev_cN 1)) ?_
                             refine wl_v (x_assign (tmI rfl rfl)) ?_
                             refine wl_nil ?_
                             exact then_n ⟨_, _, rfl, (by show _ < _; omega), (by repeat (first | exact agree_self | exact agree_refl | refine agree_upd rfl ?_ | refine agree_mix rfl ?_)), i + 1, rfl, (by first | rfl | go_num | exact congrArg (Value.int _) (by first | omega | (simp; done) | (simp; omega))), hS, (by omega)⟩
                     try (exfalso; first | with_reducible exact absurd hc6 Bool.false_ne_true | with_reducible exact absurd hc6.symm Bool.false_ne_true | (simp only [nrm] at hc6; omega) | (simp at hc6; done))
                     all_goals
                      try simp only [nrm] at hc6
                      refine wp_exit ?_
                      refine then_x ?_; clear hK24 K24
                      refine then_x ?_
                      refine inb_x ?_
                      refine then_n (hK22 _ _ ?_); clear hK22 K22
                      refine wp_seq_k ?_; intro K37 hK37
                      refine wlit ?_
                      refine wl_e rfl ?_; intro K hK
                      refine ow_call Try.func5 rfl rfl (evs_nil) (law42_awake_c _) ?_
                      rintro e w ⟨rfl, hk⟩
                      refine ⟨_, rfl, ?_⟩
                      replace hS := hS.kept hk
                      clear hk
                      refine hK _ _ ?_; clear hK K
                      refine wl_v (x_assign (tmB rfl rfl)) ?_
                      refine wl_nil ?_
                      refine then_n (hK37 _ _ ?_); clear hK37 K37
                      refine wp_ret ?_
                      refine ret1 rfl (.tmp rfl (show _ = Value.bool _ from rfl)) ?_
                      exact ⟨rfl, hS.kp.below⟩
                  have hg18_4' := hg18_4; (try simp only [nrm] at hg18_4'); try (exfalso; first | with_reducible exact absurd hg18_4 Bool.false_ne_true | with_reducible exact absurd hg18_4.symm Bool.false_ne_true | omega | (simp at hg18_4; done))
                  all_goals
                   refine wl_s rfl (want_n rfl rfl rfl rfl (by rw [hg18_4]; rfl)) ?_
                   refine wl_s rfl (want_n rfl rfl rfl rfl (by rw [hg18_4]; rfl)) ?_
                   refine wl_v (x_pickF (tmB rfl rfl) hg18_4 ev_c) ?_
                   refine wl_nil ?_
                   refine then_n (hK25 _ _ ?_); clear hK25 K25
                   refine cnd_f (tmB rfl rfl) rfl ?_
                   refine wp_exit ?_
                   refine then_x ?_; clear hK24 K24
                   refine then_x ?_
                   refine inb_x ?_
                   refine then_n (hK22 _ _ ?_); clear hK22 K22
                   refine wp_seq_k ?_; intro K38 hK38
                   refine wlit ?_
                   refine wl_e rfl ?_; intro K hK
                   refine ow_call Try.func5 rfl rfl (evs_nil) (law42_awake_c _) ?_
                   rintro e w ⟨rfl, hk⟩
                   refine ⟨_, rfl, ?_⟩
                   replace hS := hS.kept hk
                   clear hk
                   refine hK _ _ ?_; clear hK K
                   refine wl_v (x_assign (tmB rfl rfl)) ?_
                   refine wl_nil ?_
                   refine then_n (hK38 _ _ ?_); clear hK38 K38
                   refine wp_ret ?_
                   refine ret1 rfl (.tmp rfl (show _ = Value.bool _ from rfl)) ?_
                   exact ⟨rfl, hS.kp.below⟩
         have hg9_4' := hg9_4; (try simp only [nrm] at hg9_4'); try (exfalso; first | with_reducible exact absurd hg9_4 Bool.false_ne_true | with_reducible exact absurd hg9_4.symm Bool.false_ne_true | omega | (simp at hg9_4; done))
         all_goals
          refine wl_s rfl (want_n rfl rfl rfl rfl (by rw [hg9_4]; rfl)) ?_
          refine wl_s rfl (want_n rfl rfl rfl rfl (by rw [hg9_4]; rfl)) ?_
          refine wl_v (x_pickF (tmB rfl rfl) hg9_4 ev_c) ?_
          refine wl_nil ?_
          refine then_n (hK14 _ _ ?_); clear hK14 K14
          refine cnd_f (tmB rfl rfl) rfl ?_
          refine wp_exit ?_
          refine then_x ?_; clear hK13 K13
          refine then_x ?_
          refine inb_x ?_
          refine then_n (hK11 _ _ ?_); clear hK11 K11
          refine wp_seq_k ?_; intro K39 hK39
          refine wp_seq_k ?_; intro K40 hK40
          refine rg_startk 0 hS mixed_ ?_
          clear hS; intro w hS
          refine rg_take 0 rfl rfl (by kernel_rfl) (by kernel_rfl) (by kernel_rfl) (want_0) (fun w hok => x_loadA (cs := [_]) Try.underlying27 rfl ts_27 (tmP rfl rfl) (rangeB hok 2 rfl rfl)) ?_
          refine rg_take 2 rfl rfl (by kernel_rfl) (by kernel_rfl) (by kernel_rfl) (want_0) (fun w hok => x_loadA (cs := [_]) Try.underlying27 rfl ts_27 (tmP rfl rfl) (rangeB hok 0 rfl rfl)) ?_
          refine rg_step 1 rfl (by kernel_rfl) (want_0) (oks_drop hS 0 rfl) ?_; intro K hK
          refine ow_call Try.func8 rfl rfl (evs_cons (tmA rfl rfl) <| evs_nil) (mTlen_c G T.length T.length _) ?_
          rintro e w ⟨rfl, hk⟩
          refine ⟨_, rfl, ?_⟩
          replace hS := hS.kept hk
          clear hk
          refine hK _ _ ?_; clear hK K
          refine rg_step 3 rfl (by kernel_rfl) (want_0) (oks_drop hS 0 rfl) ?_; intro K hK
          refine ow_call Try.func8 rfl rfl (evs_cons (tmA rfl rfl) <| evs_nil) (mTlen_c G2 U.length U.length _) ?_
          rintro e w ⟨rfl, hk⟩
          refine ⟨_, rfl, ?_⟩
          replace hS := hS.kept hk
          clear hk
          refine hK _ _ ?_; clear hK K
          refine rg_take 4 rfl rfl (by kernel_rfl) (by kernel_rfl) (by kernel_rfl) (want_0) (fun w hok => x_neq (tmI rfl rfl) (tmI rfl rfl)) ?_
          refine rg_done (oks_drop hS 0 rfl) (by kernel_rfl) ?_
          refine then_n (hK40 _ _ ?_); clear hK40 K40
          refine cutc [13] (fun g w => ∃ (zz : Int), g 13 = .int .i64 zz ∧ St [] w0 [.blk g4_7 27 [.slice G2 U.length U.length], .vw G2 (U.map i64v), .blk g3_7 27 [.slice G T.length T.length], .vw G (T.map i64v), .vw A (l.map i64v)] w ∧ (MvdP T U zz)) ?_ ?_
          · skip
            refine cnd (tm rfl) (fun hc4 => ?_) (fun hc4 => ?_)
            · try (exfalso; first | with_reducible exact absurd hc4 Bool.false_ne_true | with_reducible exact absurd hc4.symm Bool.false_ne_true | (simp only [nrm] at hc4; omega) | (simp at hc4; done))
              all_goals
               try simp only [nrm] at hc4
               refine wlit ?_
               refine wl_v (x_assign ev_c) ?_
               refine wl_nil ?_
               exact then_n ⟨_, rfl, (by repeat (first | exact agree_self | exact agree_refl | refine agree_upd rfl ?_ | refine agree_mix rfl ?_)), _, (by first | rfl | go_num | exact congrArg (Value.int _) (by first | omega | (simp; done) | (simp; omega))), hS, (by first | exact .inl ⟨by omega, rfl⟩ | (refine .inr ⟨by omega, ?_⟩; (have hjT : j = T.length := by omega); subst hjT; rfl))⟩
            try (exfalso; first | with_reducible exact absurd hc4 Bool.false_ne_true | with_reducible exact absurd hc4.symm Bool.false_ne_true | (simp only [nrm] at hc4; omega) | (simp at hc4; done))
            all_goals
             try simp only [nrm] at hc4
             refine wp_skip ?_
             exact then_n ⟨_, rfl, (by repeat (first | exact agree_self | exact agree_refl | refine agree_upd rfl ?_ | refine agree_mix rfl ?_)), _, (by first | rfl | go_num | exact congrArg (Value.int _) (by first | omega | (simp; done) | (simp; omega))), hS, (by first | exact .inl ⟨by omega, rfl⟩ | (refine .inr ⟨by omega, ?_⟩; (have hjT : j = T.length := by omega); subst hjT; rfl))⟩
          · clear hS; intro g w hI
            obtain ⟨zz, hs13, hS, hzz⟩ := hI
            refine fr_knowQ (d := 13) hs13 ?_; clear hs13
            refine then_n (hK39 _ _ ?_); clear hK39 K39
            refine wp_seq_k ?_; intro K42 hK42
            refine wp_seq_k ?_; intro K43 hK43
            refine wlit ?_
            refine wl_v (x_loadA (cs := [_]) Try.underlying27 rfl ts_27 (tmP rfl rfl) (rangeB hS.ok 2 rfl rfl)) ?_
            refine wl_v (x_loadA (cs := [_]) Try.underlying27 rfl ts_27 (tmP rfl rfl) (rangeB hS.ok 0 rfl rfl)) ?_
            refine wl_e rfl ?_; intro K hK
            refine ow_call Try.func13 rfl rfl (evs_cons (tmA rfl rfl) <| evs_cons (tmA rfl rfl) <| evs_nil) (moved_c G G2 T U _ (viewV hS.ok 3 rfl) (viewV hS.ok 1 rfl) hT2) ?_
            rintro e w ⟨z2, rfl, hz2, hk⟩
            refine ⟨_, rfl, ?_⟩
            replace hS := hS.kept hk
            clear hk
            obtain rfl : zz = z2 := by
              rcases hzz with ⟨h1, h2⟩ | ⟨h1, h2⟩ <;> rcases hz2 with ⟨h3, h4⟩ | ⟨h3, h4⟩
              · rw [h2, h4]
              · exact absurd h3 h1
              · exact absurd h1 h3
              · rw [h2, h4]
            refine hK _ _ ?_; clear hK K
            refine wl_v (x_move (tmI rfl rfl)) ?_
            refine wl_v (x_neq (tmI rfl rfl) (tmI rfl rfl)) ?_
            refine wl_nil ?_
            refine then_n (hK43 _ _ ?_); clear hK43 K43
            refine cnd (tm rfl) (fun hc5 => ?_) (fun hc5 => ?_)
            · exfalso
              simp at hc5
            try (exfalso; first | with_reducible exact absurd hc5 Bool.false_ne_true | with_reducible exact absurd hc5.symm Bool.false_ne_true | (simp only [nrm] at hc5; omega) | (simp at hc5; done))
            all_goals
             try simp only [nrm] at hc5
             refine wp_skip ?_
             refine then_n (hK42 _ _ ?_); clear hK42 K42
             refine wp_seq_k ?_; intro K44 hK44
             refine wp_seq_k ?_; intro K45 hK45
             refine wlit ?_
             refine wl_v (x_assign (ev_cN 0)) ?_
             refine wl_nil ?_
             refine then_n (hK45 _ _ ?_); clear hK45 K45
             refine wp_block ?_
             refine lp [8, 15, 16, 17, 92, 93, 94, 95, 96, 97, 98, 99, 100, 101, 102, 103, 104, 105, 106, 107, 108, 109, 110, 111, 112, 113, 114, 115, 116, 117, 118, 119, 120, 121, 122, 123, 124, 125, 126, 127, 128, 129, 130, 131, 132, 133, 134] (fun mz g w => ∃ (i : Nat), mz = l.length - i ∧ g 15 = .int .i64 (i : Int) ∧ St [] w0 [.blk g4_7 27 [.slice G2 U.length U.length], .vw G2 (U.map i64v), .blk g3_7 27 [.slice G T.length T.length], .vw G (T.map i64v), .vw A (l.map i64v)] w ∧ (i ≤ l.length)) ?_ ?_
             · exact ⟨_, 0, rfl, (by first | rfl | go_num | exact congrArg (Value.int _) (by first | omega | (simp; done) | (simp; omega))), hS, (by omega)⟩
             · clear hS; intro mz g w hI
               obtain ⟨i, rfl, hs15, hS, hi⟩ := hI
               refine fr_know (d := 15) hs15 ?_; clear hs15
               refine wp_seq_k ?_; intro K46 hK46
               refine wp_seq_k ?_; intro K47 hK47
               refine wlit ?_
               refine wl_v (x_move (tmI rfl rfl)) ?_
               refine wl_v (x_move (tmS rfl rfl)) ?_
               refine wl_v (x_len Try.underlying23 (tmS rfl rfl)) ?_
               refine wl_v (x_lss (tmI rfl rfl) (tmI rfl rfl)) ?_
               refine wl_v (x_move (tmB rfl rfl)) ?_
               refine gs_wl (tm (t := 96) rfl) (fun hg18_4 => ?_) (fun hg18_4 => ?_)
               · have hg18_4' := hg18_4; (try simp only [nrm] at hg18_4'); try (exfalso; first | with_reducible exact absurd hg18_4 Bool.false_ne_true | with_reducible exact absurd hg18_4.symm Bool.false_ne_true | omega | (simp at hg18_4; done))
                 all_goals
                  refine wl_gv (want_y rfl rfl rfl rfl (by rw [hg18_4]; rfl)) (x_move (tmI rfl rfl)) ?_
                  refine wl_gv (want_y rfl rfl rfl rfl (by rw [hg18_4]; rfl)) (x_eql (tmI rfl rfl) (ev_cN 0)) ?_
                  refine wl_v (x_pickT (tmB rfl rfl) hg18_4 (tmB rfl rfl)) ?_
                  refine wl_nil ?_
                  refine then_n (hK47 _ _ ?_); clear hK47 K47
                  refine cnd (tm rfl) (fun hc6 => ?_) (fun hc6 => ?_)
                  · try (exfalso; first | with_reducible exact absurd hc6 Bool.false_ne_true | with_reducible exact absurd hc6.symm Bool.false_ne_true | (simp only [nrm] at hc6; omega) | (simp at hc6; done))
                    all_goals
                     try simp only [nrm] at hc6
                     have hE0 : E = 0 := by first | omega | (simp at hc6; omega)
                     have hV : V42 z l := by
                       rcases hE with ⟨h, _⟩ | ⟨_, h⟩
                       · exact h
                       · omega
                     obtain ⟨n, hzn⟩ := Int.eq_ofNat_of_zero_le (a := z) (by have := hV.2.2.2.1; have := hV.2.2.2.2; omega)
                     have hzt : z.toNat = n := by omega
                     have hTn' := hTl hV
                     have hTe' := hTe hV
                     rw [hzt] at hTn' hTe'
                     have hP : isP n := by have := hV.2.1; rwa [hzt] at this
                     have hil : i < l.length := by first | omega | (simp_all; done)
                     have hhits := tab_hits (k := k) hP hV.2.2.1 hV.2.2.2.1 hil n (Nat.le_refl _)
                     have hbd := hits_bd (n := n) (i := i) (show 0 < l.length by omega) hil
                     rw [← hTe'] at hhits
                     have hcq := cntI_eq T (l.getD i 0) n (by omega)
                     rw [List.take_of_length_le (by omega), hhits] at hcq
                     rw [← hcq] at hbd
                     clear hhits hcq hTe'
                     have hC0 := cntI_0 T (l.getD i 0)
                     have hCs := cntI_s T (l.getD i 0)
                     have hCl := cntI_le T (l.getD i 0)
                     generalize cntI T (l.getD i 0) = C at *
                     have hn300 : n ≤ 2048 := by have := hV.1; omega
                     obtain ⟨b0, o0, hA0⟩ := view_some hv (by rw [List.length_map]; omega)
                     have hgl : (l.map i64v)[i]? = some (.int .i64 (l.getD i 0)) := getm hil
                     refine wp_skip ?_
                     refine then_n (hK46 _ _ ?_); clear hK46 K46
                     refine wp_seq_k ?_; intro K48 hK48
                     refine wp_block ?_
                     refine wp_seq_k ?_; intro K49 hK49
                     refine wlit ?_
                     refine wl_v (x_assign (ev_cN 0)) ?_
                     refine wl_nil ?_
                     refine then_n (hK49 _ _ ?_); clear hK49 K49
                     refine wp_seq_k ?_; intro K50 hK50
                     refine wp_seq_k ?_; intro K51 hK51
                     refine wlit ?_
                     refine wl_v (x_assign (ev_cN 0)) ?_
                     refine wl_nil ?_
                     refine then_n (hK51 _ _ ?_); clear hK51 K51
                     refine wp_block ?_
                     refine lp [16, 17, 102, 103, 104, 105, 106, 107, 108, 109, 110, 111, 112, 113, 114, 115, 116] (fun mz g w => ∃ (p : Nat), mz = n - p ∧ g 16 = .int .i64 ((C p : Nat) : Int) ∧ g 17 = .int .i64 (p : Int) ∧ St [] w0 [.blk g4_7 27 [.slice G2 U.length U.length], .vw G2 (U.map i64v), .blk g3_7 27 [.slice G T.length T.length], .vw G (T.map i64v), .vw A (l.map i64v)] w ∧ (p ≤ n)) ?_ ?_
                     · exact ⟨_, 0, rfl, (by first | rfl | go_num | exact congrArg (Value.int _) (by first | omega | (simp; done) | (simp; omega))), (by first | rfl | go_num | exact congrArg (Value.int _) (by first | omega | (simp; done) | (simp; omega))), hS, (by omega)⟩
                     · clear hS; intro mz g w hI
                       obtain ⟨p, rfl, hs16, hs17, hS, hp⟩ := hI
                       refine fr_know (d := 16) hs16 ?_; clear hs16
                       refine fr_know (d := 17) (upd_ne rfl hs17) ?_; clear hs17
                       refine wp_seq_k ?_; intro K52 hK52
                       refine wp_seq_k ?_; intro K53 hK53
                       refine wlit ?_
                       refine wl_v (x_move (tmI rfl rfl)) ?_
                       refine wl_v (x_move (tmI rfl rfl)) ?_
                       refine wl_v (x_lss (tmI rfl rfl) (tmI rfl rfl)) ?_
                       refine wl_nil ?_
                       refine then_n (hK53 _ _ ?_); clear hK53 K53
                       refine cnd (tm rfl) (fun hc7 => ?_) (fun hc7 => ?_)
                       · try (exfalso; first | with_reducible exact absurd hc7 Bool.false_ne_true | with_reducible exact absurd hc7.symm Bool.false_ne_true | (simp only [nrm] at hc7; omega) | (simp at hc7; done))
                         all_goals
                          try simp only [nrm] at hc7
                          have hct := hCs p
                          have hcl := hCl p
                          refine wp_skip ?_
                          refine then_n (hK52 _ _ ?_); clear hK52 K52
                          refine wp_seq_k ?_; intro K54 hK54
                          refine wp_block ?_
                          refine wp_seq_k ?_; intro K55 hK55
                          refine rg_startk 0 hS mixed_ ?_
                          clear hS; intro w hS
                          refine rg_take 0 rfl rfl (by kernel_rfl) (by kernel_rfl) (by kernel_rfl) (want_0) (fun w hok => x_loadA (cs := [_]) Try.underlying27 rfl ts_27 (tmP rfl rfl) (rangeB hok 2 rfl rfl)) ?_
                          refine rg_take 1 rfl rfl (by kernel_rfl) (by kernel_rfl) (by kernel_rfl) (want_0) (fun w hok => x_move (tmI rfl rfl)) ?_
                          refine rg_take 3 rfl rfl (by kernel_rfl) (by kernel_rfl) (by kernel_rfl) (want_0) (fun w hok => x_move (tmS rfl rfl)) ?_
                          refine rg_take 4 rfl rfl (by kernel_rfl) (by kernel_rfl) (by kernel_rfl) (want_0) (fun w hok => x_move (tmI rfl rfl)) ?_
                          refine rg_take 5 rfl rfl (by kernel_rfl) (by kernel_rfl) (by kernel_rfl) (want_0) (fun w hok => x_ixs1 Try.underlying23 ts_3 (tmS rfl (congrArg (fun q => Value.slice q l.length c) hA0)) (tmI rfl rfl) (by omega)) ?_
                          refine rg_take 6 rfl rfl (by kernel_rfl) (by kernel_rfl) (by kernel_rfl) (want_0) (fun w hok => x_load (v := .int .i64 (l.getD i 0)) Try.underlying3 rfl (tmP rfl rfl) (cellV hok 4 (congrArg (fun q => some (Ent.vw q (l.map i64v))) hA0) hgl)) ?_
                          refine rg_step 2 rfl (by kernel_rfl) (want_0) (oks_drop hS 0 rfl) ?_; intro K hK
                          refine ow_call Try.func9 rfl rfl (evs_cons (tmA rfl rfl) <| evs_cons (tmI rfl rfl) <| evs_nil) (mTat_c G T.length T p _ (viewV hS.ok 3 rfl)) ?_
                          rintro e w ⟨rfl, hk⟩
                          refine ⟨_, rfl, ?_⟩
                          rw [atI_get]
                          replace hS := hS.kept hk
                          clear hk
                          refine hK _ _ ?_; clear hK K
                          refine rg_take 7 rfl rfl (by kernel_rfl) (by kernel_rfl) (by kernel_rfl) (want_0) (fun w hok => x_eql (tmI rfl rfl) (tmI rfl rfl)) ?_
                          refine rg_done (oks_drop hS 0 rfl) (by kernel_rfl) ?_
                          refine then_n (hK55 _ _ ?_); clear hK55 K55
                          refine cnd (tm rfl) (fun hc8 => ?_) (fun hc8 => ?_)
                          · try (exfalso; first | with_reducible exact absurd hc8 Bool.false_ne_true | with_reducible exact absurd hc8.symm Bool.false_ne_true | (simp only [nrm] at hc8; omega) | (simp at hc8; done))
                            all_goals
                             try simp only [nrm] at hc8
                             rw [if_pos (by simpa using hc8)] at hct
                             refine wlit ?_
                             refine wl_v (x_move (tmI rfl rfl)) ?_
                             first
                              | refine wl_v (x_addN (tmI rfl rfl) (ev_cN 1) (fit_i64 (by omega))) ?_
                              | refine wl_v (x_addI (tmI rfl rfl) (ev_cN 1) (IntWalk.i64_in _ (by omega))) ?_
                              | refine wl_v (x_add (tmI rfl rfl) (ev_cN 1)) ?_
                             refine wl_v (x_assign (tmI rfl rfl)) ?_
                             refine wl_nil ?_
                             refine inb_n ?_
                             refine then_n (hK54 _ _ ?_); clear hK54 K54
                             refine wlit ?_
                             refine wl_v (x_move (tmI rfl rfl)) ?_
                             first
                              | refine wl_v (x_addN (tmI rfl rfl) (ev_cN 1) (fit_i64 (by omega))) ?_
                              | refine wl_v (x_addI (tmI rfl rfl) (ev_cN 1) (IntWalk.i64_in _ (by omega))) ?_
                              | refine wl_v (x_add (tmI rfl rfl) (ev_cN 1)) ?_
                             refine wl_v (x_assign (tmI rfl rfl)) ?_
                             refine wl_nil ?_
                             exact then_n ⟨_, _, rfl, (by show _ < _; omega), (by repeat (first | exact agree_self | exact agree_refl | refine agree_upd rfl ?_ | refine agree_mix rfl ?_)), p + 1, rfl, (by first | rfl | (first | exact congrArg (fun q : Nat => Value.int .i64 (q : Int)) hC0.symm | exact congrArg (fun q : Nat => Value.int .i64 (q : Int)) hct.symm; done) | (first | exact congrArg (fun q : Nat => Value.int .i64 (q : Int)) hC0.symm | exact congrArg (fun q : Nat => Value.int .i64 (q : Int)) hct.symm; rfl) | (first | exact congrArg (fun q : Nat => Value.int .i64 (q : Int)) hC0.symm | exact congrArg (fun q : Nat => Value.int .i64 (q : Int)) hct.symm; go_num)), (by first | rfl | go_num | exact congrArg (Value.int _) (by first | omega | (simp; done) | (simp; omega))), hS, (by omega)⟩
                          try (exfalso; first | with_reducible exact absurd hc8 Bool.false_ne_true | with_reducible exact absurd hc8.symm Bool.false_ne_true | (simp only [nrm] at hc8; omega) | (simp at hc8; done))
                          all_goals
                           try simp only [nrm] at hc8
                           rw [if_neg (by simpa using hc8)] at hct
                           refine wp_skip ?_
                           refine inb_n ?_
                           refine then_n (hK54 _ _ ?_); clear hK54 K54
                           refine wlit ?_
                           refine wl_v (x_move (tmI rfl rfl)) ?_
                           first
                            | refine wl_v (x_addN (tmI rfl rfl) (ev_cN 1) (fit_i64 (by omega))) ?_
                            | refine wl_v (x_addI (tmI rfl rfl) (ev_cN 1) (IntWalk.i64_in _ (by omega))) ?_
                            | refine wl_v (x_add (tmI rfl rfl) (ev_cN 1)) ?_
                           refine wl_v (x_assign (tmI rfl rfl)) ?_
                           refine wl_nil ?_
                           exact then_n ⟨_, _, rfl, (by show _ < _; omega), (by repeat (first | exact agree_self | exact agree_refl | refine agree_upd rfl ?_ | refine agree_mix rfl ?_)), p + 1, rfl, (by first | rfl | (first | exact congrArg (fun q : Nat => Value.int .i64 (q : Int)) hC0.symm | exact congrArg (fun q : Nat => Value.int .i64 (q : Int)) hct.symm; done) | (first | exact congrArg (fun q : Nat => Value.int .i64 (q : Int)) hC0.symm | exact congrArg (fun q : Nat => Value.int .i64 (q : Int)) hct.symm; rfl) | (first | exact congrArg (fun q : Nat => Value.int .i64 (q : Int)) hC0.symm | exact congrArg (fun q : Nat => Value.int .i64 (q : Int)) hct.symm; go_num)), (by first | rfl | go_num | exact congrArg (Value.int _) (by first | omega | (simp; done) | (simp; omega))), hS, (by omega)⟩
                       try (exfalso; first | with_reducible exact absurd hc7 Bool.false_ne_true | with_reducible exact absurd hc7.symm Bool.false_ne_true | (simp only [nrm] at hc7; omega) | (simp at hc7; done))
                       all_goals
                        try simp only [nrm] at hc7
                        refine wp_exit ?_
                        refine then_x ?_; clear hK52 K52
                        refine then_x ?_
                        refine inb_x ?_
                        refine then_n (hK50 _ _ ?_); clear hK50 K50
                        refine wp_seq_k ?_; intro K56 hK56
                        obtain rfl : p = n := by omega
                        refine wlit ?_
                        refine wl_v (x_move (tmI rfl rfl)) ?_
                        refine wl_v (x_move (tmI rfl rfl)) ?_
                        refine wl_v (x_move (tmS rfl rfl)) ?_
                        refine wl_v (x_len Try.underlying23 (tmS rfl rfl)) ?_
                        refine wl_v (x_quoN (tmI rfl (congrArg (Value.int .i64) hzn)) (tmI rfl rfl) (by omega) (fit_i64 (by omega))) ?_
                        refine wl_v (x_lss (tmI rfl rfl) (tmI rfl rfl)) ?_
                        refine wl_v (x_move (tmB rfl rfl)) ?_
                        refine gs_wl (tm (t := 123) rfl) (fun hg26_6 => ?_) (fun hg26_6 => ?_)
                        · have hg26_6' := hg26_6; (try simp only [nrm] at hg26_6'); try (exfalso; first | with_reducible exact absurd hg26_6 Bool.false_ne_true | with_reducible exact absurd hg26_6.symm Bool.false_ne_true | omega | (simp at hg26_6; done))
                          all_goals
                           refine wl_s rfl (want_n rfl rfl rfl rfl (by rw [hg26_6]; rfl)) ?_
                           refine wl_s rfl (want_n rfl rfl rfl rfl (by rw [hg26_6]; rfl)) ?_
                           refine wl_s rfl (want_n rfl rfl rfl rfl (by rw [hg26_6]; rfl)) ?_
                           refine wl_s rfl (want_n rfl rfl rfl rfl (by rw [hg26_6]; rfl)) ?_
                           refine wl_s rfl (want_n rfl rfl rfl rfl (by rw [hg26_6]; rfl)) ?_
                           refine wl_s rfl (want_n rfl rfl rfl rfl (by rw [hg26_6]; rfl)) ?_
                           refine wl_s rfl (want_n rfl rfl rfl rfl (by rw [hg26_6]; rfl)) ?_
                           refine wl_s rfl (want_n rfl rfl rfl rfl (by rw [hg26_6]; rfl)) ?_
                           refine wl_s rfl (want_n rfl rfl rfl rfl (by rw [hg26_6]; rfl)) ?_
                           refine wl_s rfl (want_n rfl rfl rfl rfl (by rw [hg26_6]; rfl)) ?_
                           refine wl_v (x_pickT (tmB rfl rfl) hg26_6 ev_c) ?_
                           refine wl_nil ?_
                           refine then_n (hK56 _ _ ?_); clear hK56 K56
                           refine cnd_t (tmB rfl rfl) rfl ?_
                           refine wp_seq_k ?_; intro K57 hK57
                           refine wlit ?_
                           refine wl_v (x_assign ev_c) ?_
                           refine wl_nil ?_
                           refine then_n (hK57 _ _ ?_); clear hK57 K57
                           refine wp_ret ?_
                           refine inb_r ?_
                           refine then_r ?_
                           refine then_r ?_
                           refine inb_r ?_
                           refine then_r ?_
                           refine ret1 rfl (.tmp rfl (show _ = Value.bool _ from rfl)) ?_
                           exact ⟨rfl, hS.kp.below⟩
                        have hg26_6' := hg26_6; (try simp only [nrm] at hg26_6'); try (exfalso; first | with_reducible exact absurd hg26_6 Bool.false_ne_true | with_reducible exact absurd hg26_6.symm Bool.false_ne_true | omega | (simp at hg26_6; done))
                        all_goals
                         refine wl_gv (want_y rfl rfl rfl rfl (by rw [hg26_6]; rfl)) (x_move (tmI rfl rfl)) ?_
                         refine wl_gv (want_y rfl rfl rfl rfl (by rw [hg26_6]; rfl)) (x_move (tmI rfl rfl)) ?_
                         refine wl_gv (want_y rfl rfl rfl rfl (by rw [hg26_6]; rfl)) (x_move (tmS rfl rfl)) ?_
                         refine wl_gv (want_y rfl rfl rfl rfl (by rw [hg26_6]; rfl)) (x_len Try.underlying23 (tmS rfl rfl)) ?_
                         refine wl_gv (want_y rfl rfl rfl rfl (by rw [hg26_6]; rfl)) (x_addN (tmI rfl (congrArg (Value.int .i64) hzn)) (tmI rfl rfl) (fit_i64 (by omega))) ?_
                         first
                          | refine wl_gv (want_y rfl rfl rfl rfl (by rw [hg26_6]; rfl)) (x_subN (tmI rfl rfl) (ev_cN 1) (fit_i64 (by omega)) (by omega)) ?_
                          | refine wl_gv (want_y rfl rfl rfl rfl (by rw [hg26_6]; rfl)) (x_subI (tmI rfl rfl) (ev_cN 1) (IntWalk.i64_in _ (by omega))) ?_
                          | refine wl_gv (want_y rfl rfl rfl rfl (by rw [hg26_6]; rfl)) (x_sub (tmI rfl rfl) (ev_cN 1)) ?_
                         refine wl_gv (want_y rfl rfl rfl rfl (by rw [hg26_6]; rfl)) (x_move (tmS rfl rfl)) ?_
                         refine wl_gv (want_y rfl rfl rfl rfl (by rw [hg26_6]; rfl)) (x_len Try.underlying23 (tmS rfl rfl)) ?_
                         first
                          | refine wl_gv (want_y rfl rfl rfl rfl (by rw [hg26_6]; rfl)) (x_quoN (tmI rfl rfl) (tmI rfl rfl) (by omega) (fit_i64 (by omega))) ?_
                          | refine wl_gv (want_y rfl rfl rfl rfl (by rw [hg26_6]; rfl)) (x_quo (tmI rfl rfl) (tmI rfl rfl) (by omega)) ?_
                         refine wl_gv (want_y rfl rfl rfl rfl (by rw [hg26_6]; rfl)) (x_gtr (tmI rfl rfl) (tmI rfl rfl)) ?_
                         refine wl_v (x_pickF (tmB rfl rfl) hg26_6 (tmB rfl rfl)) ?_
                         refine wl_nil ?_
                         refine then_n (hK56 _ _ ?_); clear hK56 K56
                         refine cnd (tm rfl) (fun hc9 => ?_) (fun hc9 => ?_)
                         · try (exfalso; first | with_reducible exact absurd hc9 Bool.false_ne_true | with_reducible exact absurd hc9.symm Bool.false_ne_true | (simp only [nrm] at hc9; omega) | (simp at hc9; done))
                           all_goals
                            try simp only [nrm] at hc9
                            refine wp_seq_k ?_; intro K58 hK58
                            refine wlit ?_
                            refine wl_v (x_assign ev_c) ?_
                            refine wl_nil ?_
                            refine then_n (hK58 _ _ ?_); clear hK58 K58
                            refine wp_ret ?_
                            refine inb_r ?_
                            refine then_r ?_
                            refine then_r ?_
                            refine inb_r ?_
                            refine then_r ?_
                            refine ret1 rfl (.tmp rfl (show _ = Value.bool _ from rfl)) ?_
                            exact ⟨rfl, hS.kp.below⟩
                         try (exfalso; first | with_reducible exact absurd hc9 Bool.false_ne_true | with_reducible exact absurd hc9.symm Bool.false_ne_true | (simp only [nrm] at hc9; omega) | (simp at hc9; done))
                         all_goals
                          try simp only [nrm] at hc9
                          refine wp_skip ?_
                          refine inb_n ?_
                          refine then_n (hK48 _ _ ?_); clear hK48 K48
                          refine wlit ?_
                          refine wl_v (x_move (tmI rfl rfl)) ?_
                          first
                           | refine wl_v (x_addN (tmI rfl rfl) (ev_cN 1) (fit_i64 (by omega))) ?_
                           | refine wl_v (x_addI (tmI rfl rfl) (ev_cN 1) (IntWalk.i64_in _ (by omega))) ?_
                           | refine wl_v (x_add (tmI rfl rfl) (ev_cN 1)) ?_
                          refine wl_v (x_assign (tmI rfl rfl)) ?_
                          refine wl_nil ?_
                          exact then_n ⟨_, _, rfl, (by show _ < _; omega), (by repeat (first | exact agree_self | exact agree_refl | refine agree_upd rfl ?_ | refine agree_mix rfl ?_)), i + 1, rfl, (by first | rfl | go_num | exact congrArg (Value.int _) (by first | omega | (simp; done) | (simp; omega))), hS, (by omega)⟩
                  try (exfalso; first | with_reducible exact absurd hc6 Bool.false_ne_true | with_reducible exact absurd hc6.symm Bool.false_ne_true | (simp only [nrm] at hc6; omega) | (simp at hc6; done))
                  all_goals
                   try simp only [nrm] at hc6
                   refine wp_exit ?_
                   refine then_x ?_; clear hK46 K46
                   refine then_x ?_
                   refine inb_x ?_
                   refine then_n (hK44 _ _ ?_); clear hK44 K44
                   refine wp_seq_k ?_; intro K59 hK59
                   refine wlit ?_
                   refine wl_e rfl ?_; intro K hK
                   refine ow_call Try.func5 rfl rfl (evs_nil) (law42_awake_c _) ?_
                   rintro e w ⟨rfl, hk⟩
                   refine ⟨_, rfl, ?_⟩
                   replace hS := hS.kept hk
                   clear hk
                   refine hK _ _ ?_; clear hK K
                   refine wl_v (x_assign (tmB rfl rfl)) ?_
                   refine wl_nil ?_
                   refine then_n (hK59 _ _ ?_); clear hK59 K59
                   refine wp_ret ?_
                   refine ret1 rfl (.tmp rfl (show _ = Value.bool _ from rfl)) ?_
                   exact ⟨rfl, hS.kp.below⟩
               have hg18_4' := hg18_4; (try simp only [nrm] at hg18_4'); try (exfalso; first | with_reducible exact absurd hg18_4 Bool.false_ne_true | with_reducible exact absurd hg18_4.symm Bool.false_ne_true | omega | (simp at hg18_4; done))
               all_goals
                refine wl_s rfl (want_n rfl rfl rfl rfl (by rw [hg18_4]; rfl)) ?_
                refine wl_s rfl (want_n rfl rfl rfl rfl (by rw [hg18_4]; rfl)) ?_
                refine wl_v (x_pickF (tmB rfl rfl) hg18_4 ev_c) ?_
                refine wl_nil ?_
                refine then_n (hK47 _ _ ?_); clear hK47 K47
                refine cnd_f (tmB rfl rfl) rfl ?_
                refine wp_exit ?_
                refine then_x ?_; clear hK46 K46
                refine then_x ?_
                refine inb_x ?_
                refine then_n (hK44 _ _ ?_); clear hK44 K44
                refine wp_seq_k ?_; intro K60 hK60
                refine wlit ?_
                refine wl_e rfl ?_; intro K hK
                refine ow_call Try.func5 rfl rfl (evs_nil) (law42_awake_c _) ?_
                rintro e w ⟨rfl, hk⟩
                refine ⟨_, rfl, ?_⟩
                replace hS := hS.kept hk
                clear hk
                refine hK _ _ ?_; clear hK K
                refine wl_v (x_assign (tmB rfl rfl)) ?_
                refine wl_nil ?_
                refine then_n (hK60 _ _ ?_); clear hK60 K60
                refine wp_ret ?_
                refine ret1 rfl (.tmp rfl (show _ = Value.bool _ from rfl)) ?_
                exact ⟨rfl, hS.kp.below⟩
theorem walk (v : Value) (z : Int) (A : Option Addr) (q c : Nat) (l : List Int) (B : Option Addr) (q2 cb : Nat) (m : List Int) (w0 : World) {H : Type} {enc : TypeId × Value → H} {r : Reach} {b0 : Nat} {d : DataW H} {ps : List MemPlace}
    (hval : Value.okWide Try.prog w0 r b0 22 v) (hd : DataW.Trod enc Try.prog w0 0 (fun _ => true) true 22 v d ps) (hz : -9223372036854775808 ≤ z ∧ z ≤ 9223372036854775807)
    (r2 : l.length = q ∧ (A = none → c = 0) ∧ (∀ x ∈ l, I64 x) ∧ View w0 w0.heap.size A (l.map i64v) ∧ q ≤ c) (r3 : m.length = q2 ∧ (B = none → cb = 0) ∧ (∀ x ∈ m, I64 x) ∧ View w0 w0.heap.size B (m.map i64v) ∧ q2 ≤ cb) :
    Calls Try.prog 4 #[v, .int .i64 z, .slice A q c, .slice B q2 cb] w0 fun e w' => e = .returned (.bool true) ∧ Below w0.heap.size w0 w' := by
  obtain ⟨k, rfl, hkb⟩ := arg_k16 Try.underlying22 Try.underlying5 (by kernel_rfl) (by kernel_rfl) hval hd
  obtain ⟨rfl, _, _, hv, _⟩ := r2
  obtain ⟨rfl, _, _, hvb, _⟩ := r3
  exact walk_all k z A c l B cb m w0 hkb hz hv hvb
end MaglevEven
end Go.Proofs.Ytofkhhklkcdggaa
