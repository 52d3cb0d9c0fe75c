
/- Which sizes and members are right, by contract, both sides. Conditions: none but bounds. -/
import Derived.Test.YtofkhhklkcdggaaMag
import Derived.Test.YtofkhhklkcdggaaOct
import Derived.Test.YtofkhhklkcdggaaArr
import Derived.Test.YtofkhhklkcdggaaArgs
namespace Go.Proofs.Ytofkhhklkcdggaa
open Go.RowKit
set_option maxRecDepth 100000 in
set_option maxHeartbeats 4000000 in
theorem prime_c (n : Nat) (w0 : World) (h2 : 2 ≤ n) (hn : n ≤ 1000000) : Calls Try.prog 14 #[.int .i64 (n : Int)] w0 fun e w' => ∃ b, e = .returned (.bool b) ∧ (b = true ↔ isP n) ∧ Kp [] w0 w' := by
  have hS := St.sv w0
  refine ent (n := 17) Try.func14 rfl rfl ?_
  refine wp_seq_k ?_; intro K1 hK1
  refine wlit ?_
  refine wl_v (x_assign ev_c) ?_
  refine wl_nil ?_
  refine then_n (hK1 _ _ ?_); clear hK1 K1
  refine wp_seq_k ?_; intro K2 hK2
  refine wp_seq_k ?_; intro K3 hK3
  refine wlit ?_
  refine wl_v (x_assign (ev_cN 2)) ?_
  refine wl_nil ?_
  refine then_n (hK3 _ _ ?_); clear hK3 K3
  refine wp_block ?_
  refine lp [2, 3, 4, 5, 6, 7, 8, 9, 10, 11, 12, 13, 14] (fun mz g w => ∃ (d : Nat), mz = n + 2 - d ∧ g 3 = .int .i64 (d : Int) ∧ St [] w0 [] w ∧ (2 ≤ d) ∧ (d ≤ n + 1) ∧ (∀ e, 2 ≤ e → e < d → n % e ≠ 0)) ?_ ?_
  · exact ⟨_, 2, rfl, (by first | rfl | go_num | exact congrArg (Value.int _) (by first | omega | (simp; done) | (simp; omega))), hS, (by omega), (by omega), (by first | (intro e h1 h2; omega) | exact hallN)⟩
  · clear hS; intro mz g w hI
    obtain ⟨d, rfl, hs3, hS, hd, hdn, hall⟩ := hI
    refine fr_know (d := 3) hs3 ?_; clear hs3
    refine wp_seq_k ?_; intro K4 hK4
    refine wp_seq_k ?_; intro K5 hK5
    refine wlit ?_
    refine wl_v (x_move (tmI rfl rfl)) ?_
    refine wl_v (x_move (tmI rfl rfl)) ?_
    refine wl_v (x_move (tmI rfl rfl)) ?_
    first
     | refine wl_v (x_quoN (tmI rfl rfl) (tmI rfl rfl) (by omega) (fit_i64 (by omega))) ?_
     | refine wl_v (x_quo (tmI rfl rfl) (tmI rfl rfl) (by omega)) ?_
    refine wl_v (x_leq (tmI rfl rfl) (tmI rfl rfl)) ?_
    refine wl_nil ?_
    refine then_n (hK5 _ _ ?_); clear hK5 K5
    refine cnd (tm rfl) (fun hc0 => ?_) (fun hc0 => ?_)
    · try (exfalso; first | with_reducible exact absurd hc0 Bool.false_ne_true | with_reducible exact absurd hc0.symm Bool.false_ne_true | (simp only [nrm] at hc0; omega) | (simp at hc0; done))
      all_goals
       try simp only [nrm] at hc0
       have hdle : d ≤ n := by
         have := Nat.div_le_self n d
         omega
       refine wp_skip ?_
       refine then_n (hK4 _ _ ?_); clear hK4 K4
       refine wp_seq_k ?_; intro K6 hK6
       refine wp_block ?_
       refine wp_seq_k ?_; intro K7 hK7
       refine wlit ?_
       refine wl_v (x_move (tmI rfl rfl)) ?_
       refine wl_v (x_move (tmI rfl rfl)) ?_
       first
        | refine wl_v (x_remN (tmI rfl rfl) (tmI rfl rfl) (by omega)) ?_
        | refine wl_v (x_rem (tmI rfl rfl) (tmI rfl rfl) (by omega)) ?_
       refine wl_v (x_eql (tmI rfl rfl) (ev_cN 0)) ?_
       refine wl_nil ?_
       refine then_n (hK7 _ _ ?_); clear hK7 K7
       refine cnd (tm rfl) (fun hc1 => ?_) (fun hc1 => ?_)
       · try (exfalso; first | with_reducible exact absurd hc1 Bool.false_ne_true | with_reducible exact absurd hc1.symm Bool.false_ne_true | (simp only [nrm] at hc1; omega) | (simp at hc1; done))
         all_goals
          try simp only [nrm] at hc1
          have hno : ¬ isP n := fun h => by
            rcases Nat.lt_or_ge d n with h1 | h1
            · exact h.2 d hd h1 (by omega)
            · obtain rfl : d = n := by omega
              have := Nat.div_self (n := d) (by omega)
              omega
          refine wp_seq_k ?_; intro K8 hK8
          refine wlit ?_
          refine wl_v (x_assign ev_c) ?_
          refine wl_nil ?_
          refine then_n (hK8 _ _ ?_); clear hK8 K8
          refine wp_ret ?_
          refine inb_r ?_
          refine then_r ?_
          refine then_r ?_
          refine inb_r ?_
          refine then_r ?_
          refine ret1 rfl (.tmp rfl (show _ = Value.bool _ from rfl)) ?_
          first
            | exact ⟨_, rfl, ⟨fun h => absurd h Bool.false_ne_true, fun h => absurd h hno⟩, hS.kp⟩
            | exact ⟨_, rfl, ⟨fun _ => hyes, fun _ => by simp; omega⟩, hS.kp⟩
       try (exfalso; first | with_reducible exact absurd hc1 Bool.false_ne_true | with_reducible exact absurd hc1.symm Bool.false_ne_true | (simp only [nrm] at hc1; omega) | (simp at hc1; done))
       all_goals
        try simp only [nrm] at hc1
        have hne : n % d ≠ 0 := by omega
        have hallN : ∀ e, 2 ≤ e → e < d + 1 → n % e ≠ 0 := fun e h1 h2 => by
          rcases Nat.lt_or_ge e d with h3 | h3
          · exact hall e h1 h3
          · obtain rfl : e = d := by omega
            exact hne
        refine wp_skip ?_
        refine inb_n ?_
        refine then_n (hK6 _ _ ?_); clear hK6 K6
        refine wlit ?_
        refine wl_v (x_move (tmI rfl rfl)) ?_
        first
         | refine wl_v (x_addN (tmI rfl rfl) (ev_cN 1) (fit_i64 (by omega))) ?_
         | refine wl_v (x_addI (tmI rfl rfl) (ev_cN 1) (IntWalk.i64_in _ (by omega))) ?_
         | refine wl_v (x_add (tmI rfl rfl) (ev_cN 1)) ?_
        refine wl_v (x_assign (tmI rfl rfl)) ?_
        refine wl_nil ?_
        exact then_n ⟨_, _, rfl, (by show _ < _; omega), (by repeat (first | exact agree_self | exact agree_refl | refine agree_upd rfl ?_ | refine agree_mix rfl ?_)), d + 1, rfl, (by first | rfl | go_num | exact congrArg (Value.int _) (by first | omega | (simp; done) | (simp; omega))), hS, (by omega), (by omega), (by first | (intro e h1 h2; omega) | exact hallN)⟩
    try (exfalso; first | with_reducible exact absurd hc0 Bool.false_ne_true | with_reducible exact absurd hc0.symm Bool.false_ne_true | (simp only [nrm] at hc0; omega) | (simp at hc0; done))
    all_goals
     try simp only [nrm] at hc0
     refine wp_exit ?_
     refine then_x ?_; clear hK4 K4
     refine then_x ?_
     refine inb_x ?_
     refine then_n (hK2 _ _ ?_); clear hK2 K2
     refine wp_seq_k ?_; intro K9 hK9
     have hyes : isP n := isP_of_half h2 hd hall (by omega)
     refine wlit ?_
     refine wl_v (x_move (tmI rfl rfl)) ?_
     refine wl_v (x_geq (tmI rfl rfl) (ev_cN 2)) ?_
     refine wl_v (x_assign (tmB rfl rfl)) ?_
     refine wl_nil ?_
     refine then_n (hK9 _ _ ?_); clear hK9 K9
     refine wp_ret ?_
     refine ret1 rfl (.tmp rfl (show _ = Value.bool _ from rfl)) ?_
     first
       | exact ⟨_, rfl, ⟨fun h => absurd h Bool.false_ne_true, fun h => absurd h hno⟩, hS.kp⟩
       | exact ⟨_, rfl, ⟨fun _ => hyes, fun _ => by simp; omega⟩, hS.kp⟩
set_option maxRecDepth 100000 in
set_option maxHeartbeats 4000000 in
theorem rprime_c (n : Nat) (w0 : World) (h2 : 2 ≤ n) (hn : n ≤ 2048) : Calls Try.prog 18 #[.int .i64 (n : Int)] w0 fun e w' => ∃ b, e = .returned (.bool b) ∧ (b = true ↔ isP n) ∧ Kp [] w0 w' := by
  have hS := St.sv w0
  refine ent (n := 19) Try.func18 rfl rfl ?_
  refine wp_seq_k ?_; intro K1 hK1
  refine wlit ?_
  refine wl_v (x_assign ev_c) ?_
  refine wl_nil ?_
  refine then_n (hK1 _ _ ?_); clear hK1 K1
  refine wp_seq_k ?_; intro K2 hK2
  refine wp_seq_k ?_; intro K3 hK3
  refine wlit ?_
  refine wl_v (x_move (tmI rfl rfl)) ?_
  refine wl_v (x_lss (tmI rfl rfl) (ev_cN 2)) ?_
  refine wl_nil ?_
  refine then_n (hK3 _ _ ?_); clear hK3 K3
  refine cnd (tm rfl) (fun hc0 => ?_) (fun hc0 => ?_)
  · exfalso
    simp at hc0
    omega
  try (exfalso; first | with_reducible exact absurd hc0 Bool.false_ne_true | with_reducible exact absurd hc0.symm Bool.false_ne_true | (simp only [nrm] at hc0; omega) | (simp at hc0; done))
  all_goals
   try simp only [nrm] at hc0
   refine wp_skip ?_
   refine then_n (hK2 _ _ ?_); clear hK2 K2
   refine wp_seq_k ?_; intro K4 hK4
   refine wp_seq_k ?_; intro K5 hK5
   refine wlit ?_
   refine wl_v (x_assign (ev_cN 2)) ?_
   refine wl_nil ?_
   refine then_n (hK5 _ _ ?_); clear hK5 K5
   refine wp_block ?_
   refine lp [2, 3, 6, 7, 8, 9, 10, 11, 12, 13, 14, 15, 16, 17, 18] (fun mz g w => ∃ (d : Nat), mz = n + 2 - d ∧ g 3 = .int .i64 (d : Int) ∧ St [] w0 [] w ∧ (2 ≤ d) ∧ (d ≤ n) ∧ (∀ e, 2 ≤ e → e < d → n % e ≠ 0)) ?_ ?_
   · exact ⟨_, 2, rfl, (by first | rfl | go_num | exact congrArg (Value.int _) (by first | omega | (simp; done) | (simp; omega))), hS, (by omega), (by omega), (by first | (intro e h1 h2; omega) | exact hallN)⟩
   · clear hS; intro mz g w hI
     obtain ⟨d, rfl, hs3, hS, hd, hdn, hall⟩ := hI
     refine fr_know (d := 3) hs3 ?_; clear hs3
     refine wp_seq_k ?_; intro K6 hK6
     refine wp_seq_k ?_; intro K7 hK7
     refine wlit ?_
     refine wl_v (x_move (tmI rfl rfl)) ?_
     refine wl_v (x_move (tmI rfl rfl)) ?_
     refine wl_v (x_lss (tmI rfl rfl) (tmI rfl rfl)) ?_
     refine wl_v (x_move (tmB rfl rfl)) ?_
     refine gs_wl (tm (t := 9) rfl) (fun hg4_3 => ?_) (fun hg4_3 => ?_)
     · have hg4_3' := hg4_3; (try simp only [nrm] at hg4_3'); try (exfalso; first | with_reducible exact absurd hg4_3 Bool.false_ne_true | with_reducible exact absurd hg4_3.symm Bool.false_ne_true | omega | (simp at hg4_3; done))
       all_goals
        refine wl_gv (want_y rfl rfl rfl rfl (by rw [hg4_3]; rfl)) (x_move (tmI rfl rfl)) ?_
        refine wl_gv (want_y rfl rfl rfl rfl (by rw [hg4_3]; rfl)) (x_leq (tmI rfl rfl) (ev_cN 2048)) ?_
        refine wl_v (x_pickT (tmB rfl rfl) hg4_3 (tmB rfl rfl)) ?_
        refine wl_nil ?_
        refine then_n (hK7 _ _ ?_); clear hK7 K7
        refine cnd (tm rfl) (fun hc1 => ?_) (fun hc1 => ?_)
        · try (exfalso; first | with_reducible exact absurd hc1 Bool.false_ne_true | with_reducible exact absurd hc1.symm Bool.false_ne_true | (simp only [nrm] at hc1; omega) | (simp at hc1; done))
          all_goals
           try simp only [nrm] at hc1
           refine wp_skip ?_
           refine then_n (hK6 _ _ ?_); clear hK6 K6
           refine wp_seq_k ?_; intro K8 hK8
           refine wp_block ?_
           refine wp_seq_k ?_; intro K9 hK9
           refine wlit ?_
           refine wl_v (x_move (tmI rfl rfl)) ?_
           refine wl_v (x_move (tmI rfl rfl)) ?_
           first
            | refine wl_v (x_remN (tmI rfl rfl) (tmI rfl rfl) (by omega)) ?_
            | refine wl_v (x_rem (tmI rfl rfl) (tmI rfl rfl) (by omega)) ?_
           refine wl_v (x_eql (tmI rfl rfl) (ev_cN 0)) ?_
           refine wl_nil ?_
           refine then_n (hK9 _ _ ?_); clear hK9 K9
           refine cnd (tm rfl) (fun hc2 => ?_) (fun hc2 => ?_)
           · try (exfalso; first | with_reducible exact absurd hc2 Bool.false_ne_true | with_reducible exact absurd hc2.symm Bool.false_ne_true | (simp only [nrm] at hc2; omega) | (simp at hc2; done))
             all_goals
              try simp only [nrm] at hc2
              have hno : ¬ isP n := fun h => h.2 d hd (by omega) (by omega)
              refine wp_seq_k ?_; intro K10 hK10
              refine wlit ?_
              refine wl_v (x_assign ev_c) ?_
              refine wl_nil ?_
              refine then_n (hK10 _ _ ?_); clear hK10 K10
              refine wp_ret ?_
              refine inb_r ?_
              refine then_r ?_
              refine then_r ?_
              refine inb_r ?_
              refine then_r ?_
              refine ret1 rfl (.tmp rfl (show _ = Value.bool _ from rfl)) ?_
              first
                | exact ⟨_, rfl, ⟨fun h => absurd h Bool.false_ne_true, fun h => absurd h hno⟩, hS.kp⟩
                | exact ⟨_, rfl, ⟨fun _ => hyes, fun _ => rfl⟩, hS.kp⟩
           try (exfalso; first | with_reducible exact absurd hc2 Bool.false_ne_true | with_reducible exact absurd hc2.symm Bool.false_ne_true | (simp only [nrm] at hc2; omega) | (simp at hc2; done))
           all_goals
            try simp only [nrm] at hc2
            have hne : n % d ≠ 0 := by omega
            have hallN : ∀ e, 2 ≤ e → e < d + 1 → n % e ≠ 0 := fun e h1 h2 => by
              rcases Nat.lt_or_ge e d with h3 | h3
              · exact hall e h1 h3
              · obtain rfl : e = d := by omega
                exact hne
            refine wp_skip ?_
            refine inb_n ?_
            refine then_n (hK8 _ _ ?_); clear hK8 K8
            refine wlit ?_
            refine wl_v (x_move (tmI rfl rfl)) ?_
            first
             | refine wl_v (x_addN (tmI rfl rfl) (ev_cN 1) (fit_i64 (by omega))) ?_
             | refine wl_v (x_addI (tmI rfl rfl) (ev_cN 1) (IntWalk.i64_in _ (by omega))) ?_
             | refine wl_v (x_add (tmI rfl rfl) (ev_cN 1)) ?_
            refine wl_v (x_assign (tmI rfl rfl)) ?_
            refine wl_nil ?_
            exact then_n ⟨_, _, rfl, (by show _ < _; omega), (by repeat (first | exact agree_self | exact agree_refl | refine agree_upd rfl ?_ | refine agree_mix rfl ?_)), d + 1, rfl, (by first | rfl | go_num | exact congrArg (Value.int _) (by first | omega | (simp; done) | (simp; omega))), hS, (by omega), (by omega), (by first | (intro e h1 h2; omega) | exact hallN)⟩
        try (exfalso; first | with_reducible exact absurd hc1 Bool.false_ne_true | with_reducible exact absurd hc1.symm Bool.false_ne_true | (simp only [nrm] at hc1; omega) | (simp at hc1; done))
        all_goals
         try simp only [nrm] at hc1
         refine wp_exit ?_
         refine then_x ?_; clear hK6 K6
         refine then_x ?_
         refine inb_x ?_
         refine then_n (hK4 _ _ ?_); clear hK4 K4
         refine wp_seq_k ?_; intro K11 hK11
         have hyes : isP n := ⟨h2, fun e h1 h3 => hall e h1 (by omega)⟩
         refine wlit ?_
         refine wl_v (x_assign ev_c) ?_
         refine wl_nil ?_
         refine then_n (hK11 _ _ ?_); clear hK11 K11
         refine wp_ret ?_
         refine ret1 rfl (.tmp rfl (show _ = Value.bool _ from rfl)) ?_
         first
           | exact ⟨_, rfl, ⟨fun h => absurd h Bool.false_ne_true, fun h => absurd h hno⟩, hS.kp⟩
           | exact ⟨_, rfl, ⟨fun _ => hyes, fun _ => rfl⟩, hS.kp⟩
     have hg4_3' := hg4_3; (try simp only [nrm] at hg4_3'); try (exfalso; first | with_reducible exact absurd hg4_3 Bool.false_ne_true | with_reducible exact absurd hg4_3.symm Bool.false_ne_true | omega | (simp at hg4_3; done))
     all_goals
      refine wl_s rfl (want_n rfl rfl rfl rfl (by rw [hg4_3]; rfl)) ?_
      refine wl_s rfl (want_n rfl rfl rfl rfl (by rw [hg4_3]; rfl)) ?_
      refine wl_v (x_pickF (tmB rfl rfl) hg4_3 ev_c) ?_
      refine wl_nil ?_
      refine then_n (hK7 _ _ ?_); clear hK7 K7
      refine cnd_f (tmB rfl rfl) rfl ?_
      refine wp_exit ?_
      refine then_x ?_; clear hK6 K6
      refine then_x ?_
      refine inb_x ?_
      refine then_n (hK4 _ _ ?_); clear hK4 K4
      refine wp_seq_k ?_; intro K12 hK12
      have hyes : isP n := ⟨h2, fun e h1 h3 => hall e h1 (by omega)⟩
      refine wlit ?_
      refine wl_v (x_assign ev_c) ?_
      refine wl_nil ?_
      refine then_n (hK12 _ _ ?_); clear hK12 K12
      refine wp_ret ?_
      refine ret1 rfl (.tmp rfl (show _ = Value.bool _ from rfl)) ?_
      first
        | exact ⟨_, rfl, ⟨fun h => absurd h Bool.false_ne_true, fun h => absurd h hno⟩, hS.kp⟩
        | exact ⟨_, rfl, ⟨fun _ => hyes, fun _ => rfl⟩, hS.kp⟩
set_option maxRecDepth 100000 in
set_option maxHeartbeats 4000000 in
theorem prime_low (z : Int) (w0 : World) (hz : z < 2) (hz1 : -9223372036854775808 ≤ z) : Calls Try.prog 14 #[.int .i64 z] w0 fun e w' => e = .returned (.bool false) ∧ Kp [] w0 w' := by
  have hS := St.sv w0
  have hlo : -9223372036854775808 ≤ z.tdiv 2 ∧ z.tdiv 2 < 2 := by
    rcases (by omega : z < 0 ∨ 0 ≤ z) with h | h
    · obtain ⟨m, rfl⟩ : ∃ m : Nat, z = -(m : Int) := ⟨(-z).toNat, by omega⟩
      rw [Int.neg_tdiv, Int.tdiv_eq_ediv_of_nonneg (by omega)]
      omega
    · obtain ⟨m, rfl⟩ := Int.eq_ofNat_of_zero_le h
      rw [Int.tdiv_eq_ediv_of_nonneg (by omega)]
      omega
  have hw : IntKind.i64.wrap (z.tdiv 2) = z.tdiv 2 := IntWalk.i64_in _ (by omega)
  refine ent (n := 17) Try.func14 rfl rfl ?_
  refine wp_seq_k ?_; intro K1 hK1
  refine wlit ?_
  refine wl_v (x_assign ev_c) ?_
  refine wl_nil ?_
  refine then_n (hK1 _ _ ?_); clear hK1 K1
  refine wp_seq_k ?_; intro K2 hK2
  refine wp_seq_k ?_; intro K3 hK3
  refine wlit ?_
  refine wl_v (x_assign (ev_cN 2)) ?_
  refine wl_nil ?_
  refine then_n (hK3 _ _ ?_); clear hK3 K3
  refine wp_block ?_
  refine lp [2, 3, 4, 5, 6, 7, 8, 9, 10, 11, 12, 13, 14] (fun mz g w => mz = 0 ∧ g 3 = .int .i64 2 ∧ St [] w0 [] w) ?_ ?_
  · exact ⟨_, rfl, (by first | rfl | go_num | exact congrArg (Value.int _) (by first | omega | (simp; done) | (simp; omega))), hS⟩
  · clear hS; intro mz g w hI
    obtain ⟨rfl, hs3, hS⟩ := hI
    refine fr_know (d := 3) hs3 ?_; clear hs3
    refine wp_seq_k ?_; intro K4 hK4
    refine wp_seq_k ?_; intro K5 hK5
    refine wlit ?_
    refine wl_v (x_move (tmI rfl rfl)) ?_
    refine wl_v (x_move (tmI rfl rfl)) ?_
    refine wl_v (x_move (tmI rfl rfl)) ?_
    first
     | refine wl_v (x_quoN (tmI rfl rfl) (tmI rfl rfl) (by omega) (fit_i64 (by omega))) ?_
     | refine wl_v (x_quo (tmI rfl rfl) (tmI rfl rfl) (by omega)) ?_
    refine wl_v (x_leq (tmI rfl rfl) (tmI rfl rfl)) ?_
    refine wl_nil ?_
    refine then_n (hK5 _ _ ?_); clear hK5 K5
    refine cnd (tm rfl) (fun hc0 => ?_) (fun hc0 => ?_)
    · exfalso
      simp at hc0
      rw [hw] at hc0
      omega
    try (exfalso; first | with_reducible exact absurd hc0 Bool.false_ne_true | with_reducible exact absurd hc0.symm Bool.false_ne_true | (simp only [nrm] at hc0; omega) | (simp at hc0; done))
    all_goals
     try simp only [nrm] at hc0
     refine wp_exit ?_
     refine then_x ?_; clear hK4 K4
     refine then_x ?_
     refine inb_x ?_
     refine then_n (hK2 _ _ ?_); clear hK2 K2
     refine wp_seq_k ?_; intro K6 hK6
     refine wlit ?_
     refine wl_v (x_move (tmI rfl rfl)) ?_
     refine wl_v (x_geq (tmI rfl rfl) (ev_cN 2)) ?_
     refine wl_v (x_assign (tmB rfl rfl)) ?_
     refine wl_nil ?_
     refine then_n (hK6 _ _ ?_); clear hK6 K6
     refine wp_ret ?_
     refine ret1 rfl (.tmp rfl (show _ = Value.bool _ from rfl)) ?_
     exact ⟨by simp; omega, hS.kp⟩
set_option maxRecDepth 100000 in
set_option maxHeartbeats 4000000 in
theorem rprime_low (z : Int) (w0 : World) (hz : z < 2) (hz1 : -9223372036854775808 ≤ z) : Calls Try.prog 18 #[.int .i64 z] w0 fun e w' => e = .returned (.bool false) ∧ Kp [] w0 w' := by
  have hS := St.sv w0
  refine ent (n := 19) Try.func18 rfl rfl ?_
  refine wp_seq_k ?_; intro K1 hK1
  refine wlit ?_
  refine wl_v (x_assign ev_c) ?_
  refine wl_nil ?_
  refine then_n (hK1 _ _ ?_); clear hK1 K1
  refine wp_seq_k ?_; intro K2 hK2
  refine wp_seq_k ?_; intro K3 hK3
  refine wlit ?_
  refine wl_v (x_move (tmI rfl rfl)) ?_
  refine wl_v (x_lss (tmI rfl rfl) (ev_cN 2)) ?_
  refine wl_nil ?_
  refine then_n (hK3 _ _ ?_); clear hK3 K3
  refine cnds (tm rfl) (fun hc0 => ?_) (fun hc0 => ?_)
  · exfalso
    simp at hc0
    omega
  try (exfalso; first | with_reducible exact absurd hc0 Bool.false_ne_true | with_reducible exact absurd hc0.symm Bool.false_ne_true | (simp only [nrm] at hc0; omega) | (simp at hc0; done))
  all_goals
   try simp only [nrm] at hc0
   refine wp_seq_k ?_; intro K4 hK4
   refine wlit ?_
   refine wl_v (x_assign ev_c) ?_
   refine wl_nil ?_
   refine then_n (hK4 _ _ ?_); clear hK4 K4
   refine wp_ret ?_
   refine then_r ?_
   refine ret1 rfl (.tmp rfl (show _ = Value.bool _ from rfl)) ?_
   exact ⟨rfl, hS.kp⟩
def okM (l : List Int) : Prop := (∀ x ∈ l, 1 ≤ x ∧ x ≤ 64) ∧ l.Nodup
theorem okM_nil : okM [] := ⟨fun x hx => (by cases hx), List.nodup_nil⟩
theorem okM_snoc {l : List Int} {k : Nat} (h : okM (l.take k)) (hk : k < l.length) (h1 : 1 ≤ l.getD k 0 ∧ l.getD k 0 ≤ 64) (h2 : l.getD k 0 ∉ l.take k) : okM (l.take (k + 1)) := by
  have he : l.getD k 0 = l[k] := by rw [List.getD_eq_getElem?_getD, List.getElem?_eq_getElem hk]; rfl
  rw [List.take_succ_eq_append_getElem hk, ← he]
  refine ⟨fun x hx => ?_, ?_⟩
  · rcases List.mem_append.1 hx with hx | hx
    · exact h.1 x hx
    · rw [List.mem_singleton.1 hx]; exact h1
  · rw [List.nodup_append]
    refine ⟨h.2, by simp, fun a ha b hb => ?_⟩
    rw [List.mem_singleton.1 hb]
    rintro rfl
    exact h2 ha
theorem okM_get {l : List Int} (h : okM l) {k : Nat} (hk : k < l.length) : 1 ≤ l.getD k 0 ∧ l.getD k 0 ≤ 64 := by
  refine h.1 _ ?_
  rw [List.getD_eq_getElem?_getD, List.getElem?_eq_getElem hk]
  exact List.getElem_mem _
theorem okM_ne {l : List Int} (h : okM l) {i k : Nat} (hi : i < k) (hk : k < l.length) : l.getD i 0 ≠ l.getD k 0 := by
  rw [List.getD_eq_getElem?_getD, List.getElem?_eq_getElem (by omega), List.getD_eq_getElem?_getD, List.getElem?_eq_getElem hk]
  intro he
  have := (List.getElem_inj h.2).1 (show l[i] = l[k] from he)
  omega
theorem mem_take_get {l : List Int} {k : Nat} {x : Int} (hk : k ≤ l.length) : x ∈ l.take k ↔ ∃ i, i < k ∧ l.getD i 0 = x := by
  constructor
  · intro h
    obtain ⟨i, hi, rfl⟩ := List.getElem_of_mem h
    rw [List.length_take] at hi
    refine ⟨i, by omega, ?_⟩
    rw [List.getElem_take, List.getD_eq_getElem?_getD, List.getElem?_eq_getElem (by omega)]
    rfl
  · rintro ⟨i, hi, rfl⟩
    rw [List.getD_eq_getElem?_getD, List.getElem?_eq_getElem (by omega)]
    exact List.mem_take_iff_getElem.2 ⟨i, by omega, rfl⟩
def bL (f : Nat → Bool) : List Value := (List.range 65).map fun j => .bool (f j)
theorem bL_len (f : Nat → Bool) : (bL f).length = 65 := by simp [bL]
theorem bL_get (f : Nat → Bool) {j : Nat} (h : j < 65) : (bL f)[j]? = some (.bool (f j)) := by
  unfold bL
  rw [List.getElem?_map, List.getElem?_range h]; rfl
theorem bL_set (f : Nat → Bool) {j : Nat} {v : Bool} : (bL f).set j (.bool v) = bL (fun i => if i = j then v else f i) := by
  apply List.ext_getElem (by rw [List.length_set, bL_len, bL_len])
  intro i h1 h2
  rw [List.getElem_set]
  simp only [bL, List.getElem_map, List.getElem_range]
  split
  · subst j; rw [if_pos rfl]
  · rw [if_neg (by omega)]
set_option maxRecDepth 100000 in
set_option maxHeartbeats 4000000 in
theorem rightm_c (A : Option Addr) (n c : Nat) (l : List Int) (size : Int) (w0 : World) (hv : View w0 w0.heap.size A (l.map i64v)) (hl : l.length = n) (hn : n ≤ 70) :
    Calls Try.prog 15 #[.slice A n c, .int .i64 size] w0 fun e w' => ∃ b, e = .returned (.bool b) ∧ (b = true ↔ okM l ∧ 1 ≤ n ∧ (n : Int) ≤ size) ∧ Kp [] w0 w' := by
  have hS := (St.sv w0).vcons rfl hv
  refine ent (n := 37) Try.func15 rfl rfl ?_
  refine wp_seq_k ?_; intro K1 hK1
  refine wlit ?_
  refine wl_v (x_assign ev_c) ?_
  refine wl_nil ?_
  refine then_n (hK1 _ _ ?_); clear hK1 K1
  refine wp_seq_k ?_; intro K2 hK2
  refine wlit ?_
  refine wl_e rfl ?_; intro K hK
  refine ow_alloc hS tz_55 rfl ?_
  clear hS; intro g1_0 w hg1_0 hS
  refine hK _ _ ?_; clear hK K
  refine wl_nil ?_
  refine then_n (hK2 _ _ ?_); clear hK2 K2
  refine wp_seq_k ?_; intro K3 hK3
  refine wp_seq_k ?_; intro K4 hK4
  refine wlit ?_
  refine wl_v (x_move (tmS rfl rfl)) ?_
  refine wl_v (x_len Try.underlying23 (tmS rfl rfl)) ?_
  refine wl_v (x_move (ev_cN 0)) ?_
  refine wl_nil ?_
  refine then_n (hK4 _ _ ?_); clear hK4 K4
  refine wp_block ?_
  refine lp [4, 7, 10, 11, 12, 13, 14, 15, 16, 17, 18, 19, 20, 21, 22, 23, 24, 25, 26, 27] (fun mz g w => ∃ (k : Nat), ∃ (f : Nat → Bool), mz = n - k ∧ g 10 = .int .i64 (k : Int) ∧ St [] w0 [.blk g1_0 55 (bL f), .vw A (l.map i64v)] w ∧ (k ≤ n) ∧ (okM (l.take k)) ∧ (∀ j : Nat, f j = true ↔ (j : Int) ∈ l.take k)) ?_ ?_
  · exact ⟨_, 0, fun _ => false, rfl, (by first | rfl | go_num | exact congrArg (Value.int _) (by first | omega | (simp; done) | (simp; omega))), hS, (by omega), (by first | exact okM_nil | exact hokN), (by first | exact hfN | (intro j; simp; done))⟩
  · clear hS; intro mz g w hI
    obtain ⟨k, f, rfl, hs10, hS, hk, hok, hf⟩ := hI
    refine fr_know (d := 10) hs10 ?_; clear hs10
    refine wp_seq_k ?_; intro K5 hK5
    refine wlit ?_
    refine wl_v (x_lss (tmI rfl rfl) (tmI rfl rfl)) ?_
    refine wl_nil ?_
    refine then_n (hK5 _ _ ?_); clear hK5 K5
    refine wp_seq_k ?_; intro K6 hK6
    refine cnd (tm rfl) (fun hc0 => ?_) (fun hc0 => ?_)
    · try (exfalso; first | with_reducible exact absurd hc0 Bool.false_ne_true | with_reducible exact absurd hc0.symm Bool.false_ne_true | (simp only [nrm] at hc0; omega) | (simp at hc0; done))
      all_goals
       try simp only [nrm] at hc0
       obtain ⟨b0, o0, rfl⟩ := view_some hv (by rw [List.length_map]; omega)
       have hlb := bL_len f
       have hgk : (l.map i64v)[k]? = some (.int .i64 (l.getD k 0)) := getm (by omega)
       refine wp_skip ?_
       refine then_n (hK6 _ _ ?_); clear hK6 K6
       refine wp_seq_k ?_; intro K7 hK7
       refine wp_block ?_
       refine wp_seq_k ?_; intro K8 hK8
       refine wlit ?_
       refine wl_v (x_ixs1 Try.underlying23 ts_3 (tmS rfl rfl) (tmI rfl rfl) (by omega)) ?_
       refine wl_v (x_load (v := .int .i64 (l.getD k 0)) Try.underlying3 rfl (tmP rfl rfl) (cellV hS.ok 1 rfl (by simpa using hgk))) ?_
       refine wl_v (x_assign (tmI rfl rfl)) ?_
       refine wl_nil ?_
       refine then_n (hK8 _ _ ?_); clear hK8 K8
       refine wp_seq_k ?_; intro K9 hK9
       refine wp_seq_k ?_; intro K10 hK10
       refine wlit ?_
       refine wl_v (x_move (tmI rfl rfl)) ?_
       refine wl_v (x_lss (tmI rfl rfl) (ev_cN 1)) ?_
       refine wl_v (x_move (tmB rfl rfl)) ?_
       refine gs_wl (tm (t := 16) rfl) (fun hg5_2 => ?_) (fun hg5_2 => ?_)
       · have hg5_2' := hg5_2; (try simp only [nrm] at hg5_2'); try (exfalso; first | with_reducible exact absurd hg5_2 Bool.false_ne_true | with_reducible exact absurd hg5_2.symm Bool.false_ne_true | omega | (simp at hg5_2; done))
         all_goals
          refine wl_s rfl (want_n rfl rfl rfl rfl (by rw [hg5_2]; rfl)) ?_
          refine wl_s rfl (want_n rfl rfl rfl rfl (by rw [hg5_2]; rfl)) ?_
          refine wl_v (x_pickT (tmB rfl rfl) hg5_2 ev_c) ?_
          refine wl_v (x_move (tmB rfl rfl)) ?_
          refine wl_s rfl (want_n rfl rfl rfl rfl rfl) ?_
          refine wl_s rfl (want_n rfl rfl rfl rfl rfl) ?_
          refine wl_s rfl (want_n rfl rfl rfl rfl rfl) ?_
          refine wl_v (x_pickT (tmB rfl rfl) rfl ev_c) ?_
          refine wl_nil ?_
          refine then_n (hK10 _ _ ?_); clear hK10 K10
          refine cnd_t (tmB rfl rfl) rfl ?_
          refine wp_seq_k ?_; intro K11 hK11
          have hbad : ¬ okM l := fun h => by
            have h1 := okM_get h (k := k) (by omega)
            first
              | omega
              | (obtain ⟨i, hi, he⟩ := (mem_take_get (by omega)).1 ((hf m).1 (by simpa using hc1))
                 exact okM_ne h hi (by omega) (he.trans hm.symm))
          refine wlit ?_
          refine wl_v (x_assign ev_c) ?_
          refine wl_nil ?_
          refine then_n (hK11 _ _ ?_); clear hK11 K11
          refine wp_ret ?_
          refine then_r ?_
          refine inb_r ?_
          refine then_r ?_
          refine then_r ?_
          refine inb_r ?_
          refine then_r ?_
          refine ret1 rfl (.tmp rfl (show _ = Value.bool _ from rfl)) ?_
          first
            | exact ⟨_, rfl, ⟨fun h => absurd h Bool.false_ne_true, fun h => absurd h.1 hbad⟩, hS.kp⟩
            | exact ⟨_, rfl, ⟨fun h => absurd h Bool.false_ne_true, fun h => by omega⟩, hS.kp⟩
            | exact ⟨_, rfl, ⟨fun h => ⟨hall, by omega, by simpa using h⟩, fun h => by simpa using h.2.2⟩, hS.kp⟩
       have hg5_2' := hg5_2; (try simp only [nrm] at hg5_2'); try (exfalso; first | with_reducible exact absurd hg5_2 Bool.false_ne_true | with_reducible exact absurd hg5_2.symm Bool.false_ne_true | omega | (simp at hg5_2; done))
       all_goals
        refine wl_gv (want_y rfl rfl rfl rfl (by rw [hg5_2]; rfl)) (x_move (tmI rfl rfl)) ?_
        refine wl_gv (want_y rfl rfl rfl rfl (by rw [hg5_2]; rfl)) (x_gtr (tmI rfl rfl) (ev_cN 64)) ?_
        refine wl_v (x_pickF (tmB rfl rfl) hg5_2 (tmB rfl rfl)) ?_
        refine wl_v (x_move (tmB rfl rfl)) ?_
        refine gs_wl (tm (t := 20) rfl) (fun hg5_6 => ?_) (fun hg5_6 => ?_)
        · have hg5_6' := hg5_6; (try simp only [nrm] at hg5_6'); try (exfalso; first | with_reducible exact absurd hg5_6 Bool.false_ne_true | with_reducible exact absurd hg5_6.symm Bool.false_ne_true | omega | (simp at hg5_6; done))
          all_goals
           refine wl_s rfl (want_n rfl rfl rfl rfl (by rw [hg5_6]; rfl)) ?_
           refine wl_s rfl (want_n rfl rfl rfl rfl (by rw [hg5_6]; rfl)) ?_
           refine wl_s rfl (want_n rfl rfl rfl rfl (by rw [hg5_6]; rfl)) ?_
           refine wl_v (x_pickT (tmB rfl rfl) hg5_6 ev_c) ?_
           refine wl_nil ?_
           refine then_n (hK10 _ _ ?_); clear hK10 K10
           refine cnd_t (tmB rfl rfl) rfl ?_
           refine wp_seq_k ?_; intro K12 hK12
           have hbad : ¬ okM l := fun h => by
             have h1 := okM_get h (k := k) (by omega)
             first
               | omega
               | (obtain ⟨i, hi, he⟩ := (mem_take_get (by omega)).1 ((hf m).1 (by simpa using hc1))
                  exact okM_ne h hi (by omega) (he.trans hm.symm))
           refine wlit ?_
           refine wl_v (x_assign ev_c) ?_
           refine wl_nil ?_
           refine then_n (hK12 _ _ ?_); clear hK12 K12
           refine wp_ret ?_
           refine then_r ?_
           refine inb_r ?_
           refine then_r ?_
           refine then_r ?_
           refine inb_r ?_
           refine then_r ?_
           refine ret1 rfl (.tmp rfl (show _ = Value.bool _ from rfl)) ?_
           first
             | exact ⟨_, rfl, ⟨fun h => absurd h Bool.false_ne_true, fun h => absurd h.1 hbad⟩, hS.kp⟩
             | exact ⟨_, rfl, ⟨fun h => absurd h Bool.false_ne_true, fun h => by omega⟩, hS.kp⟩
             | exact ⟨_, rfl, ⟨fun h => ⟨hall, by omega, by simpa using h⟩, fun h => by simpa using h.2.2⟩, hS.kp⟩
        have hg5_6' := hg5_6; (try simp only [nrm] at hg5_6'); try (exfalso; first | with_reducible exact absurd hg5_6 Bool.false_ne_true | with_reducible exact absurd hg5_6.symm Bool.false_ne_true | omega | (simp at hg5_6; done))
        all_goals
         obtain ⟨m, hm⟩ : ∃ m : Nat, l.getD k 0 = (m : Int) := ⟨(l.getD k 0).toNat, by omega⟩
         have hm64 : 1 ≤ m ∧ m ≤ 64 := by omega
         refine wl_gv (want_y rfl rfl rfl rfl (by rw [hg5_6]; rfl)) (x_move (tmI rfl rfl)) ?_
         refine wl_gv (want_y rfl rfl rfl rfl (by rw [hg5_6]; rfl)) (x_ixa1 Try.underlying55 ts_4 (tmP rfl rfl) (tmI rfl (congrArg (Value.int .i64) hm)) (by omega)) ?_
         refine wl_gv (want_y rfl rfl rfl rfl (by rw [hg5_6]; rfl)) (x_load (v := .bool (f m)) Try.underlying4 rfl (tmP rfl rfl) (cellB hS.ok 0 rfl (by simp only [Nat.zero_add]; exact bL_get f (by omega)))) ?_
         refine wl_v (x_pickF (tmB rfl rfl) hg5_6 (tmB rfl rfl)) ?_
         refine wl_nil ?_
         refine then_n (hK10 _ _ ?_); clear hK10 K10
         refine cnd (tm rfl) (fun hc1 => ?_) (fun hc1 => ?_)
         · try (exfalso; first | with_reducible exact absurd hc1 Bool.false_ne_true | with_reducible exact absurd hc1.symm Bool.false_ne_true | (simp only [nrm] at hc1; omega) | (simp at hc1; done))
           all_goals
            try simp only [nrm] at hc1
            refine wp_seq_k ?_; intro K13 hK13
            have hbad : ¬ okM l := fun h => by
              have h1 := okM_get h (k := k) (by omega)
              first
                | omega
                | (obtain ⟨i, hi, he⟩ := (mem_take_get (by omega)).1 ((hf m).1 (by simpa using hc1))
                   exact okM_ne h hi (by omega) (he.trans hm.symm))
            refine wlit ?_
            refine wl_v (x_assign ev_c) ?_
            refine wl_nil ?_
            refine then_n (hK13 _ _ ?_); clear hK13 K13
            refine wp_ret ?_
            refine then_r ?_
            refine inb_r ?_
            refine then_r ?_
            refine then_r ?_
            refine inb_r ?_
            refine then_r ?_
            refine ret1 rfl (.tmp rfl (show _ = Value.bool _ from rfl)) ?_
            first
              | exact ⟨_, rfl, ⟨fun h => absurd h Bool.false_ne_true, fun h => absurd h.1 hbad⟩, hS.kp⟩
              | exact ⟨_, rfl, ⟨fun h => absurd h Bool.false_ne_true, fun h => by omega⟩, hS.kp⟩
              | exact ⟨_, rfl, ⟨fun h => ⟨hall, by omega, by simpa using h⟩, fun h => by simpa using h.2.2⟩, hS.kp⟩
         try (exfalso; first | with_reducible exact absurd hc1 Bool.false_ne_true | with_reducible exact absurd hc1.symm Bool.false_ne_true | (simp only [nrm] at hc1; omega) | (simp at hc1; done))
         all_goals
          try simp only [nrm] at hc1
          refine wp_skip ?_
          refine then_n (hK9 _ _ ?_); clear hK9 K9
          have hfm : f m = false := by first | (simpa using hc1) | (rw [← Bool.not_eq_true]; exact hc1)
          have hnm : (m : Int) ∉ l.take k := fun h => by rw [(hf m).2 h] at hfm; cases hfm
          have hokN : okM (l.take (k + 1)) := okM_snoc hok (by omega) (by omega) (by rw [hm]; exact hnm)
          have hfN : ∀ j : Nat, (fun i => if i = m then true else f i) j = true ↔ (j : Int) ∈ l.take (k + 1) := fun j => by
            have he : l[k]'(by omega) = (m : Int) := by rw [← hm, List.getD_eq_getElem?_getD, List.getElem?_eq_getElem (by omega)]; rfl
            rw [List.take_succ_eq_append_getElem (by omega), List.mem_append, he, List.mem_singleton]
            by_cases hj : j = m
            · subst hj; simp
            · simp only [if_neg hj, hf j]
              constructor
              · exact .inl
              · rintro (h | h)
                · exact h
                · omega
          refine wlit ?_
          refine wl_v (x_move (tmI rfl rfl)) ?_
          refine wl_v (x_ixa1 Try.underlying55 ts_4 (tmP rfl rfl) (tmI rfl (congrArg (Value.int .i64) hm)) (by omega)) ?_
          refine wl_e rfl ?_; intro K hK
          first
           | refine ow_store hS 0 rfl ts_4 (tmP rfl rfl) ev_c rfl rfl ?_
           | refine ow_storeX hS 0 rfl ts_4 (tmP rfl rfl) ev_c rfl (by simp; omega) ?_
          clear hS; intro w hS
          try replace hS := St.nm (M' := [.blk _ _ [_, _, _, _, _, _, _, _, _, _, _, _, _, _, _, _, _, _, _, _, _, _, _, _, _, _, _, _, _, _, _, _, _, _, _, _, _, _, _, _, _, _, _, _, _, _, _, _, _, _, _, _, _, _, _, _, _, _, _, _, _, _, _, _, _], .vw _ _]) hS rfl
          refine hK _ _ ?_; clear hK K
          refine wl_nil ?_
          refine inb_n ?_
          refine then_n (hK7 _ _ ?_); clear hK7 K7
          refine wlit ?_
          first
           | refine wl_v (x_addN (tmI rfl rfl) (ev_cN 1) (fit_i64 (by omega))) ?_
           | refine wl_v (x_addI (tmI rfl rfl) (ev_cN 1) (IntWalk.i64_in _ (by omega))) ?_
           | refine wl_v (x_add (tmI rfl rfl) (ev_cN 1)) ?_
          refine wl_v (x_move (tmI rfl rfl)) ?_
          refine wl_nil ?_
          exact then_n ⟨_, _, rfl, (by show _ < _; omega), (by repeat (first | exact agree_self | exact agree_refl | refine agree_upd rfl ?_ | refine agree_mix rfl ?_)), k + 1, fun i => if i = m then true else f i, rfl, (by first | rfl | go_num | exact congrArg (Value.int _) (by first | omega | (simp; done) | (simp; omega))), (by rw [← bL_set]; have h9 := hS; simp only [Nat.zero_add] at h9; exact h9), (by omega), (by first | exact okM_nil | exact hokN), (by first | exact hfN | (intro j; simp; done))⟩
    try (exfalso; first | with_reducible exact absurd hc0 Bool.false_ne_true | with_reducible exact absurd hc0.symm Bool.false_ne_true | (simp only [nrm] at hc0; omega) | (simp at hc0; done))
    all_goals
     try simp only [nrm] at hc0
     refine wp_exit ?_
     refine then_x ?_; clear hK6 K6
     refine then_x ?_
     refine inb_x ?_
     refine then_n (hK3 _ _ ?_); clear hK3 K3
     refine wp_seq_k ?_; intro K14 hK14
     have hall : okM l := by
       have h := hok
       rwa [List.take_of_length_le (by omega)] at h
     refine wlit ?_
     refine wl_v (x_move (tmS rfl rfl)) ?_
     refine wl_v (x_len Try.underlying23 (tmS rfl rfl)) ?_
     refine wl_v (x_geq (tmI rfl rfl) (ev_cN 1)) ?_
     refine wl_v (x_move (tmB rfl rfl)) ?_
     refine gs_wl (tm (t := 31) rfl) (fun hg9_3 => ?_) (fun hg9_3 => ?_)
     · have hg9_3' := hg9_3; (try simp only [nrm] at hg9_3'); try (exfalso; first | with_reducible exact absurd hg9_3 Bool.false_ne_true | with_reducible exact absurd hg9_3.symm Bool.false_ne_true | omega | (simp at hg9_3; done))
       all_goals
        refine wl_gv (want_y rfl rfl rfl rfl (by rw [hg9_3]; rfl)) (x_move (tmS rfl rfl)) ?_
        refine wl_gv (want_y rfl rfl rfl rfl (by rw [hg9_3]; rfl)) (x_len Try.underlying23 (tmS rfl rfl)) ?_
        refine wl_gv (want_y rfl rfl rfl rfl (by rw [hg9_3]; rfl)) (x_move (tmI rfl rfl)) ?_
        refine wl_gv (want_y rfl rfl rfl rfl (by rw [hg9_3]; rfl)) (x_leq (tmI rfl rfl) (tmI rfl rfl)) ?_
        refine wl_v (x_pickT (tmB rfl rfl) hg9_3 (tmB rfl rfl)) ?_
        refine wl_v (x_assign (tmB rfl rfl)) ?_
        refine wl_nil ?_
        refine then_n (hK14 _ _ ?_); clear hK14 K14
        refine wp_ret ?_
        refine ret1 rfl (.tmp rfl (show _ = Value.bool _ from rfl)) ?_
        first
          | exact ⟨_, rfl, ⟨fun h => absurd h Bool.false_ne_true, fun h => absurd h.1 hbad⟩, hS.kp⟩
          | exact ⟨_, rfl, ⟨fun h => absurd h Bool.false_ne_true, fun h => by omega⟩, hS.kp⟩
          | exact ⟨_, rfl, ⟨fun h => ⟨hall, by omega, by simpa using h⟩, fun h => by simpa using h.2.2⟩, hS.kp⟩
     have hg9_3' := hg9_3; (try simp only [nrm] at hg9_3'); try (exfalso; first | with_reducible exact absurd hg9_3 Bool.false_ne_true | with_reducible exact absurd hg9_3.symm Bool.false_ne_true | omega | (simp at hg9_3; done))
     all_goals
      refine wl_s rfl (want_n rfl rfl rfl rfl (by rw [hg9_3]; rfl)) ?_
      refine wl_s rfl (want_n rfl rfl rfl rfl (by rw [hg9_3]; rfl)) ?_
      refine wl_s rfl (want_n rfl rfl rfl rfl (by rw [hg9_3]; rfl)) ?_
      refine wl_s rfl (want_n rfl rfl rfl rfl (by rw [hg9_3]; rfl)) ?_
      refine wl_v (x_pickF (tmB rfl rfl) hg9_3 ev_c) ?_
      refine wl_v (x_assign (tmB rfl rfl)) ?_
      refine wl_nil ?_
      refine then_n (hK14 _ _ ?_); clear hK14 K14
      refine wp_ret ?_
      refine ret1 rfl (.tmp rfl (show _ = Value.bool _ from rfl)) ?_
      first
        | exact ⟨_, rfl, ⟨fun h => absurd h Bool.false_ne_true, fun h => absurd h.1 hbad⟩, hS.kp⟩
        | exact ⟨_, rfl, ⟨fun h => absurd h Bool.false_ne_true, fun h => by omega⟩, hS.kp⟩
        | exact ⟨_, rfl, ⟨fun h => ⟨hall, by omega, by simpa using h⟩, fun h => by simpa using h.2.2⟩, hS.kp⟩
set_option maxRecDepth 100000 in
set_option maxHeartbeats 4000000 in
theorem rright_c (A : Option Addr) (n c : Nat) (l : List Int) (size : Nat) (w0 : World) (hv : View w0 w0.heap.size A (l.map i64v)) (hl : l.length = n) (hn : n ≤ 70) (h2 : 2 ≤ size) (hs : size ≤ 2048) :
    Calls Try.prog 7 #[.int .i64 (size : Int), .slice A n c] w0 fun e w' => ∃ b, e = .returned (.bool b) ∧ (b = true ↔ isP size ∧ okM l ∧ 1 ≤ n ∧ n ≤ size) ∧ Kp [] w0 w' := by
  have hS := (St.sv w0).vcons rfl hv
  refine ent (n := 57) Try.func7 rfl rfl ?_
  refine wp_seq_k ?_; intro K1 hK1
  refine wlit ?_
  refine wl_v (x_assign ev_c) ?_
  refine wl_nil ?_
  refine then_n (hK1 _ _ ?_); clear hK1 K1
  refine wp_seq_k ?_; intro K2 hK2
  refine wp_seq_k ?_; intro K3 hK3
  refine wlit ?_
  refine wl_v (x_move (tmI rfl rfl)) ?_
  refine wl_v (x_gtr (tmI rfl rfl) (ev_cN 2048)) ?_
  refine wl_v (x_move (tmB rfl rfl)) ?_
  refine gs_wl (tm (t := 9) rfl) (fun hg1_2 => ?_) (fun hg1_2 => ?_)
  · have hg1_2' := hg1_2; (try simp only [nrm] at hg1_2'); try (exfalso; first | with_reducible exact absurd hg1_2 Bool.false_ne_true | with_reducible exact absurd hg1_2.symm Bool.false_ne_true | omega | (simp at hg1_2; done))
    all_goals
     refine wl_s rfl (want_n rfl rfl rfl rfl (by rw [hg1_2]; rfl)) ?_
     refine wl_s rfl (want_n rfl rfl rfl rfl (by rw [hg1_2]; rfl)) ?_
     refine wl_s rfl (want_n rfl rfl rfl rfl (by rw [hg1_2]; rfl)) ?_
     refine wl_v (x_pickT (tmB rfl rfl) hg1_2 ev_c) ?_
     refine wl_v (x_move (tmB rfl rfl)) ?_
     refine wl_s rfl (want_n rfl rfl rfl rfl rfl) ?_
     refine wl_s rfl (want_n rfl rfl rfl rfl rfl) ?_
     refine wl_s rfl (want_n rfl rfl rfl rfl rfl) ?_
     refine wl_v (x_pickT (tmB rfl rfl) rfl ev_c) ?_
     refine wl_v (x_move (tmB rfl rfl)) ?_
     refine wl_s rfl (want_n rfl rfl rfl rfl rfl) ?_
     refine wl_s rfl (want_n rfl rfl rfl rfl rfl) ?_
     refine wl_s rfl (want_n rfl rfl rfl rfl rfl) ?_
     refine wl_s rfl (want_n rfl rfl rfl rfl rfl) ?_
     refine wl_v (x_pickT (tmB rfl rfl) rfl ev_c) ?_
     refine wl_nil ?_
     refine then_n (hK3 _ _ ?_); clear hK3 K3
     refine cnd_t (tmB rfl rfl) rfl ?_
     refine wp_seq_k ?_; intro K4 hK4
     have hbad : ¬ (isP size ∧ okM l ∧ 1 ≤ n ∧ n ≤ size) := fun h => by
       have hb := hbp.2 h.1
       simp_all
       try omega
     refine wlit ?_
     refine wl_v (x_assign ev_c) ?_
     refine wl_nil ?_
     refine then_n (hK4 _ _ ?_); clear hK4 K4
     refine wp_ret ?_
     refine then_r ?_
     refine ret1 rfl (.tmp rfl (show _ = Value.bool _ from rfl)) ?_
     first
       | exact ⟨_, rfl, ⟨fun h => absurd h Bool.false_ne_true, fun h => absurd h hbad⟩, hS.kp⟩
       | exact ⟨_, rfl, ⟨fun h => absurd h Bool.false_ne_true, fun h => absurd h.2.1 hbad2⟩, hS.kp⟩
       | exact ⟨_, rfl, ⟨fun _ => ⟨hfin.1, hall, hfin.2⟩, fun _ => rfl⟩, hS.kp⟩
  have hg1_2' := hg1_2; (try simp only [nrm] at hg1_2'); try (exfalso; first | with_reducible exact absurd hg1_2 Bool.false_ne_true | with_reducible exact absurd hg1_2.symm Bool.false_ne_true | omega | (simp at hg1_2; done))
  all_goals
   refine wl_gv (want_y rfl rfl rfl rfl (by rw [hg1_2]; rfl)) (x_move (tmI rfl rfl)) ?_
   refine wl_g (want_y rfl rfl rfl rfl (by rw [hg1_2]; rfl)) ?_; intro K hK
   refine ow_call Try.func18 rfl rfl (evs_cons (tmI rfl rfl) <| evs_nil) (rprime_c size _ h2 hs) ?_
   rintro e w ⟨bp, rfl, hbp, hk⟩
   refine ⟨_, rfl, ?_⟩
   replace hS := hS.kept hk
   clear hk
   refine hK _ _ ?_; clear hK K
   refine wl_gv (want_y rfl rfl rfl rfl (by rw [hg1_2]; rfl)) (x_not (tmB rfl rfl)) ?_
   refine wl_v (x_pickF (tmB rfl rfl) hg1_2 (tmB rfl rfl)) ?_
   refine wl_v (x_move (tmB rfl rfl)) ?_
   refine gs_wl (tm (t := 14) rfl) (fun hg1_7 => ?_) (fun hg1_7 => ?_)
   · have hg1_7' := hg1_7; (try simp only [nrm] at hg1_7'); try (exfalso; first | with_reducible exact absurd hg1_7 Bool.false_ne_true | with_reducible exact absurd hg1_7.symm Bool.false_ne_true | omega | (simp at hg1_7; done))
     all_goals
      refine wl_s rfl (want_n rfl rfl rfl rfl (by rw [hg1_7]; rfl)) ?_
      refine wl_s rfl (want_n rfl rfl rfl rfl (by rw [hg1_7]; rfl)) ?_
      refine wl_s rfl (want_n rfl rfl rfl rfl (by rw [hg1_7]; rfl)) ?_
      refine wl_v (x_pickT (tmB rfl rfl) hg1_7 ev_c) ?_
      refine wl_v (x_move (tmB rfl rfl)) ?_
      refine wl_s rfl (want_n rfl rfl rfl rfl rfl) ?_
      refine wl_s rfl (want_n rfl rfl rfl rfl rfl) ?_
      refine wl_s rfl (want_n rfl rfl rfl rfl rfl) ?_
      refine wl_s rfl (want_n rfl rfl rfl rfl rfl) ?_
      refine wl_v (x_pickT (tmB rfl rfl) rfl ev_c) ?_
      refine wl_nil ?_
      refine then_n (hK3 _ _ ?_); clear hK3 K3
      refine cnd_t (tmB rfl rfl) rfl ?_
      refine wp_seq_k ?_; intro K5 hK5
      have hbad : ¬ (isP size ∧ okM l ∧ 1 ≤ n ∧ n ≤ size) := fun h => by
        have hb := hbp.2 h.1
        simp_all
        try omega
      refine wlit ?_
      refine wl_v (x_assign ev_c) ?_
      refine wl_nil ?_
      refine then_n (hK5 _ _ ?_); clear hK5 K5
      refine wp_ret ?_
      refine then_r ?_
      refine ret1 rfl (.tmp rfl (show _ = Value.bool _ from rfl)) ?_
      first
        | exact ⟨_, rfl, ⟨fun h => absurd h Bool.false_ne_true, fun h => absurd h hbad⟩, hS.kp⟩
        | exact ⟨_, rfl, ⟨fun h => absurd h Bool.false_ne_true, fun h => absurd h.2.1 hbad2⟩, hS.kp⟩
        | exact ⟨_, rfl, ⟨fun _ => ⟨hfin.1, hall, hfin.2⟩, fun _ => rfl⟩, hS.kp⟩
   have hg1_7' := hg1_7; (try simp only [nrm] at hg1_7'); try (exfalso; first | with_reducible exact absurd hg1_7 Bool.false_ne_true | with_reducible exact absurd hg1_7.symm Bool.false_ne_true | omega | (simp at hg1_7; done))
   all_goals
    refine wl_gv (want_y rfl rfl rfl rfl (by rw [hg1_7]; rfl)) (x_move (tmS rfl rfl)) ?_
    refine wl_gv (want_y rfl rfl rfl rfl (by rw [hg1_7]; rfl)) (x_len Try.underlying23 (tmS rfl rfl)) ?_
    refine wl_gv (want_y rfl rfl rfl rfl (by rw [hg1_7]; rfl)) (x_eql (tmI rfl rfl) (ev_cN 0)) ?_
    refine wl_v (x_pickF (tmB rfl rfl) hg1_7 (tmB rfl rfl)) ?_
    refine wl_v (x_move (tmB rfl rfl)) ?_
    refine gs_wl (tm (t := 19) rfl) (fun hg1_12 => ?_) (fun hg1_12 => ?_)
    · have hg1_12' := hg1_12; (try simp only [nrm] at hg1_12'); try (exfalso; first | with_reducible exact absurd hg1_12 Bool.false_ne_true | with_reducible exact absurd hg1_12.symm Bool.false_ne_true | omega | (simp at hg1_12; done))
      all_goals
       refine wl_s rfl (want_n rfl rfl rfl rfl (by rw [hg1_12]; rfl)) ?_
       refine wl_s rfl (want_n rfl rfl rfl rfl (by rw [hg1_12]; rfl)) ?_
       refine wl_s rfl (want_n rfl rfl rfl rfl (by rw [hg1_12]; rfl)) ?_
       refine wl_s rfl (want_n rfl rfl rfl rfl (by rw [hg1_12]; rfl)) ?_
       refine wl_v (x_pickT (tmB rfl rfl) hg1_12 ev_c) ?_
       refine wl_nil ?_
       refine then_n (hK3 _ _ ?_); clear hK3 K3
       refine cnd_t (tmB rfl rfl) rfl ?_
       refine wp_seq_k ?_; intro K6 hK6
       have hbad : ¬ (isP size ∧ okM l ∧ 1 ≤ n ∧ n ≤ size) := fun h => by
         have hb := hbp.2 h.1
         simp_all
         try omega
       refine wlit ?_
       refine wl_v (x_assign ev_c) ?_
       refine wl_nil ?_
       refine then_n (hK6 _ _ ?_); clear hK6 K6
       refine wp_ret ?_
       refine then_r ?_
       refine ret1 rfl (.tmp rfl (show _ = Value.bool _ from rfl)) ?_
       first
         | exact ⟨_, rfl, ⟨fun h => absurd h Bool.false_ne_true, fun h => absurd h hbad⟩, hS.kp⟩
         | exact ⟨_, rfl, ⟨fun h => absurd h Bool.false_ne_true, fun h => absurd h.2.1 hbad2⟩, hS.kp⟩
         | exact ⟨_, rfl, ⟨fun _ => ⟨hfin.1, hall, hfin.2⟩, fun _ => rfl⟩, hS.kp⟩
    have hg1_12' := hg1_12; (try simp only [nrm] at hg1_12'); try (exfalso; first | with_reducible exact absurd hg1_12 Bool.false_ne_true | with_reducible exact absurd hg1_12.symm Bool.false_ne_true | omega | (simp at hg1_12; done))
    all_goals
     refine wl_gv (want_y rfl rfl rfl rfl (by rw [hg1_12]; rfl)) (x_move (tmS rfl rfl)) ?_
     refine wl_gv (want_y rfl rfl rfl rfl (by rw [hg1_12]; rfl)) (x_len Try.underlying23 (tmS rfl rfl)) ?_
     refine wl_gv (want_y rfl rfl rfl rfl (by rw [hg1_12]; rfl)) (x_move (tmI rfl rfl)) ?_
     refine wl_gv (want_y rfl rfl rfl rfl (by rw [hg1_12]; rfl)) (x_gtr (tmI rfl rfl) (tmI rfl rfl)) ?_
     refine wl_v (x_pickF (tmB rfl rfl) hg1_12 (tmB rfl rfl)) ?_
     refine wl_nil ?_
     refine then_n (hK3 _ _ ?_); clear hK3 K3
     refine cnd (tm rfl) (fun hc0 => ?_) (fun hc0 => ?_)
     · try (exfalso; first | with_reducible exact absurd hc0 Bool.false_ne_true | with_reducible exact absurd hc0.symm Bool.false_ne_true | (simp only [nrm] at hc0; omega) | (simp at hc0; done))
       all_goals
        try simp only [nrm] at hc0
        refine wp_seq_k ?_; intro K7 hK7
        have hbad : ¬ (isP size ∧ okM l ∧ 1 ≤ n ∧ n ≤ size) := fun h => by
          have hb := hbp.2 h.1
          simp_all
          try omega
        refine wlit ?_
        refine wl_v (x_assign ev_c) ?_
        refine wl_nil ?_
        refine then_n (hK7 _ _ ?_); clear hK7 K7
        refine wp_ret ?_
        refine then_r ?_
        refine ret1 rfl (.tmp rfl (show _ = Value.bool _ from rfl)) ?_
        first
          | exact ⟨_, rfl, ⟨fun h => absurd h Bool.false_ne_true, fun h => absurd h hbad⟩, hS.kp⟩
          | exact ⟨_, rfl, ⟨fun h => absurd h Bool.false_ne_true, fun h => absurd h.2.1 hbad2⟩, hS.kp⟩
          | exact ⟨_, rfl, ⟨fun _ => ⟨hfin.1, hall, hfin.2⟩, fun _ => rfl⟩, hS.kp⟩
     try (exfalso; first | with_reducible exact absurd hc0 Bool.false_ne_true | with_reducible exact absurd hc0.symm Bool.false_ne_true | (simp only [nrm] at hc0; omega) | (simp at hc0; done))
     all_goals
      try simp only [nrm] at hc0
      have hfin : isP size ∧ 1 ≤ n ∧ n ≤ size := ⟨hbp.1 (by simp_all), by omega, by omega⟩
      refine wp_skip ?_
      refine then_n (hK2 _ _ ?_); clear hK2 K2
      refine wp_seq_k ?_; intro K8 hK8
      refine wp_seq_k ?_; intro K9 hK9
      refine wlit ?_
      refine wl_v (x_assign (ev_cN 0)) ?_
      refine wl_nil ?_
      refine then_n (hK9 _ _ ?_); clear hK9 K9
      refine wp_block ?_
      refine lp [4, 5, 6, 25, 26, 27, 28, 29, 30, 31, 32, 33, 34, 35, 36, 37, 38, 39, 40, 41, 42, 43, 44, 45, 46, 47, 48, 49, 50, 51, 52, 53, 54, 55, 56] (fun mz g w => ∃ (k : Nat), mz = n - k ∧ g 5 = .int .i64 (k : Int) ∧ St [] w0 [.vw A (l.map i64v)] w ∧ (k ≤ n) ∧ (okM (l.take k))) ?_ ?_
      · exact ⟨_, 0, rfl, (by first | rfl | go_num | exact congrArg (Value.int _) (by first | omega | (simp; done) | (simp; omega))), hS, (by omega), (by first | exact okM_nil | exact hokN)⟩
      · clear hS; intro mz g w hI
        obtain ⟨k, rfl, hs5, hS, hk, hok⟩ := hI
        refine fr_know (d := 5) hs5 ?_; clear hs5
        refine wp_seq_k ?_; intro K10 hK10
        refine wp_seq_k ?_; intro K11 hK11
        refine wlit ?_
        refine wl_v (x_move (tmI rfl rfl)) ?_
        refine wl_v (x_move (tmS rfl rfl)) ?_
        refine wl_v (x_len Try.underlying23 (tmS rfl rfl)) ?_
        refine wl_v (x_lss (tmI rfl rfl) (tmI rfl rfl)) ?_
        refine wl_nil ?_
        refine then_n (hK11 _ _ ?_); clear hK11 K11
        refine cnd (tm rfl) (fun hc1 => ?_) (fun hc1 => ?_)
        · try (exfalso; first | with_reducible exact absurd hc1 Bool.false_ne_true | with_reducible exact absurd hc1.symm Bool.false_ne_true | (simp only [nrm] at hc1; omega) | (simp at hc1; done))
          all_goals
           try simp only [nrm] at hc1
           obtain ⟨b0, o0, rfl⟩ := view_some hv (by rw [List.length_map]; omega)
           have hgk : (l.map i64v)[k]? = some (.int .i64 (l.getD k 0)) := getm (by omega)
           refine wp_skip ?_
           refine then_n (hK10 _ _ ?_); clear hK10 K10
           refine wp_seq_k ?_; intro K12 hK12
           refine wp_block ?_
           refine wp_seq_k ?_; intro K13 hK13
           refine wp_seq_k ?_; intro K14 hK14
           refine wlit ?_
           refine wl_v (x_assign (ev_cN 0)) ?_
           refine wl_nil ?_
           refine then_n (hK14 _ _ ?_); clear hK14 K14
           refine wp_block ?_
           refine lp [4, 6, 31, 32, 33, 34, 35, 36, 37, 38, 39, 40, 41, 42, 43, 44] (fun mz g w => ∃ (j : Nat), mz = k - j ∧ g 6 = .int .i64 (j : Int) ∧ St [] w0 [.vw (some ⟨b0, o0, none⟩) (l.map i64v)] w ∧ (j ≤ k) ∧ (∀ i, i < j → l.getD i 0 ≠ l.getD k 0)) ?_ ?_
           · exact ⟨_, 0, rfl, (by first | rfl | go_num | exact congrArg (Value.int _) (by first | omega | (simp; done) | (simp; omega))), hS, (by omega), (by first | exact hnoN | (intro i hi; omega))⟩
           · clear hS; intro mz g w hI
             obtain ⟨j, rfl, hs6, hS, hj, hno⟩ := hI
             refine fr_know (d := 6) hs6 ?_; clear hs6
             refine wp_seq_k ?_; intro K15 hK15
             refine wp_seq_k ?_; intro K16 hK16
             refine wlit ?_
             refine wl_v (x_move (tmI rfl rfl)) ?_
             refine wl_v (x_move (tmI rfl rfl)) ?_
             refine wl_v (x_lss (tmI rfl rfl) (tmI rfl rfl)) ?_
             refine wl_nil ?_
             refine then_n (hK16 _ _ ?_); clear hK16 K16
             refine cnd (tm rfl) (fun hc2 => ?_) (fun hc2 => ?_)
             · try (exfalso; first | with_reducible exact absurd hc2 Bool.false_ne_true | with_reducible exact absurd hc2.symm Bool.false_ne_true | (simp only [nrm] at hc2; omega) | (simp at hc2; done))
               all_goals
                try simp only [nrm] at hc2
                have hgj : (l.map i64v)[j]? = some (.int .i64 (l.getD j 0)) := getm (by omega)
                refine wp_skip ?_
                refine then_n (hK15 _ _ ?_); clear hK15 K15
                refine wp_seq_k ?_; intro K17 hK17
                refine wp_block ?_
                refine wp_seq_k ?_; intro K18 hK18
                refine rg_startk 0 hS mixed_ ?_
                clear hS; intro w hS
                refine rg_take 0 rfl rfl (by kernel_rfl) (by kernel_rfl) (by kernel_rfl) (want_0) (fun w hok => x_move (tmS rfl rfl)) ?_
                refine rg_take 1 rfl rfl (by kernel_rfl) (by kernel_rfl) (by kernel_rfl) (want_0) (fun w hok => x_move (tmI rfl rfl)) ?_
                refine rg_take 2 rfl rfl (by kernel_rfl) (by kernel_rfl) (by kernel_rfl) (want_0) (fun w hok => x_ixs1 Try.underlying23 ts_3 (tmS rfl rfl) (tmI rfl rfl) (by omega)) ?_
                refine rg_take 3 rfl rfl (by kernel_rfl) (by kernel_rfl) (by kernel_rfl) (want_0) (fun w hok => x_load (v := .int .i64 (l.getD k 0)) Try.underlying3 rfl (tmP rfl rfl) (cellV hok 0 rfl (by simpa using hgk))) ?_
                refine rg_take 4 rfl rfl (by kernel_rfl) (by kernel_rfl) (by kernel_rfl) (want_0) (fun w hok => x_move (tmS rfl rfl)) ?_
                refine rg_take 5 rfl rfl (by kernel_rfl) (by kernel_rfl) (by kernel_rfl) (want_0) (fun w hok => x_move (tmI rfl rfl)) ?_
                refine rg_take 6 rfl rfl (by kernel_rfl) (by kernel_rfl) (by kernel_rfl) (want_0) (fun w hok => x_ixs1 Try.underlying23 ts_3 (tmS rfl rfl) (tmI rfl rfl) (by omega)) ?_
                refine rg_take 7 rfl rfl (by kernel_rfl) (by kernel_rfl) (by kernel_rfl) (want_0) (fun w hok => x_load (v := .int .i64 (l.getD j 0)) Try.underlying3 rfl (tmP rfl rfl) (cellV hok 0 rfl (by simpa using hgj))) ?_
                refine rg_take 8 rfl rfl (by kernel_rfl) (by kernel_rfl) (by kernel_rfl) (want_0) (fun w hok => x_eql (tmI rfl rfl) (tmI rfl rfl)) ?_
                refine rg_done (oks_drop hS 0 rfl) (by kernel_rfl) ?_
                refine then_n (hK18 _ _ ?_); clear hK18 K18
                refine cnd (tm rfl) (fun hc3 => ?_) (fun hc3 => ?_)
                · try (exfalso; first | with_reducible exact absurd hc3 Bool.false_ne_true | with_reducible exact absurd hc3.symm Bool.false_ne_true | (simp only [nrm] at hc3; omega) | (simp at hc3; done))
                  all_goals
                   try simp only [nrm] at hc3
                   have hbad2 : ¬ okM l := fun h => okM_ne h (i := j) (k := k) (by omega) (by omega) (by omega)
                   refine wp_seq_k ?_; intro K19 hK19
                   refine wlit ?_
                   refine wl_v (x_assign ev_c) ?_
                   refine wl_nil ?_
                   refine then_n (hK19 _ _ ?_); clear hK19 K19
                   refine wp_ret ?_
                   refine inb_r ?_
                   refine then_r ?_
                   refine then_r ?_
                   refine inb_r ?_
                   refine then_r ?_
                   refine inb_r ?_
                   refine then_r ?_
                   refine then_r ?_
                   refine inb_r ?_
                   refine then_r ?_
                   refine ret1 rfl (.tmp rfl (show _ = Value.bool _ from rfl)) ?_
                   first
                     | exact ⟨_, rfl, ⟨fun h => absurd h Bool.false_ne_true, fun h => absurd h hbad⟩, hS.kp⟩
                     | exact ⟨_, rfl, ⟨fun h => absurd h Bool.false_ne_true, fun h => absurd h.2.1 hbad2⟩, hS.kp⟩
                     | exact ⟨_, rfl, ⟨fun _ => ⟨hfin.1, hall, hfin.2⟩, fun _ => rfl⟩, hS.kp⟩
                try (exfalso; first | with_reducible exact absurd hc3 Bool.false_ne_true | with_reducible exact absurd hc3.symm Bool.false_ne_true | (simp only [nrm] at hc3; omega) | (simp at hc3; done))
                all_goals
                 try simp only [nrm] at hc3
                 have hnoN : ∀ i, i < j + 1 → l.getD i 0 ≠ l.getD k 0 := fun i hi => by
                   rcases Nat.lt_or_ge i j with h | h
                   · exact hno i h
                   · obtain rfl : i = j := by omega
                     omega
                 refine wp_skip ?_
                 refine inb_n ?_
                 refine then_n (hK17 _ _ ?_); clear hK17 K17
                 refine wlit ?_
                 refine wl_v (x_move (tmI rfl rfl)) ?_
                 first
                  | refine wl_v (x_addN (tmI rfl rfl) (ev_cN 1) (fit_i64 (by omega))) ?_
                  | refine wl_v (x_addI (tmI rfl rfl) (ev_cN 1) (IntWalk.i64_in _ (by omega))) ?_
                  | refine wl_v (x_add (tmI rfl rfl) (ev_cN 1)) ?_
                 refine wl_v (x_assign (tmI rfl rfl)) ?_
                 refine wl_nil ?_
                 exact then_n ⟨_, _, rfl, (by show _ < _; omega), (by repeat (first | exact agree_self | exact agree_refl | refine agree_upd rfl ?_ | refine agree_mix rfl ?_)), j + 1, rfl, (by first | rfl | go_num | exact congrArg (Value.int _) (by first | omega | (simp; done) | (simp; omega))), hS, (by omega), (by first | exact hnoN | (intro i hi; omega))⟩
             try (exfalso; first | with_reducible exact absurd hc2 Bool.false_ne_true | with_reducible exact absurd hc2.symm Bool.false_ne_true | (simp only [nrm] at hc2; omega) | (simp at hc2; done))
             all_goals
              try simp only [nrm] at hc2
              refine wp_exit ?_
              refine then_x ?_; clear hK15 K15
              refine then_x ?_
              refine inb_x ?_
              refine then_n (hK13 _ _ ?_); clear hK13 K13
              refine wp_seq_k ?_; intro K20 hK20
              refine wlit ?_
              refine wl_v (x_move (tmS rfl rfl)) ?_
              refine wl_v (x_move (tmI rfl rfl)) ?_
              refine wl_v (x_ixs1 Try.underlying23 ts_3 (tmS rfl rfl) (tmI rfl rfl) (by omega)) ?_
              refine wl_v (x_load (v := .int .i64 (l.getD k 0)) Try.underlying3 rfl (tmP rfl rfl) (cellV hS.ok 0 rfl (by simpa using hgk))) ?_
              refine wl_v (x_lss (tmI rfl rfl) (ev_cN 1)) ?_
              refine wl_v (x_move (tmB rfl rfl)) ?_
              refine gs_wl (tm (t := 50) rfl) (fun hg11_5 => ?_) (fun hg11_5 => ?_)
              · have hg11_5' := hg11_5; (try simp only [nrm] at hg11_5'); try (exfalso; first | with_reducible exact absurd hg11_5 Bool.false_ne_true | with_reducible exact absurd hg11_5.symm Bool.false_ne_true | omega | (simp at hg11_5; done))
                all_goals
                 refine wl_s rfl (want_n rfl rfl rfl rfl (by rw [hg11_5]; rfl)) ?_
                 refine wl_s rfl (want_n rfl rfl rfl rfl (by rw [hg11_5]; rfl)) ?_
                 refine wl_s rfl (want_n rfl rfl rfl rfl (by rw [hg11_5]; rfl)) ?_
                 refine wl_s rfl (want_n rfl rfl rfl rfl (by rw [hg11_5]; rfl)) ?_
                 refine wl_s rfl (want_n rfl rfl rfl rfl (by rw [hg11_5]; rfl)) ?_
                 refine wl_v (x_pickT (tmB rfl rfl) hg11_5 ev_c) ?_
                 refine wl_nil ?_
                 refine then_n (hK20 _ _ ?_); clear hK20 K20
                 refine cnd_t (tmB rfl rfl) rfl ?_
                 refine wp_seq_k ?_; intro K21 hK21
                 have hbad2 : ¬ okM l := fun h => by
                   have h1 := okM_get h (k := k) (by omega)
                   omega
                 refine wlit ?_
                 refine wl_v (x_assign ev_c) ?_
                 refine wl_nil ?_
                 refine then_n (hK21 _ _ ?_); clear hK21 K21
                 refine wp_ret ?_
                 refine inb_r ?_
                 refine then_r ?_
                 refine then_r ?_
                 refine inb_r ?_
                 refine then_r ?_
                 refine ret1 rfl (.tmp rfl (show _ = Value.bool _ from rfl)) ?_
                 first
                   | exact ⟨_, rfl, ⟨fun h => absurd h Bool.false_ne_true, fun h => absurd h hbad⟩, hS.kp⟩
                   | exact ⟨_, rfl, ⟨fun h => absurd h Bool.false_ne_true, fun h => absurd h.2.1 hbad2⟩, hS.kp⟩
                   | exact ⟨_, rfl, ⟨fun _ => ⟨hfin.1, hall, hfin.2⟩, fun _ => rfl⟩, hS.kp⟩
              have hg11_5' := hg11_5; (try simp only [nrm] at hg11_5'); try (exfalso; first | with_reducible exact absurd hg11_5 Bool.false_ne_true | with_reducible exact absurd hg11_5.symm Bool.false_ne_true | omega | (simp at hg11_5; done))
              all_goals
               refine wl_gv (want_y rfl rfl rfl rfl (by rw [hg11_5]; rfl)) (x_move (tmS rfl rfl)) ?_
               refine wl_gv (want_y rfl rfl rfl rfl (by rw [hg11_5]; rfl)) (x_move (tmI rfl rfl)) ?_
               refine wl_gv (want_y rfl rfl rfl rfl (by rw [hg11_5]; rfl)) (x_ixs1 Try.underlying23 ts_3 (tmS rfl rfl) (tmI rfl rfl) (by omega)) ?_
               refine wl_gv (want_y rfl rfl rfl rfl (by rw [hg11_5]; rfl)) (x_load (v := .int .i64 (l.getD k 0)) Try.underlying3 rfl (tmP rfl rfl) (cellV hS.ok 0 rfl (by simpa using hgk))) ?_
               refine wl_gv (want_y rfl rfl rfl rfl (by rw [hg11_5]; rfl)) (x_gtr (tmI rfl rfl) (ev_cN 64)) ?_
               refine wl_v (x_pickF (tmB rfl rfl) hg11_5 (tmB rfl rfl)) ?_
               refine wl_nil ?_
               refine then_n (hK20 _ _ ?_); clear hK20 K20
               refine cnd (tm rfl) (fun hc4 => ?_) (fun hc4 => ?_)
               · try (exfalso; first | with_reducible exact absurd hc4 Bool.false_ne_true | with_reducible exact absurd hc4.symm Bool.false_ne_true | (simp only [nrm] at hc4; omega) | (simp at hc4; done))
                 all_goals
                  try simp only [nrm] at hc4
                  refine wp_seq_k ?_; intro K22 hK22
                  have hbad2 : ¬ okM l := fun h => by
                    have h1 := okM_get h (k := k) (by omega)
                    omega
                  refine wlit ?_
                  refine wl_v (x_assign ev_c) ?_
                  refine wl_nil ?_
                  refine then_n (hK22 _ _ ?_); clear hK22 K22
                  refine wp_ret ?_
                  refine inb_r ?_
                  refine then_r ?_
                  refine then_r ?_
                  refine inb_r ?_
                  refine then_r ?_
                  refine ret1 rfl (.tmp rfl (show _ = Value.bool _ from rfl)) ?_
                  first
                    | exact ⟨_, rfl, ⟨fun h => absurd h Bool.false_ne_true, fun h => absurd h hbad⟩, hS.kp⟩
                    | exact ⟨_, rfl, ⟨fun h => absurd h Bool.false_ne_true, fun h => absurd h.2.1 hbad2⟩, hS.kp⟩
                    | exact ⟨_, rfl, ⟨fun _ => ⟨hfin.1, hall, hfin.2⟩, fun _ => rfl⟩, hS.kp⟩
               try (exfalso; first | with_reducible exact absurd hc4 Bool.false_ne_true | with_reducible exact absurd hc4.symm Bool.false_ne_true | (simp only [nrm] at hc4; omega) | (simp at hc4; done))
               all_goals
                try simp only [nrm] at hc4
                refine wp_skip ?_
                refine inb_n ?_
                refine then_n (hK12 _ _ ?_); clear hK12 K12
                have hokN : okM (l.take (k + 1)) := okM_snoc hok (by omega) (by omega) fun h => by
                  obtain ⟨i, hi, he⟩ := (mem_take_get (by omega)).1 h
                  exact hno i (by omega) he
                refine wlit ?_
                refine wl_v (x_move (tmI rfl rfl)) ?_
                first
                 | refine wl_v (x_addN (tmI rfl rfl) (ev_cN 1) (fit_i64 (by omega))) ?_
                 | refine wl_v (x_addI (tmI rfl rfl) (ev_cN 1) (IntWalk.i64_in _ (by omega))) ?_
                 | refine wl_v (x_add (tmI rfl rfl) (ev_cN 1)) ?_
                refine wl_v (x_assign (tmI rfl rfl)) ?_
                refine wl_nil ?_
                exact then_n ⟨_, _, rfl, (by show _ < _; omega), (by repeat (first | exact agree_self | exact agree_refl | refine agree_upd rfl ?_ | refine agree_mix rfl ?_)), k + 1, rfl, (by first | rfl | go_num | exact congrArg (Value.int _) (by first | omega | (simp; done) | (simp; omega))), hS, (by omega), (by first | exact okM_nil | exact hokN)⟩
        try (exfalso; first | with_reducible exact absurd hc1 Bool.false_ne_true | with_reducible exact absurd hc1.symm Bool.false_ne_true | (simp only [nrm] at hc1; omega) | (simp at hc1; done))
        all_goals
         try simp only [nrm] at hc1
         refine wp_exit ?_
         refine then_x ?_; clear hK10 K10
         refine then_x ?_
         refine inb_x ?_
         refine then_n (hK8 _ _ ?_); clear hK8 K8
         refine wp_seq_k ?_; intro K23 hK23
         have hall : okM l := by
           have h := hok
           rwa [List.take_of_length_le (by omega)] at h
         refine wlit ?_
         refine wl_v (x_assign ev_c) ?_
         refine wl_nil ?_
         refine then_n (hK23 _ _ ?_); clear hK23 K23
         refine wp_ret ?_
         refine ret1 rfl (.tmp rfl (show _ = Value.bool _ from rfl)) ?_
         first
           | exact ⟨_, rfl, ⟨fun h => absurd h Bool.false_ne_true, fun h => absurd h hbad⟩, hS.kp⟩
           | exact ⟨_, rfl, ⟨fun h => absurd h Bool.false_ne_true, fun h => absurd h.2.1 hbad2⟩, hS.kp⟩
           | exact ⟨_, rfl, ⟨fun _ => ⟨hfin.1, hall, hfin.2⟩, fun _ => rfl⟩, hS.kp⟩
end Go.Proofs.Ytofkhhklkcdggaa
