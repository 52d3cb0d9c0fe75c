
/- Histograms: both Belows by contract (under way). Conditions: none but bounds. -/
import Derived.Test.YtmkieoinmfkofaaHistD
namespace Go.Proofs.Ytmkieoinmfkofaa
open Go.RowKit
namespace HistC
theorem shl_all : ∀ k, k < 65 → (1 * 2 ^ k % 2 ^ IntKind.u64.bits + (2 ^ IntKind.u64.bits - 1)) % 2 ^ IntKind.u64.bits = 2 ^ k - 1 := by decide +kernel
theorem shl_all' : ∀ k, k < 65 → (2 ^ k % 2 ^ IntKind.u64.bits + (2 ^ IntKind.u64.bits - 1)) % 2 ^ IntKind.u64.bits = 2 ^ k - 1 := by decide +kernel
def BelowP (f : Nat → Nat) (n : Nat) (p : Int) (v : Nat) (ok : Bool) : Prop :=
  ((n = 0 ∨ p < 0 ∨ 100 < p) ∧ v = 0 ∧ ok = false) ∨ (0 < n ∧ 0 ≤ p ∧ p ≤ 100 ∧ ok = true ∧ ∃ k, AtK f (needP n p.toNat) k ∧ k ≤ 64 ∧ v = 2 ^ k - 1)
theorem BelowP.uniq {f : Nat → Nat} {n : Nat} {p : Int} {v v' : Nat} {ok ok' : Bool} (h : BelowP f n p v ok) (g : BelowP f n p v' ok') : v = v' ∧ ok = ok' := by
  rcases h with ⟨h0, rfl, rfl⟩ | ⟨h0, h1, h2, rfl, k, hk, _, rfl⟩ <;> rcases g with ⟨g0, rfl, rfl⟩ | ⟨g0, g1, g2, rfl, i, gi, _, rfl⟩
  · exact ⟨rfl, rfl⟩
  · omega
  · omega
  · obtain rfl := hk.uniq gi
    exact ⟨rfl, rfl⟩
set_option maxRecDepth 100000 in
set_option maxHeartbeats 4000000 in
theorem below_c (gh : Nat) (f : Nat → Nat) (n : Nat) (p : Int) (w0 : World) (hv : View w0 w0.heap.size (some ⟨gh, 0, none⟩) (hL f)) (hn : cum f 65 = n) (hn4 : n ≤ 1000) :
    Calls Try.prog 6 #[.pointer (some ⟨gh, 0, none⟩), .int .i64 p] w0 fun e w' => ∃ v ok, e = .returned (.tuple #[.int .u64 ((v : Nat) : Int), .bool ok]) ∧ BelowP f n p v ok ∧ Kp [] w0 w' := by
  have hS := (St.sv w0).vcons rfl hv
  refine ent (n := 46) Try.func6 rfl rfl ?_
  refine wp_seq_k ?_; intro K1 hK1
  refine wlit ?_
  refine wl_v (x_assign (ev_cN 0)) ?_
  refine wl_v (x_assign ev_c) ?_
  refine wl_nil ?_
  refine then_n (hK1 _ _ ?_); clear hK1 K1
  refine wp_seq_k ?_; intro K2 hK2
  refine wlit ?_
  refine wl_v (x_move (tmP rfl rfl)) ?_
  refine wl_e rfl ?_; intro K hK
  refine ow_call Try.func9 rfl rfl (evs_cons (tmP rfl rfl) <| evs_nil) (total_c gh f _ (viewV hS.ok 0 rfl) (by omega)) ?_
  rintro e w ⟨rfl, hk⟩
  refine ⟨_, rfl, ?_⟩
  replace hS := hS.kept hk
  clear hk
  rw [hn]
  refine hK _ _ ?_; clear hK K
  refine wl_v (x_assign (tmI rfl rfl)) ?_
  refine wl_nil ?_
  refine then_n (hK2 _ _ ?_); clear hK2 K2
  refine wp_seq_k ?_; intro K3 hK3
  refine wp_seq_k ?_; intro K4 hK4
  refine wlit ?_
  refine wl_v (x_move (tmI rfl rfl)) ?_
  refine wl_v (x_eql (tmI rfl rfl) (ev_cN 0)) ?_
  refine wl_v (x_move (tmB rfl rfl)) ?_
  refine gs_wl (tm (t := 13) rfl) (fun hg2_2 => ?_) (fun hg2_2 => ?_)
  · have hg2_2' := hg2_2; (try simp only [nrm] at hg2_2'); try (exfalso; first | with_reducible exact absurd hg2_2 Bool.false_ne_true | with_reducible exact absurd hg2_2.symm Bool.false_ne_true | omega | (simp at hg2_2; done))
    all_goals
     refine wl_s rfl (want_n rfl rfl rfl rfl (by rw [hg2_2]; rfl)) ?_
     refine wl_s rfl (want_n rfl rfl rfl rfl (by rw [hg2_2]; rfl)) ?_
     refine wl_v (x_pickT (tmB rfl rfl) hg2_2 ev_c) ?_
     refine wl_v (x_move (tmB rfl rfl)) ?_
     refine wl_s rfl (want_n rfl rfl rfl rfl rfl) ?_
     refine wl_s rfl (want_n rfl rfl rfl rfl rfl) ?_
     refine wl_v (x_pickT (tmB rfl rfl) rfl ev_c) ?_
     refine wl_nil ?_
     refine then_n (hK4 _ _ ?_); clear hK4 K4
     refine cnd_t (tmB rfl rfl) rfl ?_
     refine wp_seq_k ?_; intro K5 hK5
     refine wlit ?_
     refine wl_v (x_assign (ev_cN 0)) ?_
     refine wl_v (x_assign ev_c) ?_
     refine wl_nil ?_
     refine then_n (hK5 _ _ ?_); clear hK5 K5
     refine wp_ret ?_
     refine then_r ?_
     refine ret2 rfl (.tmp rfl (show _ = Value.int _ _ from rfl)) (.tmp rfl (show _ = Value.bool _ from rfl)) ?_
     first
       | (have hb' := hb.1
          refine ⟨_, true, rfl, .inr ⟨hb.1, hb.2.1, hb.2.2, rfl, k, ⟨hlt, ?_⟩, hk, shl_all k (by omega)⟩, hS.kp⟩
          show _ ≤ cum f k + f k
          rw [Int.toNat_natCast]
          omega)
       | exact ⟨0, false, rfl, .inl ⟨.inl (by omega), rfl, rfl⟩, hS.kp⟩
       | exact ⟨0, false, rfl, .inl ⟨.inr (.inl (by omega)), rfl, rfl⟩, hS.kp⟩
       | exact ⟨0, false, rfl, .inl ⟨.inr (.inr (by omega)), rfl, rfl⟩, hS.kp⟩
       | exact ⟨0, false, rfl, .inl ⟨.inr (.inr (by simp at hc0; omega)), rfl, rfl⟩, hS.kp⟩
  have hg2_2' := hg2_2; (try simp only [nrm] at hg2_2'); try (exfalso; first | with_reducible exact absurd hg2_2 Bool.false_ne_true | with_reducible exact absurd hg2_2.symm Bool.false_ne_true | omega | (simp at hg2_2; done))
  all_goals
   refine wl_gv (want_y rfl rfl rfl rfl (by rw [hg2_2]; rfl)) (x_move (tmI rfl rfl)) ?_
   refine wl_gv (want_y rfl rfl rfl rfl (by rw [hg2_2]; rfl)) (x_lss (tmI rfl rfl) (ev_cN 0)) ?_
   refine wl_v (x_pickF (tmB rfl rfl) hg2_2 (tmB rfl rfl)) ?_
   refine wl_v (x_move (tmB rfl rfl)) ?_
   refine gs_wl (tm (t := 17) rfl) (fun hg2_6 => ?_) (fun hg2_6 => ?_)
   · have hg2_6' := hg2_6; (try simp only [nrm] at hg2_6'); try (exfalso; first | with_reducible exact absurd hg2_6 Bool.false_ne_true | with_reducible exact absurd hg2_6.symm Bool.false_ne_true | omega | (simp at hg2_6; done))
     all_goals
      refine wl_s rfl (want_n rfl rfl rfl rfl (by rw [hg2_6]; rfl)) ?_
      refine wl_s rfl (want_n rfl rfl rfl rfl (by rw [hg2_6]; rfl)) ?_
      refine wl_v (x_pickT (tmB rfl rfl) hg2_6 ev_c) ?_
      refine wl_nil ?_
      refine then_n (hK4 _ _ ?_); clear hK4 K4
      refine cnd_t (tmB rfl rfl) rfl ?_
      refine wp_seq_k ?_; intro K6 hK6
      refine wlit ?_
      refine wl_v (x_assign (ev_cN 0)) ?_
      refine wl_v (x_assign ev_c) ?_
      refine wl_nil ?_
      refine then_n (hK6 _ _ ?_); clear hK6 K6
      refine wp_ret ?_
      refine then_r ?_
      refine ret2 rfl (.tmp rfl (show _ = Value.int _ _ from rfl)) (.tmp rfl (show _ = Value.bool _ from rfl)) ?_
      first
        | (have hb' := hb.1
           refine ⟨_, true, rfl, .inr ⟨hb.1, hb.2.1, hb.2.2, rfl, k, ⟨hlt, ?_⟩, hk, shl_all k (by omega)⟩, hS.kp⟩
           show _ ≤ cum f k + f k
           rw [Int.toNat_natCast]
           omega)
        | exact ⟨0, false, rfl, .inl ⟨.inl (by omega), rfl, rfl⟩, hS.kp⟩
        | exact ⟨0, false, rfl, .inl ⟨.inr (.inl (by omega)), rfl, rfl⟩, hS.kp⟩
        | exact ⟨0, false, rfl, .inl ⟨.inr (.inr (by omega)), rfl, rfl⟩, hS.kp⟩
        | exact ⟨0, false, rfl, .inl ⟨.inr (.inr (by simp at hc0; omega)), rfl, rfl⟩, hS.kp⟩
   have hg2_6' := hg2_6; (try simp only [nrm] at hg2_6'); try (exfalso; first | with_reducible exact absurd hg2_6 Bool.false_ne_true | with_reducible exact absurd hg2_6.symm Bool.false_ne_true | omega | (simp at hg2_6; done))
   all_goals
    refine wl_gv (want_y rfl rfl rfl rfl (by rw [hg2_6]; rfl)) (x_move (tmI rfl rfl)) ?_
    refine wl_gv (want_y rfl rfl rfl rfl (by rw [hg2_6]; rfl)) (x_gtr (tmI rfl rfl) (ev_cN 100)) ?_
    refine wl_v (x_pickF (tmB rfl rfl) hg2_6 (tmB rfl rfl)) ?_
    refine wl_nil ?_
    refine then_n (hK4 _ _ ?_); clear hK4 K4
    refine cnd (tm rfl) (fun hc0 => ?_) (fun hc0 => ?_)
    · try (exfalso; first | with_reducible exact absurd hc0 Bool.false_ne_true | with_reducible exact absurd hc0.symm Bool.false_ne_true | (simp only [nrm] at hc0; omega) | (simp at hc0; done))
      all_goals
       try simp only [nrm] at hc0
       refine wp_seq_k ?_; intro K7 hK7
       refine wlit ?_
       refine wl_v (x_assign (ev_cN 0)) ?_
       refine wl_v (x_assign ev_c) ?_
       refine wl_nil ?_
       refine then_n (hK7 _ _ ?_); clear hK7 K7
       refine wp_ret ?_
       refine then_r ?_
       refine ret2 rfl (.tmp rfl (show _ = Value.int _ _ from rfl)) (.tmp rfl (show _ = Value.bool _ from rfl)) ?_
       first
         | (have hb' := hb.1
            refine ⟨_, true, rfl, .inr ⟨hb.1, hb.2.1, hb.2.2, rfl, k, ⟨hlt, ?_⟩, hk, shl_all k (by omega)⟩, hS.kp⟩
            show _ ≤ cum f k + f k
            rw [Int.toNat_natCast]
            omega)
         | exact ⟨0, false, rfl, .inl ⟨.inl (by omega), rfl, rfl⟩, hS.kp⟩
         | exact ⟨0, false, rfl, .inl ⟨.inr (.inl (by omega)), rfl, rfl⟩, hS.kp⟩
         | exact ⟨0, false, rfl, .inl ⟨.inr (.inr (by omega)), rfl, rfl⟩, hS.kp⟩
         | exact ⟨0, false, rfl, .inl ⟨.inr (.inr (by simp at hc0; omega)), rfl, rfl⟩, hS.kp⟩
    try (exfalso; first | with_reducible exact absurd hc0 Bool.false_ne_true | with_reducible exact absurd hc0.symm Bool.false_ne_true | (simp only [nrm] at hc0; omega) | (simp at hc0; done))
    all_goals
     try simp only [nrm] at hc0
     refine wp_skip ?_
     refine then_n (hK3 _ _ ?_); clear hK3 K3
     refine wp_seq_k ?_; intro K8 hK8
     have hb : 0 < n ∧ 0 ≤ p ∧ p ≤ 100 := by
       first | omega | (simp at hc0; omega) | (simp at hg2_2 hg2_6 hc0; omega) | (simp at hg2_2 hg2_6; omega)
     obtain ⟨q, rfl⟩ := Int.eq_ofNat_of_zero_le hb.2.1
     have hq : q ≤ 100 := by omega
     have hnd := need_le hb.1 hq
     have hnd1 : 1 ≤ needP n q := by unfold needP; omega
     refine wlit ?_
     refine wl_v (x_move (tmI rfl rfl)) ?_
     refine wl_v (x_move (tmI rfl rfl)) ?_
     first
      | refine wl_v (x_convN Try.underlying3 Try.underlying25 (tmI rfl rfl) (fit_u64 (by omega))) ?_
      | refine wl_v (x_convU Try.underlying3 Try.underlying25 (tmI rfl rfl) rfl) ?_
      | refine wl_v (x_conv Try.underlying3 Try.underlying25 (tmI rfl rfl)) ?_
     refine wl_e rfl ?_; intro K hK
     refine ow_call Try.func13 rfl rfl (evs_cons (tmI rfl rfl) <| evs_cons (tmI rfl rfl) <| evs_nil) (required_c n q _ (by omega) hq) ?_
     rintro e w ⟨rfl, hk⟩
     refine ⟨_, rfl, ?_⟩
     replace hS := hS.kept hk
     clear hk
     refine hK _ _ ?_; clear hK K
     refine wl_v (x_assign (tmI rfl rfl)) ?_
     refine wl_nil ?_
     refine then_n (hK8 _ _ ?_); clear hK8 K8
     refine wp_seq_k ?_; intro K9 hK9
     refine wlit ?_
     refine wl_v (x_assign (ev_cN 0)) ?_
     refine wl_nil ?_
     refine then_n (hK9 _ _ ?_); clear hK9 K9
     refine wp_seq_k ?_; intro K10 hK10
     refine wp_block ?_
     refine lp [7, 8, 25, 26, 27, 28, 29, 30, 31, 32, 33, 34, 35, 36, 37, 38, 39, 40, 41, 42] (fun mz g w => ∃ (k : Nat), mz = 65 - k ∧ g 8 = .int .i64 (k : Int) ∧ g 7 = .int .u64 ((needP n q - cum f k : Nat) : Int) ∧ St [] w0 [.vw (some ⟨gh, 0, none⟩) (hL f)] w ∧ (k ≤ 64) ∧ (cum f k < needP n q)) ?_ ?_
     · exact ⟨_, 0, rfl, (by first | rfl | go_num | exact congrArg (Value.int _) (by first | omega | (simp; done) | (simp; omega))), (by first | rfl | go_num | exact congrArg (Value.int _) (by first | omega | (simp; done) | (simp; omega))), hS, (by omega), (by first | exact hlt1 | (show 0 < _; omega))⟩
     · clear hS; intro mz g w hI
       obtain ⟨k, rfl, hs8, hs7, hS, hk, hlt⟩ := hI
       refine fr_know (d := 8) hs8 ?_; clear hs8
       refine fr_know (d := 7) hs7 ?_; clear hs7
       refine wp_seq_k ?_; intro K11 hK11
       refine wp_seq_k ?_; intro K12 hK12
       refine wlit ?_
       refine wl_v (x_move (tmP rfl rfl)) ?_
       refine wl_v (x_move (tmI rfl rfl)) ?_
       refine wl_v (x_nil (A := none) (tmP rfl rfl)) ?_
       refine wl_v (x_fa 0 Try.underlying28 rfl rfl ts_26 (tmP rfl rfl)) ?_
       refine wl_v (x_ixa1 Try.underlying26 ts_25 (tmP rfl rfl) (tmI rfl rfl) (by omega)) ?_
       refine wl_v (x_load Try.underlying25 rfl (tmP rfl rfl) (v := u64v (f k)) (cellV hS.ok 0 rfl (hL_get f (by omega)))) ?_
       refine wl_v (x_move (tmI rfl rfl)) ?_
       refine wl_v (x_lss (tmI rfl rfl) (tmI rfl rfl)) ?_
       refine wl_nil ?_
       refine then_n (hK12 _ _ ?_); clear hK12 K12
       refine cnd (tm rfl) (fun hc1 => ?_) (fun hc1 => ?_)
       · try (exfalso; first | with_reducible exact absurd hc1 Bool.false_ne_true | with_reducible exact absurd hc1.symm Bool.false_ne_true | (simp only [nrm] at hc1; omega) | (simp at hc1; done))
         all_goals
          try simp only [nrm] at hc1
          have hst : cum f (k + 1) = cum f k + f k := rfl
          have hlt1 : cum f (k + 1) < needP n q := by omega
          have hk64 : k + 1 ≤ 64 := by
            by_cases h : k = 64
            · subst h
              have hn' : cum f (64 + 1) = n := hn
              omega
            · omega
          refine wp_skip ?_
          refine then_n (hK11 _ _ ?_); clear hK11 K11
          refine wp_block ?_
          refine wp_seq_k ?_; intro K13 hK13
          refine wlit ?_
          refine wl_v (x_move (tmI rfl rfl)) ?_
          refine wl_v (x_move (tmP rfl rfl)) ?_
          refine wl_v (x_move (tmI rfl rfl)) ?_
          refine wl_v (x_nil (A := none) (tmP rfl rfl)) ?_
          refine wl_v (x_fa 0 Try.underlying28 rfl rfl ts_26 (tmP rfl rfl)) ?_
          refine wl_v (x_ixa1 Try.underlying26 ts_25 (tmP rfl rfl) (tmI rfl rfl) (by omega)) ?_
          refine wl_v (x_load Try.underlying25 rfl (tmP rfl rfl) (v := u64v (f k)) (cellV hS.ok 0 rfl (hL_get f (by omega)))) ?_
          first
           | refine wl_v (x_subN (tmI rfl rfl) (tmI rfl rfl) (fit_u64 (by omega)) (by omega)) ?_
           | refine wl_v (x_subI (tmI rfl rfl) (tmI rfl rfl) (IntWalk.u64_in _ (by omega))) ?_
           | refine wl_v (x_subU (tmI rfl rfl) (tmI rfl rfl) rfl (fit_u64 (by omega))) ?_
           | refine wl_v (x_sub (tmI rfl rfl) (tmI rfl rfl)) ?_
          refine wl_v (x_assign (tmI rfl rfl)) ?_
          refine wl_nil ?_
          refine then_n (hK13 _ _ ?_); clear hK13 K13
          refine wlit ?_
          refine wl_v (x_move (tmI rfl rfl)) ?_
          first
           | refine wl_v (x_addN (tmI rfl rfl) (ev_cN 1) (fit_i64 (by omega))) ?_
           | refine wl_v (x_addI (tmI rfl rfl) (ev_cN 1) (IntWalk.i64_in _ (by omega))) ?_
           | refine wl_v (x_add (tmI rfl rfl) (ev_cN 1)) ?_
          refine wl_v (x_assign (tmI rfl rfl)) ?_
          refine wl_nil ?_
          refine inb_n ?_
          exact then_n ⟨_, _, rfl, (by show _ < _; omega), (by repeat (first | exact agree_self | exact agree_refl | refine agree_upd rfl ?_ | refine agree_mix rfl ?_)), k + 1, rfl, (by first | rfl | go_num | exact congrArg (Value.int _) (by first | omega | (simp; done) | (simp; omega))), (by first | rfl | go_num | exact congrArg (Value.int _) (by first | omega | (simp; done) | (simp; omega))), hS, (by omega), (by first | exact hlt1 | (show 0 < _; omega))⟩
       try (exfalso; first | with_reducible exact absurd hc1 Bool.false_ne_true | with_reducible exact absurd hc1.symm Bool.false_ne_true | (simp only [nrm] at hc1; omega) | (simp at hc1; done))
       all_goals
        try simp only [nrm] at hc1
        refine wp_exit ?_
        refine then_x ?_; clear hK11 K11
        refine then_x ?_
        refine inb_x ?_
        refine then_n (hK10 _ _ ?_); clear hK10 K10
        refine wp_seq_k ?_; intro K14 hK14
        refine wlit ?_
        refine wl_v (x_move (tmI rfl rfl)) ?_
        first
         | refine wl_v (x_shlN (ev_cN 1) (tmI rfl rfl) (by decide) (fit_u64 (by omega))) ?_
         | refine wl_v (x_shlN (ev_cN 1) (tmI rfl rfl) (by have : IntKind.bits .u64 = 64 := rfl; omega) (fit_u64 (by omega))) ?_
         | refine wl_v (x_shlU (ev_cN 1) (tmI rfl rfl) rfl) ?_
        first
         | refine wl_v (x_subN (tmI rfl rfl) (ev_cN 1) (fit_u64 (by omega)) (by omega)) ?_
         | refine wl_v (x_subI (tmI rfl rfl) (ev_cN 1) (IntWalk.u64_in _ (by omega))) ?_
         | refine wl_v (x_subU (tmI rfl rfl) (ev_cN 1) rfl (fit_u64 (by omega))) ?_
         | refine wl_v (x_sub (tmI rfl rfl) (ev_cN 1)) ?_
        refine wl_v (x_assign (tmI rfl rfl)) ?_
        refine wl_v (x_assign ev_c) ?_
        refine wl_nil ?_
        refine then_n (hK14 _ _ ?_); clear hK14 K14
        refine wp_ret ?_
        refine ret2 rfl (.tmp rfl (show _ = Value.int _ _ from rfl)) (.tmp rfl (show _ = Value.bool _ from rfl)) ?_
        first
          | (have hb' := hb.1
             refine ⟨_, true, rfl, .inr ⟨hb.1, hb.2.1, hb.2.2, rfl, k, ⟨hlt, ?_⟩, hk, shl_all k (by omega)⟩, hS.kp⟩
             show _ ≤ cum f k + f k
             rw [Int.toNat_natCast]
             omega)
          | exact ⟨0, false, rfl, .inl ⟨.inl (by omega), rfl, rfl⟩, hS.kp⟩
          | exact ⟨0, false, rfl, .inl ⟨.inr (.inl (by omega)), rfl, rfl⟩, hS.kp⟩
          | exact ⟨0, false, rfl, .inl ⟨.inr (.inr (by omega)), rfl, rfl⟩, hS.kp⟩
          | exact ⟨0, false, rfl, .inl ⟨.inr (.inr (by simp at hc0; omega)), rfl, rfl⟩, hS.kp⟩
set_option maxRecDepth 100000 in
set_option maxHeartbeats 4000000 in
theorem below_nil_c (p : Int) (w0 : World) :
    Calls Try.prog 6 #[.pointer none, .int .i64 p] w0 fun e w' => e = .returned (.tuple #[.int .u64 0, .bool false]) ∧ Kp [] w0 w' := by
  have hS := St.sv w0
  refine ent (n := 46) Try.func6 rfl rfl ?_
  refine wp_seq_k ?_; intro K1 hK1
  refine wlit ?_
  refine wl_v (x_assign (ev_cN 0)) ?_
  refine wl_v (x_assign ev_c) ?_
  refine wl_nil ?_
  refine then_n (hK1 _ _ ?_); clear hK1 K1
  refine wp_seq_k ?_; intro K2 hK2
  refine wlit ?_
  refine wl_v (x_move (tmP rfl rfl)) ?_
  refine wl_e rfl ?_; intro K hK
  refine ow_call Try.func9 rfl rfl (evs_cons (tmP rfl rfl) <| evs_nil) (total_nil_c _) ?_
  rintro e w ⟨rfl, hk⟩
  refine ⟨_, rfl, ?_⟩
  replace hS := hS.kept hk
  clear hk
  refine hK _ _ ?_; clear hK K
  refine wl_v (x_assign (tmI rfl rfl)) ?_
  refine wl_nil ?_
  refine then_n (hK2 _ _ ?_); clear hK2 K2
  refine wp_seq_k ?_; intro K3 hK3
  refine wp_seq_k ?_; intro K4 hK4
  refine wlit ?_
  refine wl_v (x_move (tmI rfl rfl)) ?_
  refine wl_v (x_eql (tmI rfl rfl) (ev_cN 0)) ?_
  refine wl_v (x_move (tmB rfl rfl)) ?_
  refine gs_wls (tm (t := 13) rfl) (fun hg2_2 => ?_) (fun hg2_2 => ?_)
  · exfalso
    cases hg2_2
  have hg2_2' := hg2_2; (try simp only [nrm] at hg2_2'); try (exfalso; first | with_reducible exact absurd hg2_2 Bool.false_ne_true | with_reducible exact absurd hg2_2.symm Bool.false_ne_true | omega | (simp at hg2_2; done))
  all_goals
   refine wl_s rfl (want_n rfl rfl rfl rfl (by rw [hg2_2]; rfl)) ?_
   refine wl_s rfl (want_n rfl rfl rfl rfl (by rw [hg2_2]; rfl)) ?_
   refine wl_v (x_pickT (tmB rfl rfl) hg2_2 ev_c) ?_
   refine wl_v (x_move (tmB rfl rfl)) ?_
   refine wl_s rfl (want_n rfl rfl rfl rfl rfl) ?_
   refine wl_s rfl (want_n rfl rfl rfl rfl rfl) ?_
   refine wl_v (x_pickT (tmB rfl rfl) rfl ev_c) ?_
   refine wl_nil ?_
   refine then_n (hK4 _ _ ?_); clear hK4 K4
   refine cnd_t (tmB rfl rfl) rfl ?_
   refine wp_seq_k ?_; intro K5 hK5
   refine wlit ?_
   refine wl_v (x_assign (ev_cN 0)) ?_
   refine wl_v (x_assign ev_c) ?_
   refine wl_nil ?_
   refine then_n (hK5 _ _ ?_); clear hK5 K5
   refine wp_ret ?_
   refine then_r ?_
   refine ret2 rfl (.tmp rfl (show _ = Value.int _ _ from rfl)) (.tmp rfl (show _ = Value.bool _ from rfl)) ?_
   exact ⟨rfl, hS.kp⟩
theorem pow_all : ∀ k, k < 65 → 2 ^ k % 2 ^ IntKind.u64.bits * 2 % 2 ^ IntKind.u64.bits = 2 ^ (k + 1) % 2 ^ IntKind.u64.bits := by decide +kernel
set_option maxRecDepth 100000 in
set_option maxHeartbeats 4000000 in
theorem rbelow_c (n : Nat) (A : Option Addr) (c : Nat) (l : List Nat) (p : Int) (w0 : World) (hv : View w0 w0.heap.size A (l.map u64v)) (hl : l.length = n) (hn4 : n ≤ 1000) (hb : ∀ i, i < n → l.getD i 0 < 18446744073709551616) :
    Calls Try.prog 7 #[.slice A n c, .int .i64 p] w0 fun e w' => ∃ v ok, e = .returned (.tuple #[.int .u64 ((v : Nat) : Int), .bool ok]) ∧ BelowP (cntB l n) n p v ok ∧ Kp [] w0 w' := by
  have hS := (St.sv w0).vcons rfl hv
  refine ent (n := 56) Try.func7 rfl rfl ?_
  refine wp_seq_k ?_; intro K1 hK1
  refine wlit ?_
  refine wl_v (x_assign (ev_cN 0)) ?_
  refine wl_v (x_assign ev_c) ?_
  refine wl_nil ?_
  refine then_n (hK1 _ _ ?_); clear hK1 K1
  refine wp_seq_k ?_; intro K2 hK2
  refine wp_seq_k ?_; intro K3 hK3
  refine wlit ?_
  refine wl_v (x_move (tmS rfl rfl)) ?_
  refine wl_v (x_len Try.underlying22 (tmS rfl rfl)) ?_
  refine wl_v (x_eql (tmI rfl rfl) (ev_cN 0)) ?_
  refine wl_v (x_move (tmB rfl rfl)) ?_
  refine gs_wl (tm (t := 14) rfl) (fun hg1_3 => ?_) (fun hg1_3 => ?_)
  · have hg1_3' := hg1_3; (try simp only [nrm] at hg1_3'); try (exfalso; first | with_reducible exact absurd hg1_3 Bool.false_ne_true | with_reducible exact absurd hg1_3.symm Bool.false_ne_true | omega | (simp at hg1_3; done))
    all_goals
     refine wl_s rfl (want_n rfl rfl rfl rfl (by rw [hg1_3]; rfl)) ?_
     refine wl_s rfl (want_n rfl rfl rfl rfl (by rw [hg1_3]; rfl)) ?_
     refine wl_v (x_pickT (tmB rfl rfl) hg1_3 ev_c) ?_
     refine wl_v (x_move (tmB rfl rfl)) ?_
     refine wl_s rfl (want_n rfl rfl rfl rfl rfl) ?_
     refine wl_s rfl (want_n rfl rfl rfl rfl rfl) ?_
     refine wl_v (x_pickT (tmB rfl rfl) rfl ev_c) ?_
     refine wl_nil ?_
     refine then_n (hK3 _ _ ?_); clear hK3 K3
     refine cnd_t (tmB rfl rfl) rfl ?_
     refine wp_seq_k ?_; intro K4 hK4
     refine wlit ?_
     refine wl_v (x_assign (ev_cN 0)) ?_
     refine wl_v (x_assign ev_c) ?_
     refine wl_nil ?_
     refine then_n (hK4 _ _ ?_); clear hK4 K4
     refine wp_ret ?_
     refine then_r ?_
     refine ret2 rfl (.tmp rfl (show _ = Value.int _ _ from rfl)) (.tmp rfl (show _ = Value.bool _ from rfl)) ?_
     first
       | (have hb' := hbb.1
          have hin : i = n := by omega
          refine ⟨_, true, rfl, .inr ⟨hbb.1, hbb.2.1, hbb.2.2, rfl, k, ⟨hlt, ?_⟩, by omega, (shl_all' k (by omega))⟩, hS.kp⟩
          rw [Int.toNat_natCast, cum_cnt]
          rw [hin] at hc5
          omega)
       | (have hb' := hbb.1
          exfalso
          obtain rfl : k = 65 := by omega
          omega)
       | exact ⟨0, false, rfl, .inl ⟨.inl (by omega), rfl, rfl⟩, hS.kp⟩
       | exact ⟨0, false, rfl, .inl ⟨.inr (.inl (by omega)), rfl, rfl⟩, hS.kp⟩
       | exact ⟨0, false, rfl, .inl ⟨.inr (.inr (by omega)), rfl, rfl⟩, hS.kp⟩
  have hg1_3' := hg1_3; (try simp only [nrm] at hg1_3'); try (exfalso; first | with_reducible exact absurd hg1_3 Bool.false_ne_true | with_reducible exact absurd hg1_3.symm Bool.false_ne_true | omega | (simp at hg1_3; done))
  all_goals
   refine wl_gv (want_y rfl rfl rfl rfl (by rw [hg1_3]; rfl)) (x_move (tmI rfl rfl)) ?_
   refine wl_gv (want_y rfl rfl rfl rfl (by rw [hg1_3]; rfl)) (x_lss (tmI rfl rfl) (ev_cN 0)) ?_
   refine wl_v (x_pickF (tmB rfl rfl) hg1_3 (tmB rfl rfl)) ?_
   refine wl_v (x_move (tmB rfl rfl)) ?_
   refine gs_wl (tm (t := 18) rfl) (fun hg1_7 => ?_) (fun hg1_7 => ?_)
   · have hg1_7' := hg1_7; (try simp only [nrm] at hg1_7'); try (exfalso; first | with_reducible exact absurd hg1_7 Bool.false_ne_true | with_reducible exact absurd hg1_7.symm Bool.false_ne_true | omega | (simp at hg1_7; done))
     all_goals
      refine wl_s rfl (want_n rfl rfl rfl rfl (by rw [hg1_7]; rfl)) ?_
      refine wl_s rfl (want_n rfl rfl rfl rfl (by rw [hg1_7]; rfl)) ?_
      refine wl_v (x_pickT (tmB rfl rfl) hg1_7 ev_c) ?_
      refine wl_nil ?_
      refine then_n (hK3 _ _ ?_); clear hK3 K3
      refine cnd_t (tmB rfl rfl) rfl ?_
      refine wp_seq_k ?_; intro K5 hK5
      refine wlit ?_
      refine wl_v (x_assign (ev_cN 0)) ?_
      refine wl_v (x_assign ev_c) ?_
      refine wl_nil ?_
      refine then_n (hK5 _ _ ?_); clear hK5 K5
      refine wp_ret ?_
      refine then_r ?_
      refine ret2 rfl (.tmp rfl (show _ = Value.int _ _ from rfl)) (.tmp rfl (show _ = Value.bool _ from rfl)) ?_
      first
        | (have hb' := hbb.1
           have hin : i = n := by omega
           refine ⟨_, true, rfl, .inr ⟨hbb.1, hbb.2.1, hbb.2.2, rfl, k, ⟨hlt, ?_⟩, by omega, (shl_all' k (by omega))⟩, hS.kp⟩
           rw [Int.toNat_natCast, cum_cnt]
           rw [hin] at hc5
           omega)
        | (have hb' := hbb.1
           exfalso
           obtain rfl : k = 65 := by omega
           omega)
        | exact ⟨0, false, rfl, .inl ⟨.inl (by omega), rfl, rfl⟩, hS.kp⟩
        | exact ⟨0, false, rfl, .inl ⟨.inr (.inl (by omega)), rfl, rfl⟩, hS.kp⟩
        | exact ⟨0, false, rfl, .inl ⟨.inr (.inr (by omega)), rfl, rfl⟩, hS.kp⟩
   have hg1_7' := hg1_7; (try simp only [nrm] at hg1_7'); try (exfalso; first | with_reducible exact absurd hg1_7 Bool.false_ne_true | with_reducible exact absurd hg1_7.symm Bool.false_ne_true | omega | (simp at hg1_7; done))
   all_goals
    refine wl_gv (want_y rfl rfl rfl rfl (by rw [hg1_7]; rfl)) (x_move (tmI rfl rfl)) ?_
    refine wl_gv (want_y rfl rfl rfl rfl (by rw [hg1_7]; rfl)) (x_gtr (tmI rfl rfl) (ev_cN 100)) ?_
    refine wl_v (x_pickF (tmB rfl rfl) hg1_7 (tmB rfl rfl)) ?_
    refine wl_nil ?_
    refine then_n (hK3 _ _ ?_); clear hK3 K3
    refine cnd (tm rfl) (fun hc0 => ?_) (fun hc0 => ?_)
    · try (exfalso; first | with_reducible exact absurd hc0 Bool.false_ne_true | with_reducible exact absurd hc0.symm Bool.false_ne_true | (simp only [nrm] at hc0; omega) | (simp at hc0; done))
      all_goals
       try simp only [nrm] at hc0
       refine wp_seq_k ?_; intro K6 hK6
       refine wlit ?_
       refine wl_v (x_assign (ev_cN 0)) ?_
       refine wl_v (x_assign ev_c) ?_
       refine wl_nil ?_
       refine then_n (hK6 _ _ ?_); clear hK6 K6
       refine wp_ret ?_
       refine then_r ?_
       refine ret2 rfl (.tmp rfl (show _ = Value.int _ _ from rfl)) (.tmp rfl (show _ = Value.bool _ from rfl)) ?_
       first
         | (have hb' := hbb.1
            have hin : i = n := by omega
            refine ⟨_, true, rfl, .inr ⟨hbb.1, hbb.2.1, hbb.2.2, rfl, k, ⟨hlt, ?_⟩, by omega, (shl_all' k (by omega))⟩, hS.kp⟩
            rw [Int.toNat_natCast, cum_cnt]
            rw [hin] at hc5
            omega)
         | (have hb' := hbb.1
            exfalso
            obtain rfl : k = 65 := by omega
            omega)
         | exact ⟨0, false, rfl, .inl ⟨.inl (by omega), rfl, rfl⟩, hS.kp⟩
         | exact ⟨0, false, rfl, .inl ⟨.inr (.inl (by omega)), rfl, rfl⟩, hS.kp⟩
         | exact ⟨0, false, rfl, .inl ⟨.inr (.inr (by omega)), rfl, rfl⟩, hS.kp⟩
    try (exfalso; first | with_reducible exact absurd hc0 Bool.false_ne_true | with_reducible exact absurd hc0.symm Bool.false_ne_true | (simp only [nrm] at hc0; omega) | (simp at hc0; done))
    all_goals
     try simp only [nrm] at hc0
     refine wp_skip ?_
     refine then_n (hK2 _ _ ?_); clear hK2 K2
     refine wp_seq_k ?_; intro K7 hK7
     have hbb : 0 < n ∧ 0 ≤ p ∧ p ≤ 100 := by
       first | omega | (simp at hc0; omega) | (simp at hg1_3 hg1_7 hc0; omega) | (simp at hg1_3 hg1_7; omega)
     obtain ⟨q, rfl⟩ := Int.eq_ofNat_of_zero_le hbb.2.1
     have hq : q ≤ 100 := by omega
     have hnq : n * q ≤ 1000 * 100 := Nat.mul_le_mul hn4 hq
     have hnd := need_le hbb.1 hq
     have hnd1 : 1 ≤ needP n q := by unfold needP; omega
     have h65 : cum (cntB l n) 65 = n := by
       rw [cum_cnt]
       exact le_all n fun i hi => bl_lt (s := 64) (hb i hi)
     refine wlit ?_
     refine wl_v (x_move (tmS rfl rfl)) ?_
     refine wl_v (x_len Try.underlying22 (tmS rfl rfl)) ?_
     refine wl_v (x_move (tmI rfl rfl)) ?_
     first
      | refine wl_v (x_mulN (tmI rfl rfl) (tmI rfl rfl) (fit_i64 (by omega))) ?_
      | refine wl_v (x_mulI (tmI rfl rfl) (tmI rfl rfl) (IntWalk.i64_in _ (by omega))) ?_
      | refine wl_v (x_mul (tmI rfl rfl) (tmI rfl rfl)) ?_
     first
      | refine wl_v (x_addN (tmI rfl rfl) (ev_cN 99) (fit_i64 (by omega))) ?_
      | refine wl_v (x_addI (tmI rfl rfl) (ev_cN 99) (IntWalk.i64_in _ (by omega))) ?_
      | refine wl_v (x_add (tmI rfl rfl) (ev_cN 99)) ?_
     first
      | refine wl_v (x_quoN (tmI rfl rfl) (ev_cN 100) (by omega) (fit_i64 (by omega))) ?_
      | refine wl_v (x_quo (tmI rfl rfl) (ev_cN 100) (by omega)) ?_
     refine wl_v (x_assign (tmI rfl rfl)) ?_
     refine wl_nil ?_
     refine then_n (hK7 _ _ ?_); clear hK7 K7
     refine wp_seq_k ?_; intro K8 hK8
     refine wp_seq_k ?_; intro K9 hK9
     refine wlit ?_
     refine wl_v (x_move (tmI rfl rfl)) ?_
     refine wl_v (x_lss (tmI rfl rfl) (ev_cN 1)) ?_
     refine wl_nil ?_
     refine then_n (hK9 _ _ ?_); clear hK9 K9
     refine cutc [6] (fun g w => g 6 = .int .i64 ((needP n q : Nat) : Int) ∧ St [] w0 [.vw A (l.map u64v)] w) ?_ ?_
     · skip
       refine cnd (tm rfl) (fun hc1 => ?_) (fun hc1 => ?_)
       · try (exfalso; first | with_reducible exact absurd hc1 Bool.false_ne_true | with_reducible exact absurd hc1.symm Bool.false_ne_true | (simp only [nrm] at hc1; omega) | (simp at hc1; done))
         all_goals
          try simp only [nrm] at hc1
          refine wlit ?_
          refine wl_v (x_assign (ev_cN 1)) ?_
          refine wl_nil ?_
          exact then_n ⟨_, rfl, (by repeat (first | exact agree_self | exact agree_refl | refine agree_upd rfl ?_ | refine agree_mix rfl ?_)), (by first | rfl | (exact congrArg (fun z : Nat => Value.int .i64 (z : Int)) (by unfold needP; omega); done) | (exact congrArg (fun z : Nat => Value.int .i64 (z : Int)) (by unfold needP; omega); rfl) | (exact congrArg (fun z : Nat => Value.int .i64 (z : Int)) (by unfold needP; omega); go_num)), hS⟩
       try (exfalso; first | with_reducible exact absurd hc1 Bool.false_ne_true | with_reducible exact absurd hc1.symm Bool.false_ne_true | (simp only [nrm] at hc1; omega) | (simp at hc1; done))
       all_goals
        try simp only [nrm] at hc1
        refine wp_skip ?_
        exact then_n ⟨_, rfl, (by repeat (first | exact agree_self | exact agree_refl | refine agree_upd rfl ?_ | refine agree_mix rfl ?_)), (by first | rfl | (exact congrArg (fun z : Nat => Value.int .i64 (z : Int)) (by unfold needP; omega); done) | (exact congrArg (fun z : Nat => Value.int .i64 (z : Int)) (by unfold needP; omega); rfl) | (exact congrArg (fun z : Nat => Value.int .i64 (z : Int)) (by unfold needP; omega); go_num)), hS⟩
     · clear hS; intro g w hI
       obtain ⟨hs6, hS⟩ := hI
       refine fr_knowQ (d := 6) hs6 ?_; clear hs6
       refine then_n (hK8 _ _ ?_); clear hK8 K8
       refine wp_seq_k ?_; intro K11 hK11
       refine wlit ?_
       refine wl_v (x_assign (ev_cN 1)) ?_
       refine wl_nil ?_
       refine then_n (hK11 _ _ ?_); clear hK11 K11
       refine wp_seq_k ?_; intro K12 hK12
       refine wp_seq_k ?_; intro K13 hK13
       refine wlit ?_
       refine wl_v (x_assign (ev_cN 0)) ?_
       refine wl_nil ?_
       refine then_n (hK13 _ _ ?_); clear hK13 K13
       refine wp_block ?_
       refine lp [4, 5, 7, 8, 9, 10, 30, 31, 32, 33, 34, 35, 36, 37, 38, 39, 40, 41, 42, 43, 44, 45, 46, 47, 48, 49, 50, 51, 52, 53, 54, 55] (fun mz g w => ∃ (k : Nat), mz = 65 - k ∧ g 8 = .int .i64 (k : Int) ∧ g 7 = .int .u64 ((2 ^ k % 2 ^ IntKind.u64.bits : Nat) : Int) ∧ St [] w0 [.vw A (l.map u64v)] w ∧ (k ≤ 65) ∧ (cum (cntB l n) k < needP n q)) ?_ ?_
       · exact ⟨_, 0, rfl, (by first | rfl | go_num | exact congrArg (Value.int _) (by first | omega | (simp; done) | (simp; omega))), (by first | rfl | go_num | exact congrArg (Value.int _) (by first | omega | (simp; done) | (simp; omega))), hS, (by omega), (by first | exact hlt1 | (show 0 < _; omega))⟩
       · clear hS; intro mz g w hI
         obtain ⟨k, rfl, hs8, hs7, hS, hk, hlt⟩ := hI
         refine fr_know (d := 8) hs8 ?_; clear hs8
         refine fr_know (d := 7) hs7 ?_; clear hs7
         refine wp_seq_k ?_; intro K14 hK14
         refine wp_seq_k ?_; intro K15 hK15
         refine wlit ?_
         refine wl_v (x_move (tmI rfl rfl)) ?_
         refine wl_v (x_leq (tmI rfl rfl) (ev_cN 64)) ?_
         refine wl_nil ?_
         refine then_n (hK15 _ _ ?_); clear hK15 K15
         refine cnd (tm rfl) (fun hc2 => ?_) (fun hc2 => ?_)
         · try (exfalso; first | with_reducible exact absurd hc2 Bool.false_ne_true | with_reducible exact absurd hc2.symm Bool.false_ne_true | (simp only [nrm] at hc2; omega) | (simp at hc2; done))
           all_goals
            try simp only [nrm] at hc2
            refine wp_skip ?_
            refine then_n (hK14 _ _ ?_); clear hK14 K14
            refine wp_seq_k ?_; intro K16 hK16
            refine wp_block ?_
            refine wp_seq_k ?_; intro K17 hK17
            refine wlit ?_
            refine wl_v (x_assign (ev_cN 0)) ?_
            refine wl_nil ?_
            refine then_n (hK17 _ _ ?_); clear hK17 K17
            refine wp_seq_k ?_; intro K18 hK18
            refine wp_seq_k ?_; intro K19 hK19
            refine wlit ?_
            refine wl_v (x_assign (ev_cN 0)) ?_
            refine wl_nil ?_
            refine then_n (hK19 _ _ ?_); clear hK19 K19
            refine wp_block ?_
            refine lp [9, 10, 34, 35, 36, 37, 38, 39, 40, 41, 42, 43, 44, 45, 46, 47, 48] (fun mz g w => ∃ (i : Nat), mz = n - i ∧ g 10 = .int .i64 (i : Int) ∧ g 9 = .int .i64 ((leN l k i : Nat) : Int) ∧ St [] w0 [.vw A (l.map u64v)] w ∧ (i ≤ n) ∧ (leN l k i ≤ i)) ?_ ?_
            · exact ⟨_, 0, rfl, (by first | rfl | go_num | exact congrArg (Value.int _) (by first | omega | (simp; done) | (simp; omega))), (by first | rfl | go_num | exact congrArg (Value.int _) (by first | omega | (simp; done) | (simp; omega))), hS, (by omega), (by first | exact Nat.zero_le _ | omega)⟩
            · clear hS; intro mz g w hI
              obtain ⟨i, rfl, hs10, hs9, hS, hi, hle⟩ := hI
              refine fr_know (d := 10) hs10 ?_; clear hs10
              refine fr_know (d := 9) hs9 ?_; clear hs9
              refine wp_seq_k ?_; intro K20 hK20
              refine wp_seq_k ?_; intro K21 hK21
              refine wlit ?_
              refine wl_v (x_move (tmI rfl rfl)) ?_
              refine wl_v (x_move (tmS rfl rfl)) ?_
              refine wl_v (x_len Try.underlying22 (tmS rfl rfl)) ?_
              refine wl_v (x_lss (tmI rfl rfl) (tmI rfl rfl)) ?_
              refine wl_nil ?_
              refine then_n (hK21 _ _ ?_); clear hK21 K21
              refine cnd (tm rfl) (fun hc3 => ?_) (fun hc3 => ?_)
              · try (exfalso; first | with_reducible exact absurd hc3 Bool.false_ne_true | with_reducible exact absurd hc3.symm Bool.false_ne_true | (simp only [nrm] at hc3; omega) | (simp at hc3; done))
                all_goals
                 try simp only [nrm] at hc3
                 obtain ⟨b4, o4, rfl⟩ := view_some hv (by rw [List.length_map]; omega)
                 have hbi := hb i (by omega)
                 refine wp_skip ?_
                 refine then_n (hK20 _ _ ?_); clear hK20 K20
                 refine wp_seq_k ?_; intro K22 hK22
                 refine wp_block ?_
                 refine wp_seq_k ?_; intro K23 hK23
                 refine wlit ?_
                 refine wl_v (x_move (tmS rfl rfl)) ?_
                 refine wl_v (x_move (tmI rfl rfl)) ?_
                 refine wl_v (x_ixs1 Try.underlying22 ts_25 (tmS rfl rfl) (tmI rfl rfl) (by omega)) ?_
                 first
                  | refine wl_v (x_load Try.underlying25 rfl (tmP rfl rfl) (cellV hS.ok 0 rfl rfl)) ?_
                  | refine wl_v (x_load Try.underlying25 rfl (tmP rfl rfl) (cellV hS.ok 0 rfl (getm (by omega)))) ?_
                  | refine wl_v (x_load Try.underlying25 rfl (tmP rfl rfl) (cellVs hS.ok 0 rfl (fun _ => rfl) rfl (by omega) rfl)) ?_
                 refine wl_e rfl ?_; intro K hK
                 refine ow_call Try.func14 rfl rfl (evs_cons (tmI rfl rfl) <| evs_nil) (bits_c (l.getD i 0) _ hbi) ?_
                 rintro e w ⟨rfl, hk2⟩
                 refine ⟨_, rfl, ?_⟩
                 replace hS := hS.kept hk2
                 clear hk2
                 refine hK _ _ ?_; clear hK K
                 refine wl_v (x_move (tmI rfl rfl)) ?_
                 refine wl_v (x_leq (tmI rfl rfl) (tmI rfl rfl)) ?_
                 refine wl_nil ?_
                 refine then_n (hK23 _ _ ?_); clear hK23 K23
                 refine cnd (tm rfl) (fun hc4 => ?_) (fun hc4 => ?_)
                 · try (exfalso; first | with_reducible exact absurd hc4 Bool.false_ne_true | with_reducible exact absurd hc4.symm Bool.false_ne_true | (simp only [nrm] at hc4; omega) | (simp at hc4; done))
                   all_goals
                    try simp only [nrm] at hc4
                    have hx : leN l k i + 1 = leN l k (i + 1) := by simp only [leN]; rw [if_pos (by omega)]
                    refine wlit ?_
                    refine wl_v (x_move (tmI rfl rfl)) ?_
                    first
                     | refine wl_v (x_addN (tmI rfl rfl) (ev_cN 1) (fit_i64 (by omega))) ?_
                     | refine wl_v (x_addI (tmI rfl rfl) (ev_cN 1) (IntWalk.i64_in _ (by omega))) ?_
                     | refine wl_v (x_add (tmI rfl rfl) (ev_cN 1)) ?_
                    refine wl_v (x_assign (tmI rfl rfl)) ?_
                    refine wl_nil ?_
                    refine inb_n ?_
                    refine then_n (hK22 _ _ ?_); clear hK22 K22
                    refine wlit ?_
                    refine wl_v (x_move (tmI rfl rfl)) ?_
                    first
                     | refine wl_v (x_addN (tmI rfl rfl) (ev_cN 1) (fit_i64 (by omega))) ?_
                     | refine wl_v (x_addI (tmI rfl rfl) (ev_cN 1) (IntWalk.i64_in _ (by omega))) ?_
                     | refine wl_v (x_add (tmI rfl rfl) (ev_cN 1)) ?_
                    refine wl_v (x_assign (tmI rfl rfl)) ?_
                    refine wl_nil ?_
                    first
                     | exact then_n ⟨_, _, rfl, (by show _ < _; omega), (by repeat (first | exact agree_self | exact agree_refl | refine agree_upd rfl ?_ | refine agree_mix rfl ?_)), i + 1, rfl, (by first | rfl | go_num | exact congrArg (Value.int _) (by first | omega | (simp; done) | (simp; omega))), (by first | rfl | (first | rfl | exact congrArg (fun z : Nat => Value.int .i64 (z : Int)) hx; done) | (first | rfl | exact congrArg (fun z : Nat => Value.int .i64 (z : Int)) hx; rfl) | (first | rfl | exact congrArg (fun z : Nat => Value.int .i64 (z : Int)) hx; go_num)), hS, (by omega), (by first | exact Nat.zero_le _ | omega)⟩
                     | exact then_n ⟨_, _, rfl, (by show _ < _; omega), (by repeat (first | exact agree_self | exact agree_refl | refine agree_upd rfl ?_ | refine agree_mix rfl ?_)), i + 1, rfl, (by first | rfl | go_num | exact congrArg (Value.int _) (by first | omega | (simp; done) | (simp; omega))), (by first | rfl | (first | rfl | exact congrArg (fun z : Nat => Value.int .i64 (z : Int)) hx; done) | (first | rfl | exact congrArg (fun z : Nat => Value.int .i64 (z : Int)) hx; rfl) | (first | rfl | exact congrArg (fun z : Nat => Value.int .i64 (z : Int)) hx; go_num)), hS, (by omega), (by first | exact Nat.zero_le _ | omega)⟩
                 try (exfalso; first | with_reducible exact absurd hc4 Bool.false_ne_true | with_reducible exact absurd hc4.symm Bool.false_ne_true | (simp only [nrm] at hc4; omega) | (simp at hc4; done))
                 all_goals
                  try simp only [nrm] at hc4
                  have hx : leN l k i = leN l k (i + 1) := by simp only [leN]; rw [if_neg (by omega), Nat.add_zero]
                  refine wp_skip ?_
                  refine inb_n ?_
                  refine then_n (hK22 _ _ ?_); clear hK22 K22
                  refine wlit ?_
                  refine wl_v (x_move (tmI rfl rfl)) ?_
                  first
                   | refine wl_v (x_addN (tmI rfl rfl) (ev_cN 1) (fit_i64 (by omega))) ?_
                   | refine wl_v (x_addI (tmI rfl rfl) (ev_cN 1) (IntWalk.i64_in _ (by omega))) ?_
                   | refine wl_v (x_add (tmI rfl rfl) (ev_cN 1)) ?_
                  refine wl_v (x_assign (tmI rfl rfl)) ?_
                  refine wl_nil ?_
                  first
                   | exact then_n ⟨_, _, rfl, (by show _ < _; omega), (by repeat (first | exact agree_self | exact agree_refl | refine agree_upd rfl ?_ | refine agree_mix rfl ?_)), i + 1, rfl, (by first | rfl | go_num | exact congrArg (Value.int _) (by first | omega | (simp; done) | (simp; omega))), (by first | rfl | (first | rfl | exact congrArg (fun z : Nat => Value.int .i64 (z : Int)) hx; done) | (first | rfl | exact congrArg (fun z : Nat => Value.int .i64 (z : Int)) hx; rfl) | (first | rfl | exact congrArg (fun z : Nat => Value.int .i64 (z : Int)) hx; go_num)), hS, (by omega), (by first | exact Nat.zero_le _ | omega)⟩
                   | exact then_n ⟨_, _, rfl, (by show _ < _; omega), (by repeat (first | exact agree_self | exact agree_refl | refine agree_upd rfl ?_ | refine agree_mix rfl ?_)), i + 1, rfl, (by first | rfl | go_num | exact congrArg (Value.int _) (by first | omega | (simp; done) | (simp; omega))), (by first | rfl | (first | rfl | exact congrArg (fun z : Nat => Value.int .i64 (z : Int)) hx; done) | (first | rfl | exact congrArg (fun z : Nat => Value.int .i64 (z : Int)) hx; rfl) | (first | rfl | exact congrArg (fun z : Nat => Value.int .i64 (z : Int)) hx; go_num)), hS, (by omega), (by first | exact Nat.zero_le _ | omega)⟩
              try (exfalso; first | with_reducible exact absurd hc3 Bool.false_ne_true | with_reducible exact absurd hc3.symm Bool.false_ne_true | (simp only [nrm] at hc3; omega) | (simp at hc3; done))
              all_goals
               try simp only [nrm] at hc3
               refine wp_exit ?_
               refine then_x ?_; clear hK20 K20
               refine then_x ?_
               refine inb_x ?_
               refine then_n (hK18 _ _ ?_); clear hK18 K18
               refine wp_seq_k ?_; intro K24 hK24
               refine wp_seq_k ?_; intro K25 hK25
               refine wlit ?_
               refine wl_v (x_move (tmI rfl rfl)) ?_
               refine wl_v (x_move (tmI rfl rfl)) ?_
               refine wl_v (x_geq (tmI rfl rfl) (tmI rfl rfl)) ?_
               refine wl_nil ?_
               refine then_n (hK25 _ _ ?_); clear hK25 K25
               refine cnd (tm rfl) (fun hc5 => ?_) (fun hc5 => ?_)
               · try (exfalso; first | with_reducible exact absurd hc5 Bool.false_ne_true | with_reducible exact absurd hc5.symm Bool.false_ne_true | (simp only [nrm] at hc5; omega) | (simp at hc5; done))
                 all_goals
                  try simp only [nrm] at hc5
                  refine wp_seq_k ?_; intro K26 hK26
                  refine wlit ?_
                  refine wl_v (x_move (tmI rfl rfl)) ?_
                  first
                   | refine wl_v (x_subN (tmI rfl rfl) (ev_cN 1) (fit_u64 (by omega)) (by omega)) ?_
                   | refine wl_v (x_subI (tmI rfl rfl) (ev_cN 1) (IntWalk.u64_in _ (by omega))) ?_
                   | refine wl_v (x_subU (tmI rfl rfl) (ev_cN 1) rfl (fit_u64 (by omega))) ?_
                   | refine wl_v (x_sub (tmI rfl rfl) (ev_cN 1)) ?_
                  refine wl_v (x_assign (tmI rfl rfl)) ?_
                  refine wl_v (x_assign ev_c) ?_
                  refine wl_nil ?_
                  refine then_n (hK26 _ _ ?_); clear hK26 K26
                  refine wp_ret ?_
                  refine then_r ?_
                  refine inb_r ?_
                  refine then_r ?_
                  refine then_r ?_
                  refine inb_r ?_
                  refine then_r ?_
                  refine ret2 rfl (.tmp rfl (show _ = Value.int _ _ from rfl)) (.tmp rfl (show _ = Value.bool _ from rfl)) ?_
                  first
                    | (have hb' := hbb.1
                       have hin : i = n := by omega
                       refine ⟨_, true, rfl, .inr ⟨hbb.1, hbb.2.1, hbb.2.2, rfl, k, ⟨hlt, ?_⟩, by omega, (shl_all' k (by omega))⟩, hS.kp⟩
                       rw [Int.toNat_natCast, cum_cnt]
                       rw [hin] at hc5
                       omega)
                    | (have hb' := hbb.1
                       exfalso
                       obtain rfl : k = 65 := by omega
                       omega)
                    | exact ⟨0, false, rfl, .inl ⟨.inl (by omega), rfl, rfl⟩, hS.kp⟩
                    | exact ⟨0, false, rfl, .inl ⟨.inr (.inl (by omega)), rfl, rfl⟩, hS.kp⟩
                    | exact ⟨0, false, rfl, .inl ⟨.inr (.inr (by omega)), rfl, rfl⟩, hS.kp⟩
               try (exfalso; first | with_reducible exact absurd hc5 Bool.false_ne_true | with_reducible exact absurd hc5.symm Bool.false_ne_true | (simp only [nrm] at hc5; omega) | (simp at hc5; done))
               all_goals
                try simp only [nrm] at hc5
                have hin : i = n := by omega
                have hlt1 : cum (cntB l n) (k + 1) < needP n q := by
                  rw [cum_cnt, ← hin]
                  rw [hin]
                  rw [hin] at hc5
                  omega
                refine wp_skip ?_
                refine then_n (hK24 _ _ ?_); clear hK24 K24
                refine wlit ?_
                refine wl_v (x_move (tmI rfl rfl)) ?_
                first
                 | refine wl_v (x_mulN (tmI rfl rfl) (ev_cN 2) (fit_u64 (by omega))) ?_
                 | refine wl_v (x_mulI (tmI rfl rfl) (ev_cN 2) (IntWalk.u64_in _ (by omega))) ?_
                 | refine wl_v (x_mulU (tmI rfl rfl) (ev_cN 2) rfl) ?_
                 | refine wl_v (x_mul (tmI rfl rfl) (ev_cN 2)) ?_
                refine wl_v (x_assign (tmI rfl rfl)) ?_
                refine wl_nil ?_
                refine inb_n ?_
                refine then_n (hK16 _ _ ?_); clear hK16 K16
                refine wlit ?_
                refine wl_v (x_move (tmI rfl rfl)) ?_
                first
                 | refine wl_v (x_addN (tmI rfl rfl) (ev_cN 1) (fit_i64 (by omega))) ?_
                 | refine wl_v (x_addI (tmI rfl rfl) (ev_cN 1) (IntWalk.i64_in _ (by omega))) ?_
                 | refine wl_v (x_add (tmI rfl rfl) (ev_cN 1)) ?_
                refine wl_v (x_assign (tmI rfl rfl)) ?_
                refine wl_nil ?_
                exact then_n ⟨_, _, rfl, (by show _ < _; omega), (by repeat (first | exact agree_self | exact agree_refl | refine agree_upd rfl ?_ | refine agree_mix rfl ?_)), k + 1, rfl, (by first | rfl | go_num | exact congrArg (Value.int _) (by first | omega | (simp; done) | (simp; omega))), (by first | rfl | (first | rfl | exact congrArg (fun z : Nat => Value.int .u64 (z : Int)) (pow_all k (by omega)); done) | (first | rfl | exact congrArg (fun z : Nat => Value.int .u64 (z : Int)) (pow_all k (by omega)); rfl) | (first | rfl | exact congrArg (fun z : Nat => Value.int .u64 (z : Int)) (pow_all k (by omega)); go_num)), hS, (by omega), (by first | exact hlt1 | (show 0 < _; omega))⟩
         try (exfalso; first | with_reducible exact absurd hc2 Bool.false_ne_true | with_reducible exact absurd hc2.symm Bool.false_ne_true | (simp only [nrm] at hc2; omega) | (simp at hc2; done))
         all_goals
          try simp only [nrm] at hc2
          refine wp_exit ?_
          refine then_x ?_; clear hK14 K14
          refine then_x ?_
          refine inb_x ?_
          refine then_n (hK12 _ _ ?_); clear hK12 K12
          refine wp_seq_k ?_; intro K27 hK27
          refine wlit ?_
          refine wl_v (x_assign (ev_cN 0)) ?_
          refine wl_v (x_assign ev_c) ?_
          refine wl_nil ?_
          refine then_n (hK27 _ _ ?_); clear hK27 K27
          refine wp_ret ?_
          refine ret2 rfl (.tmp rfl (show _ = Value.int _ _ from rfl)) (.tmp rfl (show _ = Value.bool _ from rfl)) ?_
          first
            | (have hb' := hbb.1
               have hin : i = n := by omega
               refine ⟨_, true, rfl, .inr ⟨hbb.1, hbb.2.1, hbb.2.2, rfl, k, ⟨hlt, ?_⟩, by omega, (shl_all' k (by omega))⟩, hS.kp⟩
               rw [Int.toNat_natCast, cum_cnt]
               rw [hin] at hc5
               omega)
            | (have hb' := hbb.1
               exfalso
               obtain rfl : k = 65 := by omega
               omega)
            | exact ⟨0, false, rfl, .inl ⟨.inl (by omega), rfl, rfl⟩, hS.kp⟩
            | exact ⟨0, false, rfl, .inl ⟨.inr (.inl (by omega)), rfl, rfl⟩, hS.kp⟩
            | exact ⟨0, false, rfl, .inl ⟨.inr (.inr (by omega)), rfl, rfl⟩, hS.kp⟩
end HistC
end Go.Proofs.Ytmkieoinmfkofaa
