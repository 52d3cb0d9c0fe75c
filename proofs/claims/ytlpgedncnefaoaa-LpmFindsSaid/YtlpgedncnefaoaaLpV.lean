
/- lpm: the reference's Find by contract; the law LpmFinds. Conditions: none but bounds. -/
import Derived.Test.YtlpgedncnefaoaaLpU
namespace Go.Proofs.Ytlpgedncnefaoaa
open Go.RowKit
/-- An entry that an address falls under. -/
def matchP (e : En) (a : Ad) : Prop := e.a.six = a.six ∧ cutM a e.len.toNat = e.a
def FindR (l : List En) (a : Ad) (n : Nat) (r : Int) : Prop :=
  (r = -1 ∧ ∀ j, j < n → ¬ matchP (l.getD j default) a) ∨ ∃ b : Nat, r = (b : Int) ∧ b < n ∧ matchP (l.getD b default) a ∧ ∀ j, j < n → matchP (l.getD j default) a → (l.getD j default).len ≤ (l.getD b default).len
theorem mk_match {e : En} {a : Ad} {m : Nat} (hm : e.len = (m : Int)) (h9 : (e.a.six == a.six) = true) (h24 : eqA (cutM a m) e.a = true) : matchP e a := ⟨by simpa using h9, by rw [hm]; exact (eqA_iff _ _).1 h24⟩
theorem no_match1 {e : En} {a : Ad} (h9 : (e.a.six == a.six) = false) : ¬ matchP e a := fun h => by rw [h.1] at h9; simp at h9
theorem no_match2 {e : En} {a : Ad} {m : Nat} (hm : e.len = (m : Int)) (h24 : eqA (cutM a m) e.a = false) : ¬ matchP e a := fun h => by
  have h2 := h.2
  rw [hm, Int.toNat_natCast] at h2
  rw [(eqA_iff _ _).2 h2] at h24
  cases h24
theorem FindR.skip {l : List En} {a : Ad} {k : Nat} {b : Int} (h : FindR l a k b) (hn : ¬ matchP (l.getD k default) a) : FindR l a (k + 1) b := by
  rcases h with ⟨rfl, h⟩ | ⟨bn, rfl, h1, h2, h3⟩
  · refine .inl ⟨rfl, fun j hj => ?_⟩
    rcases (by omega : j < k ∨ j = k) with h' | rfl
    · exact h j h'
    · exact hn
  · refine .inr ⟨bn, rfl, by omega, h2, fun j hj hm => ?_⟩
    rcases (by omega : j < k ∨ j = k) with h' | rfl
    · exact h3 j h' hm
    · exact absurd hm hn
theorem FindR.take0 {l : List En} {a : Ad} {k : Nat} {b : Int} (h : FindR l a k b) (hb : b < 0) (hm : matchP (l.getD k default) a) : FindR l a (k + 1) (k : Int) := by
  rcases h with ⟨rfl, h⟩ | ⟨bn, rfl, h1, h2, h3⟩
  · refine .inr ⟨k, rfl, by omega, hm, fun j hj hmj => ?_⟩
    rcases (by omega : j < k ∨ j = k) with h' | rfl
    · exact absurd hmj (h j h')
    · exact Int.le_refl _
  · omega
theorem FindR.take {l : List En} {a : Ad} {k bn m : Nat} (hbx : ∀ j, j < k → matchP (l.getD j default) a → (l.getD j default).len ≤ (l.getD bn default).len) (hml : (l.getD k default).len = (m : Int)) (hm : matchP (l.getD k default) a) (hlt : (l.getD bn default).len < (m : Int)) : FindR l a (k + 1) (k : Int) := by
  refine .inr ⟨k, rfl, by omega, hm, fun j hj hmj => ?_⟩
  rcases (by omega : j < k ∨ j = k) with h' | rfl
  · have := hbx j h' hmj
    omega
  · exact Int.le_refl _
theorem FindR.keep {l : List En} {a : Ad} {k bn m : Nat} (hbk : bn < k) (hbm : matchP (l.getD bn default) a) (hbx : ∀ j, j < k → matchP (l.getD j default) a → (l.getD j default).len ≤ (l.getD bn default).len) (hml : (l.getD k default).len = (m : Int)) (hle : (m : Int) ≤ (l.getD bn default).len) : FindR l a (k + 1) (bn : Int) := by
  refine .inr ⟨bn, rfl, by omega, hbm, fun j hj hmj => ?_⟩
  rcases (by omega : j < k ∨ j = k) with h' | rfl
  · exact hbx j h' hmj
  · omega
set_option maxRecDepth 100000 in
set_option maxHeartbeats 8000000 in
theorem lrfind_c (L : Option Addr) (n c : Nat) (l : List En) (a : Ad) (w0 : World) (hv : View w0 w0.heap.size L (flat enV l)) (hl : l.length = n) (hn : n ≤ 1000) (hla : adLim a) (hrt : ∀ e ∈ l, ∃ m : Nat, e.len = (m : Int) ∧ pfR e.a m) :
    Calls Try.prog 8 #[.slice L n c, .agg a.V.toArray] w0 fun e w' => ∃ r : Int, e = .returned (.int .i64 r) ∧ (adRight a → FindR l a n r) ∧ (¬ adRight a → r = -1) ∧ Kp [] w0 w' := by
  have hS := (St.sv w0).vcons rfl hv
  have hfl := flat_length (enc := enV) (l := l) enV_len
  by_cases hr : adRight a
  case neg =>
    refine ent (n := 60) Try.func8 rfl rfl ?_
    refine wp_seq_k ?_; intro K1 hK1
    refine wlit ?_
    refine wl_e rfl ?_; intro K hK
    refine ow_box hS (tmA rfl rfl) rfl ?_
    clear hS; intro g0_0 w hg0_0 hS
    refine hK _ _ ?_; clear hK K
    refine wl_v (x_assign (ev_cN 0)) ?_
    refine wl_nil ?_
    refine then_n (hK1 _ _ ?_); clear hK1 K1
    refine wp_seq_k ?_; intro K2 hK2
    refine wlit ?_
    refine wl_v (x_assign ev_c) ?_
    refine wl_nil ?_
    refine then_n (hK2 _ _ ?_); clear hK2 K2
    refine wp_seq_k ?_; intro K3 hK3
    refine wp_seq_k ?_; intro K4 hK4
    refine wlit ?_
    refine wl_v (x_assign (ev_cN 0)) ?_
    refine wl_nil ?_
    refine then_n (hK4 _ _ ?_); clear hK4 K4
    refine wp_block ?_
    refine lp [5, 6, 7, 8, 9, 10, 11, 12, 13, 14, 15, 16, 17, 18, 19, 20, 21, 22, 23, 24, 25, 26, 27, 28, 29, 30, 31, 32, 33, 34, 35, 36, 37, 38, 39, 40, 41, 42, 43, 44, 45, 46, 47, 48, 49, 50, 51, 52, 53, 54, 55, 56, 57, 58] (fun mz g w => ∃ (k : Nat), mz = n - k ∧ g 6 = .int .i64 (k : Int) ∧ g 5 = .int .i64 (-1) ∧ St [] w0 [.blk g0_0 25 a.V, .vw L (flat enV l)] w ∧ (k ≤ n)) ?_ ?_
    · exact ⟨_, 0, rfl, (by first | rfl | go_num | exact congrArg (Value.int _) (by first | omega | (simp; done) | (simp; omega))), (by first | rfl | go_num | exact congrArg (Value.int _) (by first | omega | (simp; done) | (simp; omega))), hS, (by omega)⟩
    · clear hS; intro mz g w hI
      obtain ⟨k, rfl, hs6, hs5, hS, hk⟩ := hI
      refine fr_know (d := 6) hs6 ?_; clear hs6
      refine fr_know (d := 5) hs5 ?_; clear hs5
      refine wp_seq_k ?_; intro K5 hK5
      refine wp_seq_k ?_; intro K6 hK6
      refine wlit ?_
      refine wl_v (x_move (tmI rfl rfl)) ?_
      refine wl_v (x_move (tmS rfl rfl)) ?_
      refine wl_v (x_len Try.underlying28 (tmS rfl rfl)) ?_
      refine wl_v (x_lss (tmI rfl rfl) (tmI rfl rfl)) ?_
      refine wl_v (x_move (tmB rfl rfl)) ?_
      refine gs_wl (tm (t := 11) rfl) (fun hg3_4 => ?_) (fun hg3_4 => ?_)
      · have hg3_4' := hg3_4; (try simp only [nrm] at hg3_4'); try (exfalso; first | with_reducible exact absurd hg3_4 Bool.false_ne_true | with_reducible exact absurd hg3_4.symm Bool.false_ne_true | omega | (simp at hg3_4; done))
        all_goals
         refine wl_gv (want_y rfl rfl rfl rfl (by rw [hg3_4]; rfl)) (x_loadA (cs := [_, _, _]) Try.underlying25 rfl ts_25 (tmP rfl rfl) (rangeB hS.ok 0 rfl rfl)) ?_
         refine wl_g (want_y rfl rfl rfl rfl (by rw [hg3_4]; rfl)) ?_; intro K hK
         refine ow_call Try.func22 rfl rfl (evs_cons (tmA rfl rfl) <| evs_nil) (rad_right_c a _) ?_
         rintro e w ⟨rfl, hk2⟩
         refine ⟨_, rfl, ?_⟩
         replace hS := hS.kept hk2
         clear hk2
         refine hK _ _ ?_; clear hK K
         refine wl_v (x_pickT (tmB rfl rfl) hg3_4 (tmB rfl rfl)) ?_
         refine wl_nil ?_
         refine then_n (hK6 _ _ ?_); clear hK6 K6
         refine cnd (tm rfl) (fun hc0 => ?_) (fun hc0 => ?_)
         · exfalso
           simp [hr] at hc0
         try (exfalso; first | with_reducible exact absurd hc0 Bool.false_ne_true | with_reducible exact absurd hc0.symm Bool.false_ne_true | (simp only [nrm] at hc0; omega) | (simp at hc0; done))
         all_goals
          try simp only [nrm] at hc0
          refine wp_exit ?_
          refine then_x ?_; clear hK5 K5
          refine then_x ?_
          refine inb_x ?_
          refine then_n (hK3 _ _ ?_); clear hK3 K3
          refine wp_seq_k ?_; intro K7 hK7
          refine wlit ?_
          refine wl_v (x_move (tmI rfl rfl)) ?_
          refine wl_v (x_assign (tmI rfl rfl)) ?_
          refine wl_nil ?_
          refine then_n (hK7 _ _ ?_); clear hK7 K7
          refine wp_ret ?_
          refine ret1 rfl (.tmp rfl (show _ = Value.int _ _ from rfl)) ?_
          exact ⟨_, rfl, fun h => absurd h hr, fun _ => rfl, hS.kp⟩
      have hg3_4' := hg3_4; (try simp only [nrm] at hg3_4'); try (exfalso; first | with_reducible exact absurd hg3_4 Bool.false_ne_true | with_reducible exact absurd hg3_4.symm Bool.false_ne_true | omega | (simp at hg3_4; done))
      all_goals
       refine wl_s rfl (want_n rfl rfl rfl rfl (by rw [hg3_4]; rfl)) ?_
       refine wl_s rfl (want_n rfl rfl rfl rfl (by rw [hg3_4]; rfl)) ?_
       refine wl_v (x_pickF (tmB rfl rfl) hg3_4 ev_c) ?_
       refine wl_nil ?_
       refine then_n (hK6 _ _ ?_); clear hK6 K6
       refine cnd_f (tmB rfl rfl) rfl ?_
       refine wp_exit ?_
       refine then_x ?_; clear hK5 K5
       refine then_x ?_
       refine inb_x ?_
       refine then_n (hK3 _ _ ?_); clear hK3 K3
       refine wp_seq_k ?_; intro K8 hK8
       refine wlit ?_
       refine wl_v (x_move (tmI rfl rfl)) ?_
       refine wl_v (x_assign (tmI rfl rfl)) ?_
       refine wl_nil ?_
       refine then_n (hK8 _ _ ?_); clear hK8 K8
       refine wp_ret ?_
       refine ret1 rfl (.tmp rfl (show _ = Value.int _ _ from rfl)) ?_
       exact ⟨_, rfl, fun h => absurd h hr, fun _ => rfl, hS.kp⟩
  have hget : ∀ k, k < n → ∃ m : Nat, (l.getD k default).len = (m : Int) ∧ pfR (l.getD k default).a m := fun k hk => hrt _ (mem_get (by omega))
  refine ent (n := 60) Try.func8 rfl rfl ?_
  refine wp_seq_k ?_; intro K1 hK1
  refine wlit ?_
  refine wl_e rfl ?_; intro K hK
  refine ow_box hS (tmA rfl rfl) rfl ?_
  clear hS; intro g0_0 w hg0_0 hS
  refine hK _ _ ?_; clear hK K
  refine wl_v (x_assign (ev_cN 0)) ?_
  refine wl_nil ?_
  refine then_n (hK1 _ _ ?_); clear hK1 K1
  refine wp_seq_k ?_; intro K2 hK2
  refine wlit ?_
  refine wl_v (x_assign ev_c) ?_
  refine wl_nil ?_
  refine then_n (hK2 _ _ ?_); clear hK2 K2
  refine wp_seq_k ?_; intro K3 hK3
  refine wp_seq_k ?_; intro K4 hK4
  refine wlit ?_
  refine wl_v (x_assign (ev_cN 0)) ?_
  refine wl_nil ?_
  refine then_n (hK4 _ _ ?_); clear hK4 K4
  refine wp_block ?_
  refine lp [5, 6, 7, 8, 9, 10, 11, 12, 13, 14, 15, 16, 17, 18, 19, 20, 21, 22, 23, 24, 25, 26, 27, 28, 29, 30, 31, 32, 33, 34, 35, 36, 37, 38, 39, 40, 41, 42, 43, 44, 45, 46, 47, 48, 49, 50, 51, 52, 53, 54, 55, 56, 57, 58] (fun mz g w => ∃ (k : Nat), ∃ (b : Int), mz = n - k ∧ g 6 = .int .i64 (k : Int) ∧ g 5 = .int .i64 b ∧ St [] w0 [.blk g0_0 25 a.V, .vw L (flat enV l)] w ∧ (k ≤ n) ∧ (FindR l a k b)) ?_ ?_
  · exact ⟨_, 0, -1, rfl, (by first | rfl | go_num | exact congrArg (Value.int _) (by first | omega | (simp; done) | (simp; omega))), (by first | rfl | go_num | exact congrArg (Value.int _) (by first | omega | (simp; done) | (simp; omega))), hS, (by omega), (by first | exact hb.skip (no_match1 hg5_9) | exact hb.skip (no_match2 hm hg5_24) | exact hb.take0 (by omega) (mk_match hm hg5_9 hg5_24) | exact FindR.take hbx hm (mk_match hm hg5_9 hg5_24) (by omega) | exact FindR.keep hbk hbm hbx hm (by omega) | exact .inl ⟨rfl, fun j hj => absurd hj (Nat.not_lt_zero j)⟩)⟩
  · clear hS; intro mz g w hI
    obtain ⟨k, b, rfl, hs6, hs5, hS, hk, hb⟩ := hI
    refine fr_know (d := 6) hs6 ?_; clear hs6
    refine fr_know (d := 5) hs5 ?_; clear hs5
    refine wp_seq_k ?_; intro K5 hK5
    refine wp_seq_k ?_; intro K6 hK6
    refine wlit ?_
    refine wl_v (x_move (tmI rfl rfl)) ?_
    refine wl_v (x_move (tmS rfl rfl)) ?_
    refine wl_v (x_len Try.underlying28 (tmS rfl rfl)) ?_
    refine wl_v (x_lss (tmI rfl rfl) (tmI rfl rfl)) ?_
    refine wl_v (x_move (tmB rfl rfl)) ?_
    refine gs_wl (tm (t := 11) rfl) (fun hg3_4 => ?_) (fun hg3_4 => ?_)
    · have hg3_4' := hg3_4; (try simp only [nrm] at hg3_4'); try (exfalso; first | with_reducible exact absurd hg3_4 Bool.false_ne_true | with_reducible exact absurd hg3_4.symm Bool.false_ne_true | omega | (simp at hg3_4; done))
      all_goals
       refine wl_gv (want_y rfl rfl rfl rfl (by rw [hg3_4]; rfl)) (x_loadA (cs := [_, _, _]) Try.underlying25 rfl ts_25 (tmP rfl rfl) (rangeB hS.ok 0 rfl rfl)) ?_
       refine wl_g (want_y rfl rfl rfl rfl (by rw [hg3_4]; rfl)) ?_; intro K hK
       refine ow_call Try.func22 rfl rfl (evs_cons (tmA rfl rfl) <| evs_nil) (rad_right_c a _) ?_
       rintro e w ⟨rfl, hk2⟩
       refine ⟨_, rfl, ?_⟩
       replace hS := hS.kept hk2
       clear hk2
       refine hK _ _ ?_; clear hK K
       refine wl_v (x_pickT (tmB rfl rfl) hg3_4 (tmB rfl rfl)) ?_
       refine wl_nil ?_
       refine then_n (hK6 _ _ ?_); clear hK6 K6
       refine cnd (tm rfl) (fun hc0 => ?_) (fun hc0 => ?_)
       · try (exfalso; first | with_reducible exact absurd hc0 Bool.false_ne_true | with_reducible exact absurd hc0.symm Bool.false_ne_true | (simp only [nrm] at hc0; omega) | (simp at hc0; done))
         all_goals
          try simp only [nrm] at hc0
          refine wp_skip ?_
          refine then_n (hK5 _ _ ?_); clear hK5 K5
          refine wp_seq_k ?_; intro K7 hK7
          refine wp_block ?_
          refine wp_seq_k ?_; intro K8 hK8
          obtain ⟨b4, o4, rfl⟩ := view_some (viewV hS.ok 1 rfl) (by rw [hfl]; omega)
          obtain ⟨m, hm, hpf⟩ := hget k (by omega)
          have hml : m ≤ 128 := by have := hpf.2.2.1; unfold adBits at this; split at this <;> omega
          refine rg_startk 0 hS mixed_ ?_
          clear hS; intro w hS
          refine rg_take 0 rfl rfl (by kernel_rfl) (by kernel_rfl) (by kernel_rfl) (want_0) (fun w hok => x_move (tmS rfl rfl)) ?_
          refine rg_take 1 rfl rfl (by kernel_rfl) (by kernel_rfl) (by kernel_rfl) (want_0) (fun w hok => x_move (tmI rfl rfl)) ?_
          refine rg_take 2 rfl rfl (by kernel_rfl) (by kernel_rfl) (by kernel_rfl) (want_0) (fun w hok => x_ixs Try.underlying28 ts_37 (tmS rfl rfl) (tmI rfl rfl) (by omega)) ?_
          refine rg_take 3 rfl rfl (by kernel_rfl) (by kernel_rfl) (by kernel_rfl) (want_0) (fun w hok => x_fa 0 Try.underlying37 rfl rfl ts_25 (tmP rfl rfl)) ?_
          refine rg_take 4 rfl rfl (by kernel_rfl) (by kernel_rfl) (by kernel_rfl) (want_0) (fun w hok => x_fa 0 Try.underlying25 rfl rfl ts_4 (tmP rfl rfl)) ?_
          refine rg_take 5 rfl rfl (by kernel_rfl) (by kernel_rfl) (by kernel_rfl) (want_0) (fun w hok => x_load (v := .bool (l.getD k default).a.six) Try.underlying4 rfl (tmP rfl rfl) (cellVs (l := l) (enc := enV) (j := k) (o := 0) hok 1 rfl enV_len rfl (by omega) rfl)) ?_
          refine rg_take 6 rfl rfl (by kernel_rfl) (by kernel_rfl) (by kernel_rfl) (want_0) (fun w hok => x_fa 0 Try.underlying25 rfl rfl ts_4 (tmP rfl rfl)) ?_
          first
           | refine rg_take 7 rfl rfl (by kernel_rfl) (by kernel_rfl) (by kernel_rfl) (want_0) (fun w hok => x_load Try.underlying4 rfl (tmP rfl rfl) (cellB hok 0 rfl rfl)) ?_
           | refine rg_take 7 rfl rfl (by kernel_rfl) (by kernel_rfl) (by kernel_rfl) (want_0) (fun w hok => x_load Try.underlying4 rfl (tmP rfl rfl) (cellB hok 0 rfl (getm (by omega)))) ?_
          refine rg_take 8 rfl rfl (by kernel_rfl) (by kernel_rfl) (by kernel_rfl) (want_0) (fun w hok => x_beql Try.underlying4 (tmB rfl rfl) (tmB rfl rfl)) ?_
          refine rg_take 9 rfl rfl (by kernel_rfl) (by kernel_rfl) (by kernel_rfl) (want_0) (fun w hok => x_move (tmB rfl rfl)) ?_
          refine gs_rg (tm (t := 26) rfl) (fun hg5_9 => ?_) (fun hg5_9 => ?_)
          · have hg5_9' := hg5_9; (try simp only [nrm] at hg5_9'); try (exfalso; first | with_reducible exact absurd hg5_9 Bool.false_ne_true | with_reducible exact absurd hg5_9.symm Bool.false_ne_true | omega | (simp at hg5_9; done))
            all_goals
             have hzz : min (max (m : Int) 0) (adBits a : Int) = (m : Int) := by
               have h1 := hpf.2.2.1
               have h2 : adBits (l.getD k default).a = adBits a := by unfold adBits; rw [show (l.getD k default).a.six = a.six from by simpa using hg5_9]
               omega
             refine rg_take 10 rfl rfl (by kernel_rfl) (by kernel_rfl) (by kernel_rfl) (want_y rfl rfl rfl rfl (by rw [hg5_9]; rfl)) (fun w hok => x_loadA (cs := [_, _, _]) Try.underlying25 rfl ts_25 (tmP rfl rfl) (rangeB hok 0 rfl rfl)) ?_
             refine rg_take 11 rfl rfl (by kernel_rfl) (by kernel_rfl) (by kernel_rfl) (want_y rfl rfl rfl rfl (by rw [hg5_9]; rfl)) (fun w hok => x_move (tmS rfl rfl)) ?_
             refine rg_take 12 rfl rfl (by kernel_rfl) (by kernel_rfl) (by kernel_rfl) (want_y rfl rfl rfl rfl (by rw [hg5_9]; rfl)) (fun w hok => x_move (tmI rfl rfl)) ?_
             refine rg_take 13 rfl rfl (by kernel_rfl) (by kernel_rfl) (by kernel_rfl) (want_y rfl rfl rfl rfl (by rw [hg5_9]; rfl)) (fun w hok => x_ixs Try.underlying28 ts_37 (tmS rfl rfl) (tmI rfl rfl) (by omega)) ?_
             refine rg_take 14 rfl rfl (by kernel_rfl) (by kernel_rfl) (by kernel_rfl) (want_y rfl rfl rfl rfl (by rw [hg5_9]; rfl)) (fun w hok => x_fa 3 Try.underlying37 rfl rfl ts_3 (tmP rfl rfl)) ?_
             refine rg_take 15 rfl rfl (by kernel_rfl) (by kernel_rfl) (by kernel_rfl) (want_y rfl rfl rfl rfl (by rw [hg5_9]; rfl)) (fun w hok => x_load (v := .int .i64 (m : Int)) Try.underlying3 rfl (tmP rfl rfl) (by rw [← hm]; exact (cellVs (l := l) (enc := enV) (j := k) (o := 3) hok 1 rfl enV_len rfl (by omega) rfl))) ?_
             refine rg_take 17 rfl rfl (by kernel_rfl) (by kernel_rfl) (by kernel_rfl) (want_y rfl rfl rfl rfl (by rw [hg5_9]; rfl)) (fun w hok => x_move (tmS rfl rfl)) ?_
             refine rg_take 18 rfl rfl (by kernel_rfl) (by kernel_rfl) (by kernel_rfl) (want_y rfl rfl rfl rfl (by rw [hg5_9]; rfl)) (fun w hok => x_move (tmI rfl rfl)) ?_
             refine rg_take 19 rfl rfl (by kernel_rfl) (by kernel_rfl) (by kernel_rfl) (want_y rfl rfl rfl rfl (by rw [hg5_9]; rfl)) (fun w hok => x_ixs Try.underlying28 ts_37 (tmS rfl rfl) (tmI rfl rfl) (by omega)) ?_
             refine rg_take 20 rfl rfl (by kernel_rfl) (by kernel_rfl) (by kernel_rfl) (want_y rfl rfl rfl rfl (by rw [hg5_9]; rfl)) (fun w hok => x_fa 0 Try.underlying37 rfl rfl ts_25 (tmP rfl rfl)) ?_
             refine rg_take 21 rfl rfl (by kernel_rfl) (by kernel_rfl) (by kernel_rfl) (want_y rfl rfl rfl rfl (by rw [hg5_9]; rfl)) (fun w hok => x_loadA (cs := (l.getD k default).a.V) Try.underlying25 rfl (by exact ts_25) (tmP rfl rfl) (range_sub (rangeVs (l := l) (enc := enV) (j := k) hok 1 rfl enV_len (by omega)) 0 rfl)) ?_
             refine rg_step 16 rfl (by kernel_rfl) (want_y rfl rfl rfl rfl (by rw [hg5_9]; rfl)) (oks_drop hS 0 rfl) ?_; intro K hK
             refine ow_call Try.func23 rfl rfl (evs_cons (tmA rfl rfl) <| evs_cons (tmI rfl rfl) <| evs_nil) (rcut_c a (m : Int) m _ hla hr hzz) ?_
             rintro e w ⟨rfl, hk2⟩
             refine ⟨_, rfl, ?_⟩
             replace hS := hS.kept hk2
             clear hk2
             refine hK _ _ ?_; clear hK K
             refine rg_take 22 rfl rfl (by kernel_rfl) (by kernel_rfl) (by kernel_rfl) (want_y rfl rfl rfl rfl (by rw [hg5_9]; rfl)) (fun w hok => x_Aeql (by kernel_rfl) (tmA rfl rfl) (tmA rfl rfl) (eqv_A Try.underlying25 (by kernel_rfl) (fe_cons rfl (pt_1 Try.underlying4 rfl rfl) (pt_1 Try.underlying4 rfl rfl) (eqv_b Try.underlying4) <| fe_cons rfl (pt_1 Try.underlying23 rfl rfl) (pt_1 Try.underlying23 rfl rfl) (eqv_i Try.underlying23) <| fe_cons rfl (pt_1 Try.underlying23 rfl rfl) (pt_1 Try.underlying23 rfl rfl) (eqv_i Try.underlying23) <| fe_nil))) ?_
             refine rg_take 23 rfl rfl (by kernel_rfl) (by kernel_rfl) (by kernel_rfl) (want_0) (fun w hok => x_pickT (tmB rfl rfl) hg5_9 (tmB rfl rfl)) ?_
             refine rg_take 24 rfl rfl (by kernel_rfl) (by kernel_rfl) (by kernel_rfl) (want_0) (fun w hok => x_move (tmB rfl rfl)) ?_
             refine gs_rg (tm (t := 41) rfl) (fun hg5_24 => ?_) (fun hg5_24 => ?_)
             · have hg5_24' := hg5_24; (try simp only [nrm] at hg5_24'); try (exfalso; first | with_reducible exact absurd hg5_24 Bool.false_ne_true | with_reducible exact absurd hg5_24.symm Bool.false_ne_true | omega | (simp at hg5_24; done))
               all_goals
                refine rg_take 25 rfl rfl (by kernel_rfl) (by kernel_rfl) (by kernel_rfl) (want_y rfl rfl rfl rfl (by rw [hg5_24]; rfl)) (fun w hok => x_move (tmI rfl rfl)) ?_
                refine rg_take 26 rfl rfl (by kernel_rfl) (by kernel_rfl) (by kernel_rfl) (want_y rfl rfl rfl rfl (by rw [hg5_24]; rfl)) (fun w hok => x_lss (tmI rfl rfl) (ev_cN 0)) ?_
                refine rg_take 27 rfl rfl (by kernel_rfl) (by kernel_rfl) (by kernel_rfl) (want_y rfl rfl rfl rfl (by rw [hg5_24]; rfl)) (fun w hok => x_move (tmB rfl rfl)) ?_
                refine gs_rg (tm (t := 44) rfl) (fun hg5_27 => ?_) (fun hg5_27 => ?_)
                · have hg5_27' := hg5_27; (try simp only [nrm] at hg5_27'); try (exfalso; first | with_reducible exact absurd hg5_27 Bool.false_ne_true | with_reducible exact absurd hg5_27.symm Bool.false_ne_true | omega | (simp at hg5_27; done))
                  all_goals
                   refine rg_skip 28 rfl rfl (by kernel_rfl) (by kernel_rfl) (by kernel_rfl) (want_n rfl rfl rfl rfl (by rw [hg5_27]; rfl)) ?_
                   refine rg_skip 29 rfl rfl (by kernel_rfl) (by kernel_rfl) (by kernel_rfl) (want_n rfl rfl rfl rfl (by rw [hg5_27]; rfl)) ?_
                   refine rg_skip 30 rfl rfl (by kernel_rfl) (by kernel_rfl) (by kernel_rfl) (want_n rfl rfl rfl rfl (by rw [hg5_27]; rfl)) ?_
                   refine rg_skip 31 rfl rfl (by kernel_rfl) (by kernel_rfl) (by kernel_rfl) (want_n rfl rfl rfl rfl (by rw [hg5_27]; rfl)) ?_
                   refine rg_skip 32 rfl rfl (by kernel_rfl) (by kernel_rfl) (by kernel_rfl) (want_n rfl rfl rfl rfl (by rw [hg5_27]; rfl)) ?_
                   refine rg_skip 33 rfl rfl (by kernel_rfl) (by kernel_rfl) (by kernel_rfl) (want_n rfl rfl rfl rfl (by rw [hg5_27]; rfl)) ?_
                   refine rg_skip 34 rfl rfl (by kernel_rfl) (by kernel_rfl) (by kernel_rfl) (want_n rfl rfl rfl rfl (by rw [hg5_27]; rfl)) ?_
                   refine rg_skip 35 rfl rfl (by kernel_rfl) (by kernel_rfl) (by kernel_rfl) (want_n rfl rfl rfl rfl (by rw [hg5_27]; rfl)) ?_
                   refine rg_skip 36 rfl rfl (by kernel_rfl) (by kernel_rfl) (by kernel_rfl) (want_n rfl rfl rfl rfl (by rw [hg5_27]; rfl)) ?_
                   refine rg_skip 37 rfl rfl (by kernel_rfl) (by kernel_rfl) (by kernel_rfl) (want_n rfl rfl rfl rfl (by rw [hg5_27]; rfl)) ?_
                   refine rg_skip 38 rfl rfl (by kernel_rfl) (by kernel_rfl) (by kernel_rfl) (want_n rfl rfl rfl rfl (by rw [hg5_27]; rfl)) ?_
                   refine rg_take 39 rfl rfl (by kernel_rfl) (by kernel_rfl) (by kernel_rfl) (want_y rfl rfl rfl rfl (by rw [hg5_24]; rfl)) (fun w hok => x_pickT (tmB rfl rfl) hg5_27 ev_c) ?_
                   refine rg_take 40 rfl rfl (by kernel_rfl) (by kernel_rfl) (by kernel_rfl) (want_0) (fun w hok => x_pickT (tmB rfl rfl) hg5_24 (tmB rfl rfl)) ?_
                   refine rg_done (oks_drop hS 0 rfl) (by kernel_rfl) ?_
                   refine then_n (hK8 _ _ ?_); clear hK8 K8
                   refine cnd_t (tmB rfl rfl) rfl ?_
                   refine wlit ?_
                   refine wl_v (x_move (tmI rfl rfl)) ?_
                   refine wl_v (x_assign (tmI rfl rfl)) ?_
                   refine wl_nil ?_
                   refine inb_n ?_
                   refine then_n (hK7 _ _ ?_); clear hK7 K7
                   refine wlit ?_
                   refine wl_v (x_move (tmI rfl rfl)) ?_
                   first
                    | refine wl_v (x_addN (tmI rfl rfl) (ev_cN 1) (fit_i64 (by omega))) ?_
                    | refine wl_v (x_addI (tmI rfl rfl) (ev_cN 1) (IntWalk.i64_in _ (by omega))) ?_
                    | refine wl_v (x_add (tmI rfl rfl) (ev_cN 1)) ?_
                   refine wl_v (x_assign (tmI rfl rfl)) ?_
                   refine wl_nil ?_
                   exact then_n ⟨_, _, rfl, (by show _ < _; omega), (by repeat (first | exact agree_self | exact agree_refl | refine agree_upd rfl ?_ | refine agree_mix rfl ?_)), k + 1, _, rfl, (by first | rfl | go_num | exact congrArg (Value.int _) (by first | omega | (simp; done) | (simp; omega))), (by first | rfl | go_num | exact congrArg (Value.int _) (by first | omega | (simp; done) | (simp; omega))), hS, (by omega), (by first | exact hb.skip (no_match1 hg5_9) | exact hb.skip (no_match2 hm hg5_24) | exact hb.take0 (by omega) (mk_match hm hg5_9 hg5_24) | exact FindR.take hbx hm (mk_match hm hg5_9 hg5_24) (by omega) | exact FindR.keep hbk hbm hbx hm (by omega) | exact .inl ⟨rfl, fun j hj => absurd hj (Nat.not_lt_zero j)⟩)⟩
                have hg5_27' := hg5_27; (try simp only [nrm] at hg5_27'); try (exfalso; first | with_reducible exact absurd hg5_27 Bool.false_ne_true | with_reducible exact absurd hg5_27.symm Bool.false_ne_true | omega | (simp at hg5_27; done))
                all_goals
                 obtain ⟨bn, hbn, hbk, hbm, hbx⟩ : ∃ bn : Nat, b = (bn : Int) ∧ bn < k ∧ matchP (l.getD bn default) a ∧ ∀ j, j < k → matchP (l.getD j default) a → (l.getD j default).len ≤ (l.getD bn default).len := by
                   rcases hb with ⟨h, _⟩ | h
                   · exfalso; omega
                   · exact h
                 subst hbn
                 refine rg_take 28 rfl rfl (by kernel_rfl) (by kernel_rfl) (by kernel_rfl) (want_y rfl rfl rfl rfl (by rw [hg5_27]; rfl)) (fun w hok => x_move (tmS rfl rfl)) ?_
                 refine rg_take 29 rfl rfl (by kernel_rfl) (by kernel_rfl) (by kernel_rfl) (want_y rfl rfl rfl rfl (by rw [hg5_27]; rfl)) (fun w hok => x_move (tmI rfl rfl)) ?_
                 refine rg_take 30 rfl rfl (by kernel_rfl) (by kernel_rfl) (by kernel_rfl) (want_y rfl rfl rfl rfl (by rw [hg5_27]; rfl)) (fun w hok => x_ixs Try.underlying28 ts_37 (tmS rfl rfl) (tmI rfl rfl) (by omega)) ?_
                 refine rg_take 31 rfl rfl (by kernel_rfl) (by kernel_rfl) (by kernel_rfl) (want_y rfl rfl rfl rfl (by rw [hg5_27]; rfl)) (fun w hok => x_fa 3 Try.underlying37 rfl rfl ts_3 (tmP rfl rfl)) ?_
                 refine rg_take 32 rfl rfl (by kernel_rfl) (by kernel_rfl) (by kernel_rfl) (want_y rfl rfl rfl rfl (by rw [hg5_27]; rfl)) (fun w hok => x_load (v := .int .i64 (m : Int)) Try.underlying3 rfl (tmP rfl rfl) (by rw [← hm]; exact (cellVs (l := l) (enc := enV) (j := k) (o := 3) hok 1 rfl enV_len rfl (by omega) rfl))) ?_
                 refine rg_take 33 rfl rfl (by kernel_rfl) (by kernel_rfl) (by kernel_rfl) (want_y rfl rfl rfl rfl (by rw [hg5_27]; rfl)) (fun w hok => x_move (tmS rfl rfl)) ?_
                 refine rg_take 34 rfl rfl (by kernel_rfl) (by kernel_rfl) (by kernel_rfl) (want_y rfl rfl rfl rfl (by rw [hg5_27]; rfl)) (fun w hok => x_move (tmI rfl rfl)) ?_
                 refine rg_take 35 rfl rfl (by kernel_rfl) (by kernel_rfl) (by kernel_rfl) (want_y rfl rfl rfl rfl (by rw [hg5_27]; rfl)) (fun w hok => x_ixs Try.underlying28 ts_37 (tmS rfl rfl) (tmI rfl rfl) (by omega)) ?_
                 refine rg_take 36 rfl rfl (by kernel_rfl) (by kernel_rfl) (by kernel_rfl) (want_y rfl rfl rfl rfl (by rw [hg5_27]; rfl)) (fun w hok => x_fa 3 Try.underlying37 rfl rfl ts_3 (tmP rfl rfl)) ?_
                 refine rg_take 37 rfl rfl (by kernel_rfl) (by kernel_rfl) (by kernel_rfl) (want_y rfl rfl rfl rfl (by rw [hg5_27]; rfl)) (fun w hok => x_load (v := .int .i64 (l.getD bn default).len) Try.underlying3 rfl (tmP rfl rfl) (cellVs (l := l) (enc := enV) (j := bn) (o := 3) hok 1 rfl enV_len rfl (by omega) rfl)) ?_
                 refine rg_take 38 rfl rfl (by kernel_rfl) (by kernel_rfl) (by kernel_rfl) (want_y rfl rfl rfl rfl (by rw [hg5_27]; rfl)) (fun w hok => x_gtr (tmI rfl rfl) (tmI rfl rfl)) ?_
                 refine rg_take 39 rfl rfl (by kernel_rfl) (by kernel_rfl) (by kernel_rfl) (want_y rfl rfl rfl rfl (by rw [hg5_24]; rfl)) (fun w hok => x_pickF (tmB rfl rfl) hg5_27 (tmB rfl rfl)) ?_
                 refine rg_take 40 rfl rfl (by kernel_rfl) (by kernel_rfl) (by kernel_rfl) (want_0) (fun w hok => x_pickT (tmB rfl rfl) hg5_24 (tmB rfl rfl)) ?_
                 refine rg_done (oks_drop hS 0 rfl) (by kernel_rfl) ?_
                 refine then_n (hK8 _ _ ?_); clear hK8 K8
                 refine cnd (tm rfl) (fun hc1 => ?_) (fun hc1 => ?_)
                 · try (exfalso; first | with_reducible exact absurd hc1 Bool.false_ne_true | with_reducible exact absurd hc1.symm Bool.false_ne_true | (simp only [nrm] at hc1; omega) | (simp at hc1; done))
                   all_goals
                    try simp only [nrm] at hc1
                    refine wlit ?_
                    refine wl_v (x_move (tmI rfl rfl)) ?_
                    refine wl_v (x_assign (tmI rfl rfl)) ?_
                    refine wl_nil ?_
                    refine inb_n ?_
                    refine then_n (hK7 _ _ ?_); clear hK7 K7
                    refine wlit ?_
                    refine wl_v (x_move (tmI rfl rfl)) ?_
                    first
                     | refine wl_v (x_addN (tmI rfl rfl) (ev_cN 1) (fit_i64 (by omega))) ?_
                     | refine wl_v (x_addI (tmI rfl rfl) (ev_cN 1) (IntWalk.i64_in _ (by omega))) ?_
                     | refine wl_v (x_add (tmI rfl rfl) (ev_cN 1)) ?_
                    refine wl_v (x_assign (tmI rfl rfl)) ?_
                    refine wl_nil ?_
                    exact then_n ⟨_, _, rfl, (by show _ < _; omega), (by repeat (first | exact agree_self | exact agree_refl | refine agree_upd rfl ?_ | refine agree_mix rfl ?_)), k + 1, _, rfl, (by first | rfl | go_num | exact congrArg (Value.int _) (by first | omega | (simp; done) | (simp; omega))), (by first | rfl | go_num | exact congrArg (Value.int _) (by first | omega | (simp; done) | (simp; omega))), hS, (by omega), (by first | exact hb.skip (no_match1 hg5_9) | exact hb.skip (no_match2 hm hg5_24) | exact hb.take0 (by omega) (mk_match hm hg5_9 hg5_24) | exact FindR.take hbx hm (mk_match hm hg5_9 hg5_24) (by omega) | exact FindR.keep hbk hbm hbx hm (by omega) | exact .inl ⟨rfl, fun j hj => absurd hj (Nat.not_lt_zero j)⟩)⟩
                 try (exfalso; first | with_reducible exact absurd hc1 Bool.false_ne_true | with_reducible exact absurd hc1.symm Bool.false_ne_true | (simp only [nrm] at hc1; omega) | (simp at hc1; done))
                 all_goals
                  try simp only [nrm] at hc1
                  refine wp_skip ?_
                  refine inb_n ?_
                  refine then_n (hK7 _ _ ?_); clear hK7 K7
                  refine wlit ?_
                  refine wl_v (x_move (tmI rfl rfl)) ?_
                  first
                   | refine wl_v (x_addN (tmI rfl rfl) (ev_cN 1) (fit_i64 (by omega))) ?_
                   | refine wl_v (x_addI (tmI rfl rfl) (ev_cN 1) (IntWalk.i64_in _ (by omega))) ?_
                   | refine wl_v (x_add (tmI rfl rfl) (ev_cN 1)) ?_
                  refine wl_v (x_assign (tmI rfl rfl)) ?_
                  refine wl_nil ?_
                  exact then_n ⟨_, _, rfl, (by show _ < _; omega), (by repeat (first | exact agree_self | exact agree_refl | refine agree_upd rfl ?_ | refine agree_mix rfl ?_)), k + 1, _, rfl, (by first | rfl | go_num | exact congrArg (Value.int _) (by first | omega | (simp; done) | (simp; omega))), (by first | rfl | go_num | exact congrArg (Value.int _) (by first | omega | (simp; done) | (simp; omega))), hS, (by omega), (by first | exact hb.skip (no_match1 hg5_9) | exact hb.skip (no_match2 hm hg5_24) | exact hb.take0 (by omega) (mk_match hm hg5_9 hg5_24) | exact FindR.take hbx hm (mk_match hm hg5_9 hg5_24) (by omega) | exact FindR.keep hbk hbm hbx hm (by omega) | exact .inl ⟨rfl, fun j hj => absurd hj (Nat.not_lt_zero j)⟩)⟩
             have hg5_24' := hg5_24; (try simp only [nrm] at hg5_24'); try (exfalso; first | with_reducible exact absurd hg5_24 Bool.false_ne_true | with_reducible exact absurd hg5_24.symm Bool.false_ne_true | omega | (simp at hg5_24; done))
             all_goals
              refine rg_skip 25 rfl rfl (by kernel_rfl) (by kernel_rfl) (by kernel_rfl) (want_n rfl rfl rfl rfl (by rw [hg5_24]; rfl)) ?_
              refine rg_skip 26 rfl rfl (by kernel_rfl) (by kernel_rfl) (by kernel_rfl) (want_n rfl rfl rfl rfl (by rw [hg5_24]; rfl)) ?_
              refine rg_skip 27 rfl rfl (by kernel_rfl) (by kernel_rfl) (by kernel_rfl) (want_n rfl rfl rfl rfl (by rw [hg5_24]; rfl)) ?_
              refine rg_skip 28 rfl rfl (by kernel_rfl) (by kernel_rfl) (by kernel_rfl) (want_u rfl rfl rfl rfl) ?_
              refine rg_skip 29 rfl rfl (by kernel_rfl) (by kernel_rfl) (by kernel_rfl) (want_u rfl rfl rfl rfl) ?_
              refine rg_skip 30 rfl rfl (by kernel_rfl) (by kernel_rfl) (by kernel_rfl) (want_u rfl rfl rfl rfl) ?_
              refine rg_skip 31 rfl rfl (by kernel_rfl) (by kernel_rfl) (by kernel_rfl) (want_u rfl rfl rfl rfl) ?_
              refine rg_skip 32 rfl rfl (by kernel_rfl) (by kernel_rfl) (by kernel_rfl) (want_u rfl rfl rfl rfl) ?_
              refine rg_skip 33 rfl rfl (by kernel_rfl) (by kernel_rfl) (by kernel_rfl) (want_u rfl rfl rfl rfl) ?_
              refine rg_skip 34 rfl rfl (by kernel_rfl) (by kernel_rfl) (by kernel_rfl) (want_u rfl rfl rfl rfl) ?_
              refine rg_skip 35 rfl rfl (by kernel_rfl) (by kernel_rfl) (by kernel_rfl) (want_u rfl rfl rfl rfl) ?_
              refine rg_skip 36 rfl rfl (by kernel_rfl) (by kernel_rfl) (by kernel_rfl) (want_u rfl rfl rfl rfl) ?_
              refine rg_skip 37 rfl rfl (by kernel_rfl) (by kernel_rfl) (by kernel_rfl) (want_u rfl rfl rfl rfl) ?_
              refine rg_skip 38 rfl rfl (by kernel_rfl) (by kernel_rfl) (by kernel_rfl) (want_u rfl rfl rfl rfl) ?_
              refine rg_skip 39 rfl rfl (by kernel_rfl) (by kernel_rfl) (by kernel_rfl) (want_n rfl rfl rfl rfl (by rw [hg5_24]; rfl)) ?_
              refine rg_take 40 rfl rfl (by kernel_rfl) (by kernel_rfl) (by kernel_rfl) (want_0) (fun w hok => x_pickF (tmB rfl rfl) hg5_24 ev_c) ?_
              refine rg_done (oks_drop hS 0 rfl) (by kernel_rfl) ?_
              refine then_n (hK8 _ _ ?_); clear hK8 K8
              refine cnd_f (tmB rfl rfl) rfl ?_
              refine wp_skip ?_
              refine inb_n ?_
              refine then_n (hK7 _ _ ?_); clear hK7 K7
              refine wlit ?_
              refine wl_v (x_move (tmI rfl rfl)) ?_
              first
               | refine wl_v (x_addN (tmI rfl rfl) (ev_cN 1) (fit_i64 (by omega))) ?_
               | refine wl_v (x_addI (tmI rfl rfl) (ev_cN 1) (IntWalk.i64_in _ (by omega))) ?_
               | refine wl_v (x_add (tmI rfl rfl) (ev_cN 1)) ?_
              refine wl_v (x_assign (tmI rfl rfl)) ?_
              refine wl_nil ?_
              exact then_n ⟨_, _, rfl, (by show _ < _; omega), (by repeat (first | exact agree_self | exact agree_refl | refine agree_upd rfl ?_ | refine agree_mix rfl ?_)), k + 1, _, rfl, (by first | rfl | go_num | exact congrArg (Value.int _) (by first | omega | (simp; done) | (simp; omega))), (by first | rfl | go_num | exact congrArg (Value.int _) (by first | omega | (simp; done) | (simp; omega))), hS, (by omega), (by first | exact hb.skip (no_match1 hg5_9) | exact hb.skip (no_match2 hm hg5_24) | exact hb.take0 (by omega) (mk_match hm hg5_9 hg5_24) | exact FindR.take hbx hm (mk_match hm hg5_9 hg5_24) (by omega) | exact FindR.keep hbk hbm hbx hm (by omega) | exact .inl ⟨rfl, fun j hj => absurd hj (Nat.not_lt_zero j)⟩)⟩
          have hg5_9' := hg5_9; (try simp only [nrm] at hg5_9'); try (exfalso; first | with_reducible exact absurd hg5_9 Bool.false_ne_true | with_reducible exact absurd hg5_9.symm Bool.false_ne_true | omega | (simp at hg5_9; done))
          all_goals
           refine rg_skip 10 rfl rfl (by kernel_rfl) (by kernel_rfl) (by kernel_rfl) (want_n rfl rfl rfl rfl (by rw [hg5_9]; rfl)) ?_
           refine rg_skip 11 rfl rfl (by kernel_rfl) (by kernel_rfl) (by kernel_rfl) (want_n rfl rfl rfl rfl (by rw [hg5_9]; rfl)) ?_
           refine rg_skip 12 rfl rfl (by kernel_rfl) (by kernel_rfl) (by kernel_rfl) (want_n rfl rfl rfl rfl (by rw [hg5_9]; rfl)) ?_
           refine rg_skip 13 rfl rfl (by kernel_rfl) (by kernel_rfl) (by kernel_rfl) (want_n rfl rfl rfl rfl (by rw [hg5_9]; rfl)) ?_
           refine rg_skip 14 rfl rfl (by kernel_rfl) (by kernel_rfl) (by kernel_rfl) (want_n rfl rfl rfl rfl (by rw [hg5_9]; rfl)) ?_
           refine rg_skip 15 rfl rfl (by kernel_rfl) (by kernel_rfl) (by kernel_rfl) (want_n rfl rfl rfl rfl (by rw [hg5_9]; rfl)) ?_
           refine rg_skip 16 rfl rfl (by kernel_rfl) (by kernel_rfl) (by kernel_rfl) (want_n rfl rfl rfl rfl (by rw [hg5_9]; rfl)) ?_
           refine rg_skip 17 rfl rfl (by kernel_rfl) (by kernel_rfl) (by kernel_rfl) (want_n rfl rfl rfl rfl (by rw [hg5_9]; rfl)) ?_
           refine rg_skip 18 rfl rfl (by kernel_rfl) (by kernel_rfl) (by kernel_rfl) (want_n rfl rfl rfl rfl (by rw [hg5_9]; rfl)) ?_
           refine rg_skip 19 rfl rfl (by kernel_rfl) (by kernel_rfl) (by kernel_rfl) (want_n rfl rfl rfl rfl (by rw [hg5_9]; rfl)) ?_
           refine rg_skip 20 rfl rfl (by kernel_rfl) (by kernel_rfl) (by kernel_rfl) (want_n rfl rfl rfl rfl (by rw [hg5_9]; rfl)) ?_
           refine rg_skip 21 rfl rfl (by kernel_rfl) (by kernel_rfl) (by kernel_rfl) (want_n rfl rfl rfl rfl (by rw [hg5_9]; rfl)) ?_
           refine rg_skip 22 rfl rfl (by kernel_rfl) (by kernel_rfl) (by kernel_rfl) (want_n rfl rfl rfl rfl (by rw [hg5_9]; rfl)) ?_
           refine rg_take 23 rfl rfl (by kernel_rfl) (by kernel_rfl) (by kernel_rfl) (want_0) (fun w hok => x_pickF (tmB rfl rfl) hg5_9 ev_c) ?_
           refine rg_take 24 rfl rfl (by kernel_rfl) (by kernel_rfl) (by kernel_rfl) (want_0) (fun w hok => x_move (tmB rfl rfl)) ?_
           refine rg_skip 25 rfl rfl (by kernel_rfl) (by kernel_rfl) (by kernel_rfl) (want_n rfl rfl rfl rfl rfl) ?_
           refine rg_skip 26 rfl rfl (by kernel_rfl) (by kernel_rfl) (by kernel_rfl) (want_n rfl rfl rfl rfl rfl) ?_
           refine rg_skip 27 rfl rfl (by kernel_rfl) (by kernel_rfl) (by kernel_rfl) (want_n rfl rfl rfl rfl rfl) ?_
           refine rg_skip 28 rfl rfl (by kernel_rfl) (by kernel_rfl) (by kernel_rfl) (want_u rfl rfl rfl rfl) ?_
           refine rg_skip 29 rfl rfl (by kernel_rfl) (by kernel_rfl) (by kernel_rfl) (want_u rfl rfl rfl rfl) ?_
           refine rg_skip 30 rfl rfl (by kernel_rfl) (by kernel_rfl) (by kernel_rfl) (want_u rfl rfl rfl rfl) ?_
           refine rg_skip 31 rfl rfl (by kernel_rfl) (by kernel_rfl) (by kernel_rfl) (want_u rfl rfl rfl rfl) ?_
           refine rg_skip 32 rfl rfl (by kernel_rfl) (by kernel_rfl) (by kernel_rfl) (want_u rfl rfl rfl rfl) ?_
           refine rg_skip 33 rfl rfl (by kernel_rfl) (by kernel_rfl) (by kernel_rfl) (want_u rfl rfl rfl rfl) ?_
           refine rg_skip 34 rfl rfl (by kernel_rfl) (by kernel_rfl) (by kernel_rfl) (want_u rfl rfl rfl rfl) ?_
           refine rg_skip 35 rfl rfl (by kernel_rfl) (by kernel_rfl) (by kernel_rfl) (want_u rfl rfl rfl rfl) ?_
           refine rg_skip 36 rfl rfl (by kernel_rfl) (by kernel_rfl) (by kernel_rfl) (want_u rfl rfl rfl rfl) ?_
           refine rg_skip 37 rfl rfl (by kernel_rfl) (by kernel_rfl) (by kernel_rfl) (want_u rfl rfl rfl rfl) ?_
           refine rg_skip 38 rfl rfl (by kernel_rfl) (by kernel_rfl) (by kernel_rfl) (want_u rfl rfl rfl rfl) ?_
           refine rg_skip 39 rfl rfl (by kernel_rfl) (by kernel_rfl) (by kernel_rfl) (want_n rfl rfl rfl rfl rfl) ?_
           refine rg_take 40 rfl rfl (by kernel_rfl) (by kernel_rfl) (by kernel_rfl) (want_0) (fun w hok => x_pickF (tmB rfl rfl) rfl ev_c) ?_
           refine rg_done (oks_drop hS 0 rfl) (by kernel_rfl) ?_
           refine then_n (hK8 _ _ ?_); clear hK8 K8
           refine cnd_f (tmB rfl rfl) rfl ?_
           refine wp_skip ?_
           refine inb_n ?_
           refine then_n (hK7 _ _ ?_); clear hK7 K7
           refine wlit ?_
           refine wl_v (x_move (tmI rfl rfl)) ?_
           first
            | refine wl_v (x_addN (tmI rfl rfl) (ev_cN 1) (fit_i64 (by omega))) ?_
            | refine wl_v (x_addI (tmI rfl rfl) (ev_cN 1) (IntWalk.i64_in _ (by omega))) ?_
            | refine wl_v (x_add (tmI rfl rfl) (ev_cN 1)) ?_
           refine wl_v (x_assign (tmI rfl rfl)) ?_
           refine wl_nil ?_
           exact then_n ⟨_, _, rfl, (by show _ < _; omega), (by repeat (first | exact agree_self | exact agree_refl | refine agree_upd rfl ?_ | refine agree_mix rfl ?_)), k + 1, _, rfl, (by first | rfl | go_num | exact congrArg (Value.int _) (by first | omega | (simp; done) | (simp; omega))), (by first | rfl | go_num | exact congrArg (Value.int _) (by first | omega | (simp; done) | (simp; omega))), hS, (by omega), (by first | exact hb.skip (no_match1 hg5_9) | exact hb.skip (no_match2 hm hg5_24) | exact hb.take0 (by omega) (mk_match hm hg5_9 hg5_24) | exact FindR.take hbx hm (mk_match hm hg5_9 hg5_24) (by omega) | exact FindR.keep hbk hbm hbx hm (by omega) | exact .inl ⟨rfl, fun j hj => absurd hj (Nat.not_lt_zero j)⟩)⟩
       try (exfalso; first | with_reducible exact absurd hc0 Bool.false_ne_true | with_reducible exact absurd hc0.symm Bool.false_ne_true | (simp only [nrm] at hc0; omega) | (simp at hc0; done))
       all_goals
        try simp only [nrm] at hc0
        refine wp_exit ?_
        refine then_x ?_; clear hK5 K5
        refine then_x ?_
        refine inb_x ?_
        refine then_n (hK3 _ _ ?_); clear hK3 K3
        refine wp_seq_k ?_; intro K9 hK9
        refine wlit ?_
        refine wl_v (x_move (tmI rfl rfl)) ?_
        refine wl_v (x_assign (tmI rfl rfl)) ?_
        refine wl_nil ?_
        refine then_n (hK9 _ _ ?_); clear hK9 K9
        refine wp_ret ?_
        refine ret1 rfl (.tmp rfl (show _ = Value.int _ _ from rfl)) ?_
        first
          | exact absurd hr hc0
          | exact absurd hr (by simpa using hc0)
          | (obtain rfl : n = k := by omega
             exact ⟨_, rfl, fun _ => hb, fun h => absurd hr h, hS.kp⟩)
    have hg3_4' := hg3_4; (try simp only [nrm] at hg3_4'); try (exfalso; first | with_reducible exact absurd hg3_4 Bool.false_ne_true | with_reducible exact absurd hg3_4.symm Bool.false_ne_true | omega | (simp at hg3_4; done))
    all_goals
     refine wl_s rfl (want_n rfl rfl rfl rfl (by rw [hg3_4]; rfl)) ?_
     refine wl_s rfl (want_n rfl rfl rfl rfl (by rw [hg3_4]; rfl)) ?_
     refine wl_v (x_pickF (tmB rfl rfl) hg3_4 ev_c) ?_
     refine wl_nil ?_
     refine then_n (hK6 _ _ ?_); clear hK6 K6
     refine cnd_f (tmB rfl rfl) rfl ?_
     refine wp_exit ?_
     refine then_x ?_; clear hK5 K5
     refine then_x ?_
     refine inb_x ?_
     refine then_n (hK3 _ _ ?_); clear hK3 K3
     refine wp_seq_k ?_; intro K10 hK10
     refine wlit ?_
     refine wl_v (x_move (tmI rfl rfl)) ?_
     refine wl_v (x_assign (tmI rfl rfl)) ?_
     refine wl_nil ?_
     refine then_n (hK10 _ _ ?_); clear hK10 K10
     refine wp_ret ?_
     refine ret1 rfl (.tmp rfl (show _ = Value.int _ _ from rfl)) ?_
     first
       | exact absurd hr hc0
       | exact absurd hr (by simpa using hc0)
       | (obtain rfl : n = k := by omega
          exact ⟨_, rfl, fun _ => hb, fun h => absurd hr h, hS.kp⟩)
end Go.Proofs.Ytlpgedncnefaoaa
