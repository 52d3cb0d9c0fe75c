
/- lpm: V4 and Find by contract, the example. Conditions: none but bounds. -/
import Derived.Test.YtlpgedncnefaoaaLpJ
namespace Go.Proofs.Ytlpgedncnefaoaa
open Go.RowKit
set_option maxRecDepth 100000 in
set_option maxHeartbeats 4000000 in
theorem lv4_c (p q r s : Nat) (w0 : World) (hp : p ≤ 255) (hq : q ≤ 255) (hr : r ≤ 255) (hs : s ≤ 255) : Calls Try.prog 14 #[.int .u8 (p : Int), .int .u8 (q : Int), .int .u8 (r : Int), .int .u8 (s : Int)] w0 fun e w' => e = .returned (.agg (Ad.V ⟨false, 0, ((p * 2 ^ 24 ||| q * 2 ^ 16) ||| r * 2 ^ 8) ||| s⟩).toArray) ∧ Kp [] w0 w' := by
  have hS := St.sv w0
  have h1 : (p * 2 ^ 24 ||| q * 2 ^ 16) < 2 ^ 32 := Nat.or_lt_two_pow (by omega) (by omega)
  have h2 : ((p * 2 ^ 24 ||| q * 2 ^ 16) ||| r * 2 ^ 8) < 2 ^ 32 := Nat.or_lt_two_pow h1 (by omega)
  refine ent (n := 24) Try.func14 rfl rfl ?_
  refine wp_seq_k ?_; intro K1 hK1
  refine wlit ?_
  refine wl_e rfl ?_; intro K hK
  refine ow_alloc hS tz_25 rfl ?_
  clear hS; intro g0_0 w hg0_0 hS
  refine hK _ _ ?_; clear hK K
  refine wl_nil ?_
  refine then_n (hK1 _ _ ?_); clear hK1 K1
  refine wp_seq_k ?_; intro K2 hK2
  refine wlit ?_
  refine wl_v (x_move (tmI rfl rfl)) ?_
  first
   | refine wl_v (x_convN Try.underlying5 Try.underlying23 (tmI rfl rfl) (fit_u64 (by omega))) ?_
   | refine wl_v (x_convU Try.underlying5 Try.underlying23 (tmI rfl rfl) rfl) ?_
   | refine wl_v (x_conv Try.underlying5 Try.underlying23 (tmI rfl rfl)) ?_
  first
   | refine wl_v (x_shlN (tmI rfl rfl) (ev_cN 24) (by decide) (fit_u64 (by omega))) ?_
   | refine wl_v (x_shlN (tmI rfl rfl) (ev_cN 24) (by have : IntKind.bits .u64 = 64 := rfl; omega) (fit_u64 (by omega))) ?_
   | refine wl_v (x_shlU (tmI rfl rfl) (ev_cN 24) rfl) ?_
  refine wl_v (x_move (tmI rfl rfl)) ?_
  first
   | refine wl_v (x_convN Try.underlying5 Try.underlying23 (tmI rfl rfl) (fit_u64 (by omega))) ?_
   | refine wl_v (x_convU Try.underlying5 Try.underlying23 (tmI rfl rfl) rfl) ?_
   | refine wl_v (x_conv Try.underlying5 Try.underlying23 (tmI rfl rfl)) ?_
  first
   | refine wl_v (x_shlN (tmI rfl rfl) (ev_cN 16) (by decide) (fit_u64 (by omega))) ?_
   | refine wl_v (x_shlN (tmI rfl rfl) (ev_cN 16) (by have : IntKind.bits .u64 = 64 := rfl; omega) (fit_u64 (by omega))) ?_
   | refine wl_v (x_shlU (tmI rfl rfl) (ev_cN 16) rfl) ?_
  refine wl_v (x_orN (tmI rfl rfl) (tmI rfl rfl) (fit_u64 (by omega)) (fit_u64 (by omega))) ?_
  refine wl_v (x_move (tmI rfl rfl)) ?_
  first
   | refine wl_v (x_convN Try.underlying5 Try.underlying23 (tmI rfl rfl) (fit_u64 (by omega))) ?_
   | refine wl_v (x_convU Try.underlying5 Try.underlying23 (tmI rfl rfl) rfl) ?_
   | refine wl_v (x_conv Try.underlying5 Try.underlying23 (tmI rfl rfl)) ?_
  first
   | refine wl_v (x_shlN (tmI rfl rfl) (ev_cN 8) (by decide) (fit_u64 (by omega))) ?_
   | refine wl_v (x_shlN (tmI rfl rfl) (ev_cN 8) (by have : IntKind.bits .u64 = 64 := rfl; omega) (fit_u64 (by omega))) ?_
   | refine wl_v (x_shlU (tmI rfl rfl) (ev_cN 8) rfl) ?_
  refine wl_v (x_orN (tmI rfl rfl) (tmI rfl rfl) (fit_u64 (by omega)) (fit_u64 (by omega))) ?_
  refine wl_v (x_move (tmI rfl rfl)) ?_
  first
   | refine wl_v (x_convN Try.underlying5 Try.underlying23 (tmI rfl rfl) (fit_u64 (by omega))) ?_
   | refine wl_v (x_convU Try.underlying5 Try.underlying23 (tmI rfl rfl) rfl) ?_
   | refine wl_v (x_conv Try.underlying5 Try.underlying23 (tmI rfl rfl)) ?_
  refine wl_v (x_orN (tmI rfl rfl) (tmI rfl rfl) (fit_u64 (by omega)) (fit_u64 (by omega))) ?_
  refine wl_v (x_build (bc_skip (.bool false) <| bc_skip (.int .u64 0) <| bc_take (tmI rfl rfl) <| bc_nil) (by kernel_rfl)) ?_
  refine wl_e rfl ?_; intro K hK
  refine ow_storeA hS 0 rfl ts_25 (tmP rfl rfl) (tmA rfl rfl) rfl rfl rfl ?_
  clear hS; intro w hS
  try replace hS := St.nm (M' := [.blk _ _ [_, _, _], _]) hS rfl
  refine hK _ _ ?_; clear hK K
  refine wl_nil ?_
  refine then_n (hK2 _ _ ?_); clear hK2 K2
  refine wp_ret ?_
  refine ret1 rfl (.cell rfl rfl (load_rowB (cs := [_, _, _]) hS.ok 0 rfl Try.underlying25 rfl ts_25 rfl)) ?_
  exact ⟨rfl, hS.kp⟩
/-- A node that an entry holds. -/
theorem es_get {t : TT} {M : List Ent} (hM : ∀ e ∈ t.es, e ∈ M) {g : Nat} {l r : TT} {s : Bool} {v : Int} (ht : t = .nd g l r s v) : ∃ i : Nat, M[i]? = some (.blk g 59 (ndV l r s v)) := by
  subst ht
  exact List.mem_iff_getElem?.1 (hM _ (List.mem_cons_self ..))
theorem es_kid {t : TT} {M : List Ent} (hM : ∀ e ∈ t.es, e ∈ M) (b : Nat) : ∀ e ∈ (t.kid b).es, e ∈ M := by
  cases t with
  | nil => exact hM
  | nd g l r s v =>
    intro e he
    apply hM
    by_cases h : b = 0
    · simp only [TT.kid, if_pos h] at he
      exact List.mem_cons_of_mem _ (List.mem_append_left _ he)
    · simp only [TT.kid, if_neg h] at he
      exact List.mem_cons_of_mem _ (List.mem_append_right _ he)
/-- The best so far: no node, or one of the entries with this value. -/
def BestE (M : List Ent) (q : Option Addr) (k : Nat) (b : Option (Nat × Int)) : Prop :=
  (q = none ∧ k = 0 ∧ b = none) ∨ ∃ g l r s v, q = some ⟨g, 0, none⟩ ∧ b = some (k, v) ∧ ∃ i : Nat, M[i]? = some (.blk g 59 (ndV l r s v))
theorem BestE.none_of {M : List Ent} {q : Option Addr} {k : Nat} {b : Option (Nat × Int)} (h : BestE M q k b) (hq : q.isNone = true) : b = none := by
  rcases h with ⟨_, _, h3⟩ | ⟨g, l, r, s, v, h1, _⟩
  · exact h3
  · rw [h1] at hq; cases hq
theorem BestE.some_of {M : List Ent} {q : Option Addr} {k : Nat} {b : Option (Nat × Int)} (h : BestE M q k b) (hq : q.isNone = false) : ∃ g l r s v, q = some ⟨g, 0, none⟩ ∧ b = some (k, v) ∧ ∃ i : Nat, M[i]? = some (.blk g 59 (ndV l r s v)) := by
  rcases h with ⟨h1, _⟩ | h
  · rw [h1] at hq; cases hq
  · exact h
theorem TT.nd_of {t : TT} (h : t.p ≠ none) : ∃ g l r s v, t = .nd g l r s v := by
  cases t with
  | nil => exact absurd rfl h
  | nd g l r s v => exact ⟨g, l, r, s, v, rfl⟩
theorem TT.nil_of {t : TT} (h : t.p = none) : t = .nil := by
  cases t with
  | nil => rfl
  | nd g l r s v => cases h
theorem lcut_k (a : Ad) {k : Nat} (w0 : World) (hl : adLim a) (hk : k ≤ adBits a) : Calls Try.prog 21 #[.agg a.V.toArray, .int .i64 (k : Int)] w0 fun e w' => e = .returned (.agg (cutM a k).V.toArray) ∧ Kp [] w0 w' :=
  lcut_c a (k : Int) k w0 hl (by omega)
theorem findS_step (f : Nat → Nat) (j k g : Nat) (l r : TT) (s : Bool) (v : Int) (b : Option (Nat × Int)) : findS f (j + 1) k (TT.nd g l r s v).sh b = findS f j (k + 1) (TT.kid (.nd g l r s v) (f k)).sh (if s then some (k, v) else b) := by
  rw [TT.kid_sh]
  rfl
theorem findS_nil (f : Nat → Nat) (j k : Nat) (b : Option (Nat × Int)) : findS f j k TT.nil.sh b = b := by
  cases j <;> rfl
theorem findS_0 (f : Nat → Nat) (k g : Nat) (l r : TT) (s : Bool) (v : Int) (b : Option (Nat × Int)) : findS f 0 k (TT.nd g l r s v).sh b = if s then some (k, v) else b := rfl
set_option maxRecDepth 100000 in
set_option maxHeartbeats 8000000 in
theorem lfind_c (tb : Nat) (x o : TT) (c : Int) (a : Ad) (Z : List Ent) (F : List Nat) (w1 w0 : World) (hS : St F w1 (ftab tb a.six x o c Z) w0) (hl : adLim a) (hr : adRight a) :
    Calls Try.prog 7 #[.pointer (some ⟨tb, 0, none⟩), .agg a.V.toArray] w0 fun e w' => St F w1 (ftab tb a.six x o c Z) w' ∧ ((findS (pbit a) (adBits a) 0 x.sh none = none ∧ e = .returned (.tuple #[.agg #[.bool false, .int .u64 0, .int .u64 0, .int .i64 0], .int .i64 0, .bool false])) ∨
      ∃ k v, findS (pbit a) (adBits a) 0 x.sh none = some (k, v) ∧ k ≤ adBits a ∧ e = .returned (.tuple #[.agg #[.bool (cutM a k).six, .int .u64 ((cutM a k).high : Int), .int .u64 ((cutM a k).low : Int), .int .i64 (k : Int)], .int .i64 v, .bool true])) := by
  have hb2 : ∀ i, pbit a i < 2 := pbit_lt a
  have hb3 : adBits a ≤ 128 := by unfold adBits; split <;> omega
  refine ent (n := 58) Try.func7 rfl rfl ?_
  refine wp_seq_k ?_; intro K1 hK1
  refine wlit ?_
  refine wl_e rfl ?_; intro K hK
  refine ow_box hS (tmA rfl rfl) rfl ?_
  clear hS; intro g0_0 w hg0_0 hS
  refine hK _ _ ?_; clear hK K
  refine wl_e rfl ?_; intro K hK
  refine ow_alloc hS tz_32 rfl ?_
  clear hS; intro g0_1 w hg0_1 hS
  refine hK _ _ ?_; clear hK K
  refine wl_v (x_assign (ev_cN 0)) ?_
  refine wl_v (x_assign ev_c) ?_
  refine wl_nil ?_
  refine then_n (hK1 _ _ ?_); clear hK1 K1
  refine wp_seq_k ?_; intro K2 hK2
  refine wp_seq_k ?_; intro K3 hK3
  refine wlit ?_
  refine wl_v (x_move (tmP rfl rfl)) ?_
  first
   | refine wl_v (x_peql Try.underlying27 (tmP rfl rfl) ev_c) ?_
   | refine wl_v (x_peqln Try.underlying27 (tmP rfl rfl) ev_c) ?_
  refine wl_v (x_move (tmB rfl rfl)) ?_
  refine gs_wl (tm (t := 13) rfl) (fun hg1_2 => ?_) (fun hg1_2 => ?_)
  · have hg1_2' := hg1_2; (try simp only [nrm] at hg1_2'); try (exfalso; first | with_reducible exact absurd hg1_2 Bool.false_ne_true | with_reducible exact absurd hg1_2.symm Bool.false_ne_true | omega | (simp at hg1_2; done))
    all_goals
     refine wl_s rfl (want_n rfl rfl rfl rfl (by rw [hg1_2]; rfl)) ?_
     refine wl_s rfl (want_n rfl rfl rfl rfl (by rw [hg1_2]; rfl)) ?_
     refine wl_s rfl (want_n rfl rfl rfl rfl (by rw [hg1_2]; rfl)) ?_
     refine wl_v (x_pickT (tmB rfl rfl) hg1_2 ev_c) ?_
     refine wl_nil ?_
     refine then_n (hK3 _ _ ?_); clear hK3 K3
     refine cnd_t (tmB rfl rfl) rfl ?_
     refine wp_seq_k ?_; intro K4 hK4
     refine wlit ?_
     refine wl_v (x_build (bc_skipL [.bool false, .int .u64 0, .int .u64 0] <| bc_skip (.int .i64 0) <| bc_nil) (by kernel_rfl)) ?_
     refine wl_e rfl ?_; intro K hK
     refine ow_storeA hS 0 rfl ts_32 (tmP rfl rfl) (tmA rfl rfl) rfl rfl rfl ?_
     clear hS; intro w hS
     try replace hS := St.nm (M' := [.blk _ _ [_, _, _, _], .blk _ _ [_, _, _], _]) hS rfl
     refine hK _ _ ?_; clear hK K
     refine wl_v (x_assign (ev_cN 0)) ?_
     refine wl_v (x_assign ev_c) ?_
     refine wl_nil ?_
     refine then_n (hK4 _ _ ?_); clear hK4 K4
     refine wp_ret ?_
     refine then_r ?_
     refine ret3 rfl (.cell rfl rfl (load_rowB (cs := [_, _, _, _]) hS.ok 0 rfl Try.underlying32 rfl ts_32 rfl)) (.tmp rfl (show _ = Value.int _ _ from rfl)) (.tmp rfl (show _ = Value.bool _ from rfl)) ?_
     first
       | exact ⟨hS.tail.tail, .inl ⟨hfX.symm, rfl⟩⟩
       | exact ⟨hS.tail.tail, .inr ⟨_, _, hfX.symm, hkb2, rfl⟩⟩
  have hg1_2' := hg1_2; (try simp only [nrm] at hg1_2'); try (exfalso; first | with_reducible exact absurd hg1_2 Bool.false_ne_true | with_reducible exact absurd hg1_2.symm Bool.false_ne_true | omega | (simp at hg1_2; done))
  all_goals
   refine wl_gv (want_y rfl rfl rfl rfl (by rw [hg1_2]; rfl)) (x_loadA (cs := [_, _, _]) Try.underlying25 rfl ts_25 (tmP rfl rfl) (rangeB hS.ok 1 rfl rfl)) ?_
   refine wl_g (want_y rfl rfl rfl rfl (by rw [hg1_2]; rfl)) ?_; intro K hK
   refine ow_call Try.func17 rfl rfl (evs_cons (tmA rfl rfl) <| evs_nil) (ad_right_c a _) ?_
   rintro e w ⟨rfl, hk⟩
   refine ⟨_, rfl, ?_⟩
   replace hS := hS.kept hk
   clear hk
   refine hK _ _ ?_; clear hK K
   refine wl_gv (want_y rfl rfl rfl rfl (by rw [hg1_2]; rfl)) (x_not (tmB rfl rfl)) ?_
   refine wl_v (x_pickF (tmB rfl rfl) hg1_2 (tmB rfl rfl)) ?_
   refine wl_nil ?_
   refine then_n (hK3 _ _ ?_); clear hK3 K3
   refine cnd (tm rfl) (fun hc0 => ?_) (fun hc0 => ?_)
   · exfalso
     simp [hr] at hc0
   try (exfalso; first | with_reducible exact absurd hc0 Bool.false_ne_true | with_reducible exact absurd hc0.symm Bool.false_ne_true | (simp only [nrm] at hc0; omega) | (simp at hc0; done))
   all_goals
    try simp only [nrm] at hc0
    refine wp_skip ?_
    refine then_n (hK2 _ _ ?_); clear hK2 K2
    refine wp_seq_k ?_; intro K6 hK6
    refine wlit ?_
    refine wl_v (x_assign ev_c) ?_
    refine wl_nil ?_
    refine then_n (hK6 _ _ ?_); clear hK6 K6
    refine wp_seq_k ?_; intro K7 hK7
    refine wlit ?_
    refine wl_v (x_assign (ev_cN 0)) ?_
    refine wl_nil ?_
    refine then_n (hK7 _ _ ?_); clear hK7 K7
    refine wp_seq_k ?_; intro K8 hK8
    refine wlit ?_
    refine wl_v (x_move (tmP rfl rfl)) ?_
    refine wl_v (x_loadA (cs := [_, _, _]) Try.underlying25 rfl ts_25 (tmP rfl rfl) (rangeB hS.ok 1 rfl rfl)) ?_
    refine wl_e rfl ?_; intro K hK
    refine ow_call Try.func18 rfl rfl (evs_cons (tmP rfl rfl) <| evs_cons (tmA rfl rfl) <| evs_nil) (root_c tb a _) ?_
    rintro e w ⟨rfl, hk⟩
    refine ⟨_, rfl, ?_⟩
    replace hS := hS.kept hk
    clear hk
    refine hK _ _ ?_; clear hK K
    refine wl_v (x_nil (A := none) (tmP rfl rfl)) ?_
    refine wl_v (x_load (v := .pointer x.p) Try.underlying45 rfl (tmP rfl rfl) (cellB (t := 47) (l := tabV a.six x o c) hS.ok 2 rfl (by cases a.six <;> rfl))) ?_
    refine wl_v (x_assign (tmP rfl rfl)) ?_
    refine wl_nil ?_
    refine then_n (hK8 _ _ ?_); clear hK8 K8
    refine wp_seq_k ?_; intro K9 hK9
    refine wp_seq_k ?_; intro K10 hK10
    refine wlit ?_
    refine wl_v (x_assign (ev_cN 0)) ?_
    refine wl_nil ?_
    refine then_n (hK10 _ _ ?_); clear hK10 K10
    refine wp_block ?_
    have hes0 : ∀ e ∈ x.es, e ∈ ftab tb a.six x o c Z := fun e he => List.mem_cons_of_mem _ (List.mem_append_left _ he)
    refine lp [7, 8, 9, 10, 24, 25, 26, 27, 28, 29, 30, 31, 32, 33, 34, 35, 36, 37, 38, 39, 40, 41, 42, 43, 44, 45] (fun mz g w => ∃ (k kb : Nat), ∃ (sub : TT), ∃ (q : Option Addr), ∃ (b : Option (Nat × Int)), mz = adBits a + 1 - k ∧ g 10 = .int .i64 (k : Int) ∧ g 9 = .pointer sub.p ∧ g 8 = .int .i64 (kb : Int) ∧ g 7 = .pointer q ∧ St F w1 (.blk g0_1 32 [.bool false, .int .u64 0, .int .u64 0, .int .i64 0] :: .blk g0_0 25 a.V :: ftab tb a.six x o c Z) w ∧ (k ≤ adBits a) ∧ (kb ≤ adBits a) ∧ (∀ e ∈ sub.es, e ∈ ftab tb a.six x o c Z) ∧ (BestE (ftab tb a.six x o c Z) q kb b) ∧ (findS (pbit a) (adBits a - k) k sub.sh b = findS (pbit a) (adBits a) 0 x.sh none)) ?_ ?_
    · exact ⟨_, 0, 0, x, none, none, rfl, (by first | rfl | go_num | exact congrArg (Value.int _) (by first | omega | (simp; done) | (simp; omega))), (by first | rfl | go_num | exact congrArg (Value.int _) (by first | omega | (simp; done) | (simp; omega))), (by first | rfl | go_num | exact congrArg (Value.int _) (by first | omega | (simp; done) | (simp; omega))), (by first | rfl | go_num | exact congrArg (Value.int _) (by first | omega | (simp; done) | (simp; omega))), hS, (by omega), (by omega), (by first | exact hes0 | exact es_kid hes _), (by first | exact hB2 | exact .inl ⟨rfl, rfl, rfl⟩), (by first | exact hf2 | rfl)⟩
    · clear hS; intro mz g w hI
      obtain ⟨k, kb, sub, q, b, rfl, hs10, hs9, hs8, hs7, hS, hk, hkb, hes, hB, hf⟩ := hI
      refine fr_know (d := 10) hs10 ?_; clear hs10
      refine fr_know (d := 9) hs9 ?_; clear hs9
      refine fr_know (d := 8) hs8 ?_; clear hs8
      refine fr_know (d := 7) hs7 ?_; clear hs7
      refine wp_seq_k ?_; intro K11 hK11
      refine wp_seq_k ?_; intro K12 hK12
      refine wlit ?_
      refine wl_v (x_move (tmP rfl rfl)) ?_
      refine wl_v (x_pneqo Try.underlying45 (tmP rfl rfl) ev_c) ?_
      refine wl_nil ?_
      refine then_n (hK12 _ _ ?_); clear hK12 K12
      refine cnd (tm rfl) (fun hc1 => ?_) (fun hc1 => ?_)
      · try (exfalso; first | with_reducible exact absurd hc1 Bool.false_ne_true | with_reducible exact absurd hc1.symm Bool.false_ne_true | (simp only [nrm] at hc1; omega) | (simp at hc1; done))
        all_goals
         try simp only [nrm] at hc1
         refine wp_skip ?_
         refine then_n (hK11 _ _ ?_); clear hK11 K11
         refine wp_seq_k ?_; intro K13 hK13
         refine wp_block ?_
         refine wp_seq_k ?_; intro K14 hK14
         refine wp_seq_k ?_; intro K15 hK15
         obtain ⟨gn, l, r, s, v, rfl⟩ := TT.nd_of (t := sub) (by intro h; rw [h] at hc1; cases hc1)
         obtain ⟨i, hi⟩ := es_get hes rfl
         refine wlit ?_
         refine wl_v (x_move (tmP rfl rfl)) ?_
         refine wl_v (x_nil (A := none) (tmP rfl rfl)) ?_
         refine wl_v (x_fa 2 Try.underlying59 rfl rfl ts_4 (tmP rfl rfl)) ?_
         refine wl_v (x_load (v := .bool s) Try.underlying4 rfl (tmP rfl rfl) (cellB (t := 59) (l := ndV l r s v) hS.ok (i + 2) hi rfl)) ?_
         refine wl_nil ?_
         refine then_n (hK15 _ _ ?_); clear hK15 K15
         refine cutc [7, 8, 32, 33] (fun g w => ∃ (kb2 : Nat), ∃ (q2 : Option Addr), ∃ (b2 : Option (Nat × Int)), g 8 = .int .i64 (kb2 : Int) ∧ g 7 = .pointer q2 ∧ St F w1 (.blk g0_1 32 [.bool false, .int .u64 0, .int .u64 0, .int .i64 0] :: .blk g0_0 25 a.V :: ftab tb a.six x o c Z) w ∧ (kb2 ≤ adBits a) ∧ (BestE (ftab tb a.six x o c Z) q2 kb2 b2) ∧ (b2 = if s then some (k, v) else b)) ?_ ?_
         · skip
           refine cnd (tm rfl) (fun hc2 => ?_) (fun hc2 => ?_)
           · try (exfalso; first | with_reducible exact absurd hc2 Bool.false_ne_true | with_reducible exact absurd hc2.symm Bool.false_ne_true | (simp only [nrm] at hc2; omega) | (simp at hc2; done))
             all_goals
              try simp only [nrm] at hc2
              refine wlit ?_
              refine wl_v (x_move (tmP rfl rfl)) ?_
              refine wl_v (x_move (tmI rfl rfl)) ?_
              refine wl_v (x_assign (tmP rfl rfl)) ?_
              refine wl_v (x_assign (tmI rfl rfl)) ?_
              refine wl_nil ?_
              first
               | exact then_n ⟨_, rfl, (by repeat (first | exact agree_self | exact agree_refl | refine agree_upd rfl ?_ | refine agree_mix rfl ?_)), k, some ⟨gn, 0, none⟩, some (k, v), (by first | rfl | go_num | exact congrArg (Value.int _) (by first | omega | (simp; done) | (simp; omega))), (by first | rfl | go_num | exact congrArg (Value.int _) (by first | omega | (simp; done) | (simp; omega))), hS, (by omega), (by first | exact hB | exact .inr ⟨_, _, _, _, _, rfl, rfl, _, hi⟩), (by simp [hc2])⟩
               | exact then_n ⟨_, rfl, (by repeat (first | exact agree_self | exact agree_refl | refine agree_upd rfl ?_ | refine agree_mix rfl ?_)), kb, q, b, (by first | rfl | go_num | exact congrArg (Value.int _) (by first | omega | (simp; done) | (simp; omega))), (by first | rfl | go_num | exact congrArg (Value.int _) (by first | omega | (simp; done) | (simp; omega))), hS, (by omega), (by first | exact hB | exact .inr ⟨_, _, _, _, _, rfl, rfl, _, hi⟩), (by simp [hc2])⟩
           try (exfalso; first | with_reducible exact absurd hc2 Bool.false_ne_true | with_reducible exact absurd hc2.symm Bool.false_ne_true | (simp only [nrm] at hc2; omega) | (simp at hc2; done))
           all_goals
            try simp only [nrm] at hc2
            refine wp_skip ?_
            first
             | exact then_n ⟨_, rfl, (by repeat (first | exact agree_self | exact agree_refl | refine agree_upd rfl ?_ | refine agree_mix rfl ?_)), k, some ⟨gn, 0, none⟩, some (k, v), (by first | rfl | go_num | exact congrArg (Value.int _) (by first | omega | (simp; done) | (simp; omega))), (by first | rfl | go_num | exact congrArg (Value.int _) (by first | omega | (simp; done) | (simp; omega))), hS, (by omega), (by first | exact hB | exact .inr ⟨_, _, _, _, _, rfl, rfl, _, hi⟩), (by simp [hc2])⟩
             | exact then_n ⟨_, rfl, (by repeat (first | exact agree_self | exact agree_refl | refine agree_upd rfl ?_ | refine agree_mix rfl ?_)), kb, q, b, (by first | rfl | go_num | exact congrArg (Value.int _) (by first | omega | (simp; done) | (simp; omega))), (by first | rfl | go_num | exact congrArg (Value.int _) (by first | omega | (simp; done) | (simp; omega))), hS, (by omega), (by first | exact hB | exact .inr ⟨_, _, _, _, _, rfl, rfl, _, hi⟩), (by simp [hc2])⟩
         · clear hS; intro g w hI
           obtain ⟨kb2, q2, b2, hs8, hs7, hS, hkb2, hB2, hbq⟩ := hI
           refine fr_knowQ (d := 8) hs8 ?_; clear hs8
           refine fr_knowQ (d := 7) hs7 ?_; clear hs7
           refine then_n (hK14 _ _ ?_); clear hK14 K14
           refine wp_seq_k ?_; intro K17 hK17
           refine wp_seq_k ?_; intro K18 hK18
           refine wlit ?_
           refine wl_v (x_move (tmI rfl rfl)) ?_
           refine wl_v (x_loadA (cs := [_, _, _]) Try.underlying25 rfl ts_25 (tmP rfl rfl) (rangeB hS.ok 1 rfl rfl)) ?_
           refine wl_e rfl ?_; intro K hK
           refine ow_call Try.func19 rfl rfl (evs_cons (tmA rfl rfl) <| evs_nil) (lbits_c a _) ?_
           rintro e w ⟨rfl, hk2⟩
           refine ⟨_, rfl, ?_⟩
           replace hS := hS.kept hk2
           clear hk2
           refine hK _ _ ?_; clear hK K
           refine wl_v (x_eql (tmI rfl rfl) (tmI rfl rfl)) ?_
           refine wl_nil ?_
           refine then_n (hK18 _ _ ?_); clear hK18 K18
           refine cnd (tm rfl) (fun hc3 => ?_) (fun hc3 => ?_)
           · try (exfalso; first | with_reducible exact absurd hc3 Bool.false_ne_true | with_reducible exact absurd hc3.symm Bool.false_ne_true | (simp only [nrm] at hc3; omega) | (simp at hc3; done))
             all_goals
              try simp only [nrm] at hc3
              have hfX : b2 = findS (pbit a) (adBits a) 0 x.sh none := by rw [← hf, hbq, show adBits a - k = 0 from by omega, findS_0]
              refine wp_exit ?_
              refine then_x ?_; clear hK17 K17
              refine inb_y rfl ?_
              refine then_x ?_; clear hK13 K13
              refine then_x ?_
              refine inb_x ?_
              refine then_n (hK9 _ _ ?_); clear hK9 K9
              refine wp_seq_k ?_; intro K19 hK19
              refine wp_seq_k ?_; intro K20 hK20
              refine wlit ?_
              refine wl_v (x_move (tmP rfl rfl)) ?_
              refine wl_v (x_peqo Try.underlying45 (tmP rfl rfl) ev_c) ?_
              refine wl_nil ?_
              refine then_n (hK20 _ _ ?_); clear hK20 K20
              refine cnd (tm rfl) (fun hc4 => ?_) (fun hc4 => ?_)
              · try (exfalso; first | with_reducible exact absurd hc4 Bool.false_ne_true | with_reducible exact absurd hc4.symm Bool.false_ne_true | (simp only [nrm] at hc4; omega) | (simp at hc4; done))
                all_goals
                 try simp only [nrm] at hc4
                 refine wp_seq_k ?_; intro K21 hK21
                 rw [hB2.none_of hc4] at hfX
                 refine wlit ?_
                 refine wl_v (x_build (bc_skipL [.bool false, .int .u64 0, .int .u64 0] <| bc_skip (.int .i64 0) <| bc_nil) (by kernel_rfl)) ?_
                 refine wl_e rfl ?_; intro K hK
                 refine ow_storeA hS 0 rfl ts_32 (tmP rfl rfl) (tmA rfl rfl) rfl rfl rfl ?_
                 clear hS; intro w hS
                 try replace hS := St.nm (M' := [.blk _ _ [_, _, _, _], .blk _ _ [_, _, _], _]) hS rfl
                 refine hK _ _ ?_; clear hK K
                 refine wl_v (x_assign (ev_cN 0)) ?_
                 refine wl_v (x_assign ev_c) ?_
                 refine wl_nil ?_
                 refine then_n (hK21 _ _ ?_); clear hK21 K21
                 refine wp_ret ?_
                 refine then_r ?_
                 refine ret3 rfl (.cell rfl rfl (load_rowB (cs := [_, _, _, _]) hS.ok 0 rfl Try.underlying32 rfl ts_32 rfl)) (.tmp rfl (show _ = Value.int _ _ from rfl)) (.tmp rfl (show _ = Value.bool _ from rfl)) ?_
                 first
                   | exact ⟨hS.tail.tail, .inl ⟨hfX.symm, rfl⟩⟩
                   | exact ⟨hS.tail.tail, .inr ⟨_, _, hfX.symm, hkb2, rfl⟩⟩
              try (exfalso; first | with_reducible exact absurd hc4 Bool.false_ne_true | with_reducible exact absurd hc4.symm Bool.false_ne_true | (simp only [nrm] at hc4; omega) | (simp at hc4; done))
              all_goals
               try simp only [nrm] at hc4
               refine wp_skip ?_
               refine then_n (hK19 _ _ ?_); clear hK19 K19
               refine wp_seq_k ?_; intro K23 hK23
               obtain ⟨g', l', r', s', v', h1, h3, i', hi'⟩ := hB2.some_of hc4
               rw [h3] at hfX
               subst h1
               refine rg_startk 1 hS mixed_ ?_
               clear hS; intro w hS
               refine rg_take 0 rfl rfl (by kernel_rfl) (by kernel_rfl) (by kernel_rfl) (want_0) (fun w hok => x_loadA (cs := [_, _, _]) Try.underlying25 rfl ts_25 (tmP rfl rfl) (rangeB hok 0 rfl rfl)) ?_
               refine rg_take 1 rfl rfl (by kernel_rfl) (by kernel_rfl) (by kernel_rfl) (want_0) (fun w hok => x_move (tmI rfl rfl)) ?_
               refine rg_take 3 rfl rfl (by kernel_rfl) (by kernel_rfl) (by kernel_rfl) (want_0) (fun w hok => x_move (tmI rfl rfl)) ?_
               refine rg_take 5 rfl rfl (by kernel_rfl) (by kernel_rfl) (by kernel_rfl) (want_0) (fun w hok => x_move (tmP rfl rfl)) ?_
               refine rg_take 6 rfl rfl (by kernel_rfl) (by kernel_rfl) (by kernel_rfl) (want_0) (fun w hok => x_nil (A := none) (tmP rfl rfl)) ?_
               refine rg_take 7 rfl rfl (by kernel_rfl) (by kernel_rfl) (by kernel_rfl) (want_0) (fun w hok => x_fa 3 Try.underlying59 rfl rfl ts_3 (tmP rfl rfl)) ?_
               refine rg_take 8 rfl rfl (by kernel_rfl) (by kernel_rfl) (by kernel_rfl) (want_0) (fun w hok => x_load (v := .int .i64 v') Try.underlying3 rfl (tmP rfl rfl) (cellB (t := 59) (l := ndV l' r' s' v') hok (i' + 1) hi' rfl)) ?_
               refine rg_step 2 rfl (by kernel_rfl) (want_0) (oks_drop hS 1 rfl) ?_; intro K hK
               refine ow_call Try.func21 rfl rfl (evs_cons (tmA rfl rfl) <| evs_cons (tmI rfl rfl) <| evs_nil) (lcut_k a _ hl hkb2) ?_
               rintro e w ⟨rfl, hk2⟩
               refine ⟨_, rfl, ?_⟩
               replace hS := hS.kept hk2
               clear hk2
               refine hK _ _ ?_; clear hK K
               refine rg_take 4 rfl rfl (by kernel_rfl) (by kernel_rfl) (by kernel_rfl) (want_0) (fun w hok => x_build (bc_takeL (tmA rfl rfl) <| bc_take (tmI rfl rfl) <| bc_nil) (by kernel_rfl)) ?_
               refine rg_step 9 rfl (by kernel_rfl) (want_0) (oks_drop hS 1 rfl) ?_; intro K hK
               refine ow_storeA hS 0 rfl ts_32 (tmP rfl rfl) (tmA rfl rfl) rfl rfl rfl ?_
               clear hS; intro w hS
               try replace hS := St.nm (M' := [.blk _ _ [_, _, _, _], .blk _ _ [_, _, _], _]) hS rfl
               refine hK _ _ ?_; clear hK K
               refine rg_take 10 rfl rfl (by kernel_rfl) (by kernel_rfl) (by kernel_rfl) (want_0) (fun w hok => x_assign (tmI rfl rfl)) ?_
               refine rg_take 11 rfl rfl (by kernel_rfl) (by kernel_rfl) (by kernel_rfl) (want_0) (fun w hok => x_assign ev_c) ?_
               refine rg_done (oks_drop hS 1 rfl) (by kernel_rfl) ?_
               refine then_n (hK23 _ _ ?_); clear hK23 K23
               refine wp_ret ?_
               refine ret3 rfl (.cell rfl rfl (load_rowB (cs := [_, _, _, _]) hS.ok 0 rfl Try.underlying32 rfl ts_32 rfl)) (.tmp rfl (show _ = Value.int _ _ from rfl)) (.tmp rfl (show _ = Value.bool _ from rfl)) ?_
               first
                 | exact ⟨hS.tail.tail, .inl ⟨hfX.symm, rfl⟩⟩
                 | exact ⟨hS.tail.tail, .inr ⟨_, _, hfX.symm, hkb2, rfl⟩⟩
           try (exfalso; first | with_reducible exact absurd hc3 Bool.false_ne_true | with_reducible exact absurd hc3.symm Bool.false_ne_true | (simp only [nrm] at hc3; omega) | (simp at hc3; done))
           all_goals
            try simp only [nrm] at hc3
            refine wp_skip ?_
            refine then_n (hK17 _ _ ?_); clear hK17 K17
            refine rg_startk 0 hS mixed_ ?_
            clear hS; intro w hS
            refine rg_take 0 rfl rfl (by kernel_rfl) (by kernel_rfl) (by kernel_rfl) (want_0) (fun w hok => x_move (tmP rfl rfl)) ?_
            refine rg_take 1 rfl rfl (by kernel_rfl) (by kernel_rfl) (by kernel_rfl) (want_0) (fun w hok => x_loadA (cs := [_, _, _]) Try.underlying25 rfl ts_25 (tmP rfl rfl) (rangeB hok 1 rfl rfl)) ?_
            refine rg_take 2 rfl rfl (by kernel_rfl) (by kernel_rfl) (by kernel_rfl) (want_0) (fun w hok => x_move (tmI rfl rfl)) ?_
            refine rg_take 4 rfl rfl (by kernel_rfl) (by kernel_rfl) (by kernel_rfl) (want_0) (fun w hok => x_nil (A := none) (tmP rfl rfl)) ?_
            refine rg_take 5 rfl rfl (by kernel_rfl) (by kernel_rfl) (by kernel_rfl) (want_0) (fun w hok => x_fa 0 Try.underlying59 rfl rfl ts_57 (tmP rfl rfl)) ?_
            refine rg_step 3 rfl (by kernel_rfl) (want_0) (oks_drop hS 0 rfl) ?_; intro K hK
            refine ow_call Try.func20 rfl rfl (evs_cons (tmA rfl rfl) <| evs_cons (tmI rfl rfl) <| evs_nil) (lbit_c a k _ hl (by omega)) ?_
            rintro e w ⟨rfl, hk2⟩
            refine ⟨_, rfl, ?_⟩
            replace hS := hS.kept hk2
            clear hk2
            refine hK _ _ ?_; clear hK K
            have hb := hb2 k
            refine rg_take 6 rfl rfl (by kernel_rfl) (by kernel_rfl) (by kernel_rfl) (want_0) (fun w hok => x_ixa1 Try.underlying57 ts_45 (tmP rfl rfl) (tmI rfl rfl) (by omega)) ?_
            refine rg_take 7 rfl rfl (by kernel_rfl) (by kernel_rfl) (by kernel_rfl) (want_0) (fun w hok => x_load (v := .pointer (TT.kid (.nd gn l r s v) (pbit a k)).p) Try.underlying45 rfl (tmP rfl rfl) (cellB (t := 59) (l := ndV l r s v) hok (i + 2) hi (by rw [show 0 + 0 + pbit a k = pbit a k from by omega]; exact ndV_kid gn l r s v _ (hb2 k)))) ?_
            refine rg_take 8 rfl rfl (by kernel_rfl) (by kernel_rfl) (by kernel_rfl) (want_0) (fun w hok => x_assign (tmP rfl rfl)) ?_
            refine rg_done (oks_drop hS 0 rfl) (by kernel_rfl) ?_
            refine inb_n ?_
            refine then_n (hK13 _ _ ?_); clear hK13 K13
            refine wlit ?_
            refine wl_v (x_move (tmI rfl rfl)) ?_
            first
             | refine wl_v (x_addN (tmI rfl rfl) (ev_cN 1) (fit_i64 (by omega))) ?_
             | refine wl_v (x_addI (tmI rfl rfl) (ev_cN 1) (IntWalk.i64_in _ (by omega))) ?_
             | refine wl_v (x_add (tmI rfl rfl) (ev_cN 1)) ?_
            refine wl_v (x_assign (tmI rfl rfl)) ?_
            refine wl_nil ?_
            have hm : adBits a - k = (adBits a - (k + 1)) + 1 := by omega
            have hf2 := hf
            rw [hm, findS_step, ← hbq] at hf2
            exact then_n ⟨_, _, rfl, (by show _ < _; omega), (by repeat (first | exact agree_self | exact agree_refl | refine agree_upd rfl ?_ | refine agree_mix rfl ?_)), k + 1, kb2, TT.kid (.nd gn l r s v) (pbit a k), q2, b2, rfl, (by first | rfl | go_num | exact congrArg (Value.int _) (by first | omega | (simp; done) | (simp; omega))), (by first | rfl | go_num | exact congrArg (Value.int _) (by first | omega | (simp; done) | (simp; omega))), (by first | rfl | go_num | exact congrArg (Value.int _) (by first | omega | (simp; done) | (simp; omega))), (by first | rfl | go_num | exact congrArg (Value.int _) (by first | omega | (simp; done) | (simp; omega))), hS, (by omega), (by omega), (by first | exact hes0 | exact es_kid hes _), (by first | exact hB2 | exact .inl ⟨rfl, rfl, rfl⟩), (by first | exact hf2 | rfl)⟩
      try (exfalso; first | with_reducible exact absurd hc1 Bool.false_ne_true | with_reducible exact absurd hc1.symm Bool.false_ne_true | (simp only [nrm] at hc1; omega) | (simp at hc1; done))
      all_goals
       try simp only [nrm] at hc1
       obtain rfl := TT.nil_of (t := sub) (by cases hsp : sub.p with | none => rfl | some z => rw [hsp] at hc1; cases hc1)
       have hfX : b = findS (pbit a) (adBits a) 0 x.sh none := by rw [← hf, findS_nil]
       have hB2 := hB
       have hkb2 := hkb
       refine wp_exit ?_
       refine then_x ?_; clear hK11 K11
       refine then_x ?_
       refine inb_x ?_
       refine then_n (hK9 _ _ ?_); clear hK9 K9
       refine wp_seq_k ?_; intro K25 hK25
       refine wp_seq_k ?_; intro K26 hK26
       refine wlit ?_
       refine wl_v (x_move (tmP rfl rfl)) ?_
       refine wl_v (x_peqo Try.underlying45 (tmP rfl rfl) ev_c) ?_
       refine wl_nil ?_
       refine then_n (hK26 _ _ ?_); clear hK26 K26
       refine cnd (tm rfl) (fun hc4 => ?_) (fun hc4 => ?_)
       · try (exfalso; first | with_reducible exact absurd hc4 Bool.false_ne_true | with_reducible exact absurd hc4.symm Bool.false_ne_true | (simp only [nrm] at hc4; omega) | (simp at hc4; done))
         all_goals
          try simp only [nrm] at hc4
          refine wp_seq_k ?_; intro K27 hK27
          rw [hB2.none_of hc4] at hfX
          refine wlit ?_
          refine wl_v (x_build (bc_skipL [.bool false, .int .u64 0, .int .u64 0] <| bc_skip (.int .i64 0) <| bc_nil) (by kernel_rfl)) ?_
          refine wl_e rfl ?_; intro K hK
          refine ow_storeA hS 0 rfl ts_32 (tmP rfl rfl) (tmA rfl rfl) rfl rfl rfl ?_
          clear hS; intro w hS
          try replace hS := St.nm (M' := [.blk _ _ [_, _, _, _], .blk _ _ [_, _, _], _]) hS rfl
          refine hK _ _ ?_; clear hK K
          refine wl_v (x_assign (ev_cN 0)) ?_
          refine wl_v (x_assign ev_c) ?_
          refine wl_nil ?_
          refine then_n (hK27 _ _ ?_); clear hK27 K27
          refine wp_ret ?_
          refine then_r ?_
          refine ret3 rfl (.cell rfl rfl (load_rowB (cs := [_, _, _, _]) hS.ok 0 rfl Try.underlying32 rfl ts_32 rfl)) (.tmp rfl (show _ = Value.int _ _ from rfl)) (.tmp rfl (show _ = Value.bool _ from rfl)) ?_
          first
            | exact ⟨hS.tail.tail, .inl ⟨hfX.symm, rfl⟩⟩
            | exact ⟨hS.tail.tail, .inr ⟨_, _, hfX.symm, hkb2, rfl⟩⟩
       try (exfalso; first | with_reducible exact absurd hc4 Bool.false_ne_true | with_reducible exact absurd hc4.symm Bool.false_ne_true | (simp only [nrm] at hc4; omega) | (simp at hc4; done))
       all_goals
        try simp only [nrm] at hc4
        refine wp_skip ?_
        refine then_n (hK25 _ _ ?_); clear hK25 K25
        refine wp_seq_k ?_; intro K29 hK29
        obtain ⟨g', l', r', s', v', h1, h3, i', hi'⟩ := hB2.some_of hc4
        rw [h3] at hfX
        subst h1
        refine rg_startk 1 hS mixed_ ?_
        clear hS; intro w hS
        refine rg_take 0 rfl rfl (by kernel_rfl) (by kernel_rfl) (by kernel_rfl) (want_0) (fun w hok => x_loadA (cs := [_, _, _]) Try.underlying25 rfl ts_25 (tmP rfl rfl) (rangeB hok 0 rfl rfl)) ?_
        refine rg_take 1 rfl rfl (by kernel_rfl) (by kernel_rfl) (by kernel_rfl) (want_0) (fun w hok => x_move (tmI rfl rfl)) ?_
        refine rg_take 3 rfl rfl (by kernel_rfl) (by kernel_rfl) (by kernel_rfl) (want_0) (fun w hok => x_move (tmI rfl rfl)) ?_
        refine rg_take 5 rfl rfl (by kernel_rfl) (by kernel_rfl) (by kernel_rfl) (want_0) (fun w hok => x_move (tmP rfl rfl)) ?_
        refine rg_take 6 rfl rfl (by kernel_rfl) (by kernel_rfl) (by kernel_rfl) (want_0) (fun w hok => x_nil (A := none) (tmP rfl rfl)) ?_
        refine rg_take 7 rfl rfl (by kernel_rfl) (by kernel_rfl) (by kernel_rfl) (want_0) (fun w hok => x_fa 3 Try.underlying59 rfl rfl ts_3 (tmP rfl rfl)) ?_
        refine rg_take 8 rfl rfl (by kernel_rfl) (by kernel_rfl) (by kernel_rfl) (want_0) (fun w hok => x_load (v := .int .i64 v') Try.underlying3 rfl (tmP rfl rfl) (cellB (t := 59) (l := ndV l' r' s' v') hok (i' + 1) hi' rfl)) ?_
        refine rg_step 2 rfl (by kernel_rfl) (want_0) (oks_drop hS 1 rfl) ?_; intro K hK
        refine ow_call Try.func21 rfl rfl (evs_cons (tmA rfl rfl) <| evs_cons (tmI rfl rfl) <| evs_nil) (lcut_k a _ hl hkb2) ?_
        rintro e w ⟨rfl, hk2⟩
        refine ⟨_, rfl, ?_⟩
        replace hS := hS.kept hk2
        clear hk2
        refine hK _ _ ?_; clear hK K
        refine rg_take 4 rfl rfl (by kernel_rfl) (by kernel_rfl) (by kernel_rfl) (want_0) (fun w hok => x_build (bc_takeL (tmA rfl rfl) <| bc_take (tmI rfl rfl) <| bc_nil) (by kernel_rfl)) ?_
        refine rg_step 9 rfl (by kernel_rfl) (want_0) (oks_drop hS 1 rfl) ?_; intro K hK
        refine ow_storeA hS 0 rfl ts_32 (tmP rfl rfl) (tmA rfl rfl) rfl rfl rfl ?_
        clear hS; intro w hS
        try replace hS := St.nm (M' := [.blk _ _ [_, _, _, _], .blk _ _ [_, _, _], _]) hS rfl
        refine hK _ _ ?_; clear hK K
        refine rg_take 10 rfl rfl (by kernel_rfl) (by kernel_rfl) (by kernel_rfl) (want_0) (fun w hok => x_assign (tmI rfl rfl)) ?_
        refine rg_take 11 rfl rfl (by kernel_rfl) (by kernel_rfl) (by kernel_rfl) (want_0) (fun w hok => x_assign ev_c) ?_
        refine rg_done (oks_drop hS 1 rfl) (by kernel_rfl) ?_
        refine then_n (hK29 _ _ ?_); clear hK29 K29
        refine wp_ret ?_
        refine ret3 rfl (.cell rfl rfl (load_rowB (cs := [_, _, _, _]) hS.ok 0 rfl Try.underlying32 rfl ts_32 rfl)) (.tmp rfl (show _ = Value.int _ _ from rfl)) (.tmp rfl (show _ = Value.bool _ from rfl)) ?_
        first
          | exact ⟨hS.tail.tail, .inl ⟨hfX.symm, rfl⟩⟩
          | exact ⟨hS.tail.tail, .inr ⟨_, _, hfX.symm, hkb2, rfl⟩⟩
end Go.Proofs.Ytlpgedncnefaoaa
