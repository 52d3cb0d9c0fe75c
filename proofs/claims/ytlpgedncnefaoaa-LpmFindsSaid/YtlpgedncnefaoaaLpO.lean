
/- lpm: find, Get, Len, Set of what is not right, without, Drop by contract. Conditions: the counter fits. -/
import Derived.Test.YtlpgedncnefaoaaLpN
namespace Go.Proofs.Ytlpgedncnefaoaa
open Go.RowKit
/-- What a table says of a prefix. -/
def lookS (a : Ad) (z : Int) (m : Nat) (t : Sh) : Option Int := if rgtB a z m then getS (pbit a) m 0 t else none
/-- A node that is found among the entries, or none. -/
def FoundE (M : List Ent) (q : Option Addr) (o : Option Int) : Prop :=
  (q = none ∧ o = none) ∨ ∃ g l r v, q = some ⟨g, 0, none⟩ ∧ o = some v ∧ ∃ i : Nat, M[i]? = some (.blk g 59 (ndV l r true v))
theorem FoundE.some_of {M : List Ent} {q : Option Addr} {o : Option Int} (h : FoundE M q o) (hq : q.isNone = false) : ∃ g l r v, q = some ⟨g, 0, none⟩ ∧ o = some v ∧ ∃ i : Nat, M[i]? = some (.blk g 59 (ndV l r true v)) := by
  rcases h with ⟨h1, _⟩ | h
  · rw [h1] at hq; cases hq
  · exact h
theorem FoundE.none_of {M : List Ent} {q : Option Addr} {o : Option Int} (h : FoundE M q o) (hq : q.isNone = true) : o = none := by
  rcases h with ⟨_, h⟩ | ⟨g, l, r, v, h1, _⟩
  · exact h
  · rw [h1] at hq; cases hq
def pxV (a : Ad) (z : Int) : Array Value := #[.bool a.six, .int .u64 (a.high : Int), .int .u64 (a.low : Int), .int .i64 z]
set_option maxRecDepth 100000 in
set_option maxHeartbeats 8000000 in
theorem lfindp_no_c (tb : Nat) (a : Ad) (z : Int) (m : Nat) (w0 : World) (hl : adLim a) (hz : min (max z 0) (adBits a : Int) = (m : Int)) (hr : rgtB a z m = false) :
    Calls Try.prog 24 #[.pointer (some ⟨tb, 0, none⟩), .agg (pxV a z)] w0 fun e w' => e = .returned (.pointer none) ∧ Kp [] w0 w' := by
  have hS := St.sv w0
  refine ent (n := 49) Try.func24 rfl rfl ?_
  refine wp_seq_k ?_; intro K1 hK1
  refine wlit ?_
  refine wl_e rfl ?_; intro K hK
  refine ow_box hS (tmA rfl rfl) rfl ?_
  clear hS; intro g0_0 w hg0_0 hS
  refine hK _ _ ?_; clear hK K
  refine wl_v (x_assign ev_c) ?_
  refine wl_nil ?_
  refine then_n (hK1 _ _ ?_); clear hK1 K1
  refine wp_seq_k ?_; intro K2 hK2
  refine wp_seq_k ?_; intro K3 hK3
  refine wlit ?_
  refine wl_v (x_move (tmP rfl rfl)) ?_
  first
   | refine wl_v (x_peql Try.underlying27 (tmP rfl rfl) ev_c) ?_
   | refine wl_v (x_peqln Try.underlying27 (tmP rfl rfl) ev_c) ?_
  refine wl_v (x_move (tmB rfl rfl)) ?_
  refine gs_wl (tm (t := 9) rfl) (fun hg1_2 => ?_) (fun hg1_2 => ?_)
  · have hg1_2' := hg1_2; (try simp only [nrm] at hg1_2'); try (exfalso; first | with_reducible exact absurd hg1_2 Bool.false_ne_true | with_reducible exact absurd hg1_2.symm Bool.false_ne_true | omega | (simp at hg1_2; done))
    all_goals
     refine wl_s rfl (want_n rfl rfl rfl rfl (by rw [hg1_2]; rfl)) ?_
     refine wl_s rfl (want_n rfl rfl rfl rfl (by rw [hg1_2]; rfl)) ?_
     refine wl_s rfl (want_n rfl rfl rfl rfl (by rw [hg1_2]; rfl)) ?_
     refine wl_v (x_pickT (tmB rfl rfl) hg1_2 ev_c) ?_
     refine wl_nil ?_
     refine then_n (hK3 _ _ ?_); clear hK3 K3
     refine cnd_t (tmB rfl rfl) rfl ?_
     refine wp_seq_k ?_; intro K4 hK4
     refine wlit ?_
     refine wl_v (x_assign ev_c) ?_
     refine wl_nil ?_
     refine then_n (hK4 _ _ ?_); clear hK4 K4
     refine wp_ret ?_
     refine then_r ?_
     refine ret1 rfl (.tmp rfl (show _ = Value.pointer _ from rfl)) ?_
     exact ⟨rfl, hS.kp⟩
  have hg1_2' := hg1_2; (try simp only [nrm] at hg1_2'); try (exfalso; first | with_reducible exact absurd hg1_2 Bool.false_ne_true | with_reducible exact absurd hg1_2.symm Bool.false_ne_true | omega | (simp at hg1_2; done))
  all_goals
   refine wl_gv (want_y rfl rfl rfl rfl (by rw [hg1_2]; rfl)) (x_loadA (cs := [_, _, _, _]) Try.underlying32 rfl ts_32 (tmP rfl rfl) (rangeB hS.ok 0 rfl rfl)) ?_
   refine wl_g (want_y rfl rfl rfl rfl (by rw [hg1_2]; rfl)) ?_; intro K hK
   refine ow_call Try.func26 rfl rfl (evs_cons (tmA rfl rfl) <| evs_nil) (lright_c a z m _ hl hz) ?_
   rintro e w ⟨rfl, hk⟩
   refine ⟨_, rfl, ?_⟩
   replace hS := hS.kept hk
   clear hk
   refine hK _ _ ?_; clear hK K
   refine wl_gv (want_y rfl rfl rfl rfl (by rw [hg1_2]; rfl)) (x_not (tmB rfl rfl)) ?_
   refine wl_v (x_pickF (tmB rfl rfl) hg1_2 (tmB rfl rfl)) ?_
   refine wl_nil ?_
   refine then_n (hK3 _ _ ?_); clear hK3 K3
   refine cnds (tm rfl) (fun hc0 => ?_) (fun hc0 => ?_)
   · exfalso
     simp [hr] at hc0
   try (exfalso; first | with_reducible exact absurd hc0 Bool.false_ne_true | with_reducible exact absurd hc0.symm Bool.false_ne_true | (simp only [nrm] at hc0; omega) | (simp at hc0; done))
   all_goals
    try simp only [nrm] at hc0
    refine wp_seq_k ?_; intro K5 hK5
    refine wlit ?_
    refine wl_v (x_assign ev_c) ?_
    refine wl_nil ?_
    refine then_n (hK5 _ _ ?_); clear hK5 K5
    refine wp_ret ?_
    refine then_r ?_
    refine ret1 rfl (.tmp rfl (show _ = Value.pointer _ from rfl)) ?_
    exact ⟨rfl, hS.kp⟩
theorem nil_get {f : Nat → Nat} {m k : Nat} {t : TT} {o : Option Int} (h : t.p.isNone = true) (hf : getS f m k t.sh = o) : o = none := by
  obtain rfl := TT.nil_of (t := t) (by cases hp : t.p with | none => rfl | some z => rw [hp] at h; cases h)
  rw [← hf]
  exact getS_nil f m k
theorem end_f {f : Nat → Nat} {n k g : Nat} {l r : TT} {s : Bool} {v : Int} {o : Option Int} (h1 : n ≤ k) (h2 : k ≤ n) (hs : s = false) (hf : getS f (n - k) k (TT.nd g l r s v).sh = o) : o = none := by
  subst hs
  rw [show n - k = 0 from by omega] at hf
  exact hf.symm
theorem end_t {f : Nat → Nat} {n k g : Nat} {l r : TT} {s : Bool} {v : Int} {o : Option Int} (h1 : n ≤ k) (h2 : k ≤ n) (hs : s = true) (hf : getS f (n - k) k (TT.nd g l r s v).sh = o) : o = some v := by
  subst hs
  rw [show n - k = 0 from by omega] at hf
  exact hf.symm
set_option maxRecDepth 100000 in
set_option maxHeartbeats 8000000 in
theorem lfindp_yes_c (tb : Nat) (x o : TT) (c : Int) (a : Ad) (n : Nat) (Z : List Ent) (F : List Nat) (w1 w0 : World) (hS : St F w1 (ftab tb a.six x o c Z) w0) (hl : adLim a) (hr : rgtB a (n : Int) n = true) (hn : n ≤ adBits a) :
    Calls Try.prog 24 #[.pointer (some ⟨tb, 0, none⟩), .agg (pxV a (n : Int))] w0 fun e w' => ∃ q, e = .returned (.pointer q) ∧ FoundE (ftab tb a.six x o c Z) q (getS (pbit a) n 0 x.sh) ∧ St F w1 (ftab tb a.six x o c Z) w' := by
  have hb2 : ∀ i, pbit a i < 2 := pbit_lt a
  have hb3 : adBits a ≤ 128 := by unfold adBits; split <;> omega
  refine ent (n := 49) Try.func24 rfl rfl ?_
  refine wp_seq_k ?_; intro K1 hK1
  refine wlit ?_
  refine wl_e rfl ?_; intro K hK
  refine ow_box hS (tmA rfl rfl) rfl ?_
  clear hS; intro g0_0 w hg0_0 hS
  refine hK _ _ ?_; clear hK K
  refine wl_v (x_assign ev_c) ?_
  refine wl_nil ?_
  refine then_n (hK1 _ _ ?_); clear hK1 K1
  refine wp_seq_k ?_; intro K2 hK2
  refine wp_seq_k ?_; intro K3 hK3
  refine wlit ?_
  refine wl_v (x_move (tmP rfl rfl)) ?_
  first
   | refine wl_v (x_peql Try.underlying27 (tmP rfl rfl) ev_c) ?_
   | refine wl_v (x_peqln Try.underlying27 (tmP rfl rfl) ev_c) ?_
  refine wl_v (x_move (tmB rfl rfl)) ?_
  refine gs_wl (tm (t := 9) rfl) (fun hg1_2 => ?_) (fun hg1_2 => ?_)
  · have hg1_2' := hg1_2; (try simp only [nrm] at hg1_2'); try (exfalso; first | with_reducible exact absurd hg1_2 Bool.false_ne_true | with_reducible exact absurd hg1_2.symm Bool.false_ne_true | omega | (simp at hg1_2; done))
    all_goals
     refine wl_s rfl (want_n rfl rfl rfl rfl (by rw [hg1_2]; rfl)) ?_
     refine wl_s rfl (want_n rfl rfl rfl rfl (by rw [hg1_2]; rfl)) ?_
     refine wl_s rfl (want_n rfl rfl rfl rfl (by rw [hg1_2]; rfl)) ?_
     refine wl_v (x_pickT (tmB rfl rfl) hg1_2 ev_c) ?_
     refine wl_nil ?_
     refine then_n (hK3 _ _ ?_); clear hK3 K3
     refine cnd_t (tmB rfl rfl) rfl ?_
     refine wp_seq_k ?_; intro K4 hK4
     refine wlit ?_
     refine wl_v (x_assign ev_c) ?_
     refine wl_nil ?_
     refine then_n (hK4 _ _ ?_); clear hK4 K4
     refine wp_ret ?_
     refine then_r ?_
     refine ret1 rfl (.tmp rfl (show _ = Value.pointer _ from rfl)) ?_
     first
       | exact ⟨none, rfl, .inl ⟨rfl, nil_get hg8_2 hf⟩, hS.tail⟩
       | exact ⟨none, rfl, .inl ⟨rfl, end_f hg5_4' hk hc2 hf⟩, hS.tail⟩
       | exact ⟨some ⟨gn, 0, none⟩, rfl, .inr ⟨gn, l, r, v, rfl, end_t hg5_4' hk hc2 hf, i, by rw [hc2] at hi; exact hi⟩, hS.tail⟩
       | (cases hc1; done)
  have hg1_2' := hg1_2; (try simp only [nrm] at hg1_2'); try (exfalso; first | with_reducible exact absurd hg1_2 Bool.false_ne_true | with_reducible exact absurd hg1_2.symm Bool.false_ne_true | omega | (simp at hg1_2; done))
  all_goals
   refine wl_gv (want_y rfl rfl rfl rfl (by rw [hg1_2]; rfl)) (x_loadA (cs := [_, _, _, _]) Try.underlying32 rfl ts_32 (tmP rfl rfl) (rangeB hS.ok 0 rfl rfl)) ?_
   refine wl_g (want_y rfl rfl rfl rfl (by rw [hg1_2]; rfl)) ?_; intro K hK
   refine ow_call Try.func26 rfl rfl (evs_cons (tmA rfl rfl) <| evs_nil) (lright_c a (n : Int) n _ hl (by omega)) ?_
   rintro e w ⟨rfl, hk⟩
   refine ⟨_, rfl, ?_⟩
   replace hS := hS.kept hk
   clear hk
   refine hK _ _ ?_; clear hK K
   refine wl_gv (want_y rfl rfl rfl rfl (by rw [hg1_2]; rfl)) (x_not (tmB rfl rfl)) ?_
   refine wl_v (x_pickF (tmB rfl rfl) hg1_2 (tmB rfl rfl)) ?_
   refine wl_nil ?_
   refine then_n (hK3 _ _ ?_); clear hK3 K3
   refine cnd (tm rfl) (fun hc0 => ?_) (fun hc0 => ?_)
   · exfalso
     simp [hr] at hc0
   try (exfalso; first | with_reducible exact absurd hc0 Bool.false_ne_true | with_reducible exact absurd hc0.symm Bool.false_ne_true | (simp only [nrm] at hc0; omega) | (simp at hc0; done))
   all_goals
    try simp only [nrm] at hc0
    refine wp_skip ?_
    refine then_n (hK2 _ _ ?_); clear hK2 K2
    refine wp_seq_k ?_; intro K5 hK5
    refine wlit ?_
    refine wl_v (x_move (tmP rfl rfl)) ?_
    refine wl_v (x_fa 0 Try.underlying32 rfl rfl ts_25 (tmP rfl rfl)) ?_
    refine wl_v (x_loadA (cs := [_, _, _]) Try.underlying25 rfl ts_25 (tmP rfl rfl) (rangeB hS.ok 0 rfl rfl)) ?_
    refine wl_e rfl ?_; intro K hK
    refine ow_call Try.func18 rfl rfl (evs_cons (tmP rfl rfl) <| evs_cons (tmA rfl rfl) <| evs_nil) (root_c tb a _) ?_
    rintro e w ⟨rfl, hk⟩
    refine ⟨_, rfl, ?_⟩
    replace hS := hS.kept hk
    clear hk
    refine hK _ _ ?_; clear hK K
    refine wl_v (x_nil (A := none) (tmP rfl rfl)) ?_
    refine wl_v (x_load (v := .pointer x.p) Try.underlying45 rfl (tmP rfl rfl) (cellB (t := 47) (l := tabV a.six x o c) hS.ok 1 rfl (by cases a.six <;> rfl))) ?_
    refine wl_v (x_assign (tmP rfl rfl)) ?_
    refine wl_nil ?_
    refine then_n (hK5 _ _ ?_); clear hK5 K5
    refine wp_seq_k ?_; intro K6 hK6
    refine wp_seq_k ?_; intro K7 hK7
    refine wlit ?_
    refine wl_v (x_assign (ev_cN 0)) ?_
    refine wl_nil ?_
    refine then_n (hK7 _ _ ?_); clear hK7 K7
    refine wp_block ?_
    have hes0 : ∀ e ∈ x.es, e ∈ ftab tb a.six x o c Z := fun e he => List.mem_cons_of_mem _ (List.mem_append_left _ he)
    refine lp [5, 6, 20, 21, 22, 23, 24, 25, 26, 27, 28, 29, 30, 31, 32, 33, 34, 35, 36, 37, 38] (fun mz g w => ∃ (k : Nat), ∃ (sub : TT), mz = adBits a + 1 - k ∧ g 6 = .int .i64 (k : Int) ∧ g 5 = .pointer sub.p ∧ St F w1 (.blk g0_0 32 [.bool a.six, .int .u64 (a.high : Int), .int .u64 (a.low : Int), .int .i64 (n : Int)] :: ftab tb a.six x o c Z) w ∧ (k ≤ n) ∧ (∀ e ∈ sub.es, e ∈ ftab tb a.six x o c Z) ∧ (getS (pbit a) (n - k) k sub.sh = getS (pbit a) n 0 x.sh)) ?_ ?_
    · exact ⟨_, 0, x, rfl, (by first | rfl | go_num | exact congrArg (Value.int _) (by first | omega | (simp; done) | (simp; omega))), (by first | rfl | go_num | exact congrArg (Value.int _) (by first | omega | (simp; done) | (simp; omega))), hS, (by omega), (by first | exact hes0 | exact es_kid hes _), (by first | exact hf2 | rfl)⟩
    · clear hS; intro mz g w hI
      obtain ⟨k, sub, rfl, hs6, hs5, hS, hk, hes, hf⟩ := hI
      refine fr_know (d := 6) hs6 ?_; clear hs6
      refine fr_know (d := 5) hs5 ?_; clear hs5
      refine wp_seq_k ?_; intro K8 hK8
      refine wp_seq_k ?_; intro K9 hK9
      refine wlit ?_
      refine wl_v (x_move (tmI rfl rfl)) ?_
      refine wl_v (x_fa 3 Try.underlying32 rfl rfl ts_3 (tmP rfl rfl)) ?_
      first
       | refine wl_v (x_load Try.underlying3 rfl (tmP rfl rfl) (cellB hS.ok 0 rfl rfl)) ?_
       | refine wl_v (x_load Try.underlying3 rfl (tmP rfl rfl) (cellB hS.ok 0 rfl (getm (by omega)))) ?_
      refine wl_v (x_lss (tmI rfl rfl) (tmI rfl rfl)) ?_
      refine wl_v (x_move (tmB rfl rfl)) ?_
      refine gs_wl (tm (t := 24) rfl) (fun hg5_4 => ?_) (fun hg5_4 => ?_)
      · have hg5_4' := hg5_4; (try simp only [nrm] at hg5_4'); try (exfalso; first | with_reducible exact absurd hg5_4 Bool.false_ne_true | with_reducible exact absurd hg5_4.symm Bool.false_ne_true | omega | (simp at hg5_4; done))
        all_goals
         refine wl_gv (want_y rfl rfl rfl rfl (by rw [hg5_4]; rfl)) (x_move (tmP rfl rfl)) ?_
         refine wl_gv (want_y rfl rfl rfl rfl (by rw [hg5_4]; rfl)) (x_pneqo Try.underlying45 (tmP rfl rfl) ev_c) ?_
         refine wl_v (x_pickT (tmB rfl rfl) hg5_4 (tmB rfl rfl)) ?_
         refine wl_nil ?_
         refine then_n (hK9 _ _ ?_); clear hK9 K9
         refine cnd (tm rfl) (fun hc1 => ?_) (fun hc1 => ?_)
         · try (exfalso; first | with_reducible exact absurd hc1 Bool.false_ne_true | with_reducible exact absurd hc1.symm Bool.false_ne_true | (simp only [nrm] at hc1; omega) | (simp at hc1; done))
           all_goals
            try simp only [nrm] at hc1
            refine wp_skip ?_
            refine then_n (hK8 _ _ ?_); clear hK8 K8
            refine wp_seq_k ?_; intro K10 hK10
            refine wp_block ?_
            obtain ⟨gn, l, r, s, v, rfl⟩ := TT.nd_of (t := sub) (by intro h; rw [h] at hc1; cases hc1)
            obtain ⟨i, hi⟩ := es_get hes rfl
            refine rg_startk 0 hS mixed_ ?_
            clear hS; intro w hS
            refine rg_take 0 rfl rfl (by kernel_rfl) (by kernel_rfl) (by kernel_rfl) (want_0) (fun w hok => x_move (tmP rfl rfl)) ?_
            refine rg_take 1 rfl rfl (by kernel_rfl) (by kernel_rfl) (by kernel_rfl) (want_0) (fun w hok => x_fa 0 Try.underlying32 rfl rfl ts_25 (tmP rfl rfl)) ?_
            refine rg_take 2 rfl rfl (by kernel_rfl) (by kernel_rfl) (by kernel_rfl) (want_0) (fun w hok => x_loadA (cs := [_, _, _]) Try.underlying25 rfl ts_25 (tmP rfl rfl) (rangeB hok 0 rfl rfl)) ?_
            refine rg_take 3 rfl rfl (by kernel_rfl) (by kernel_rfl) (by kernel_rfl) (want_0) (fun w hok => x_move (tmI rfl rfl)) ?_
            refine rg_take 5 rfl rfl (by kernel_rfl) (by kernel_rfl) (by kernel_rfl) (want_0) (fun w hok => x_nil (A := none) (tmP rfl rfl)) ?_
            refine rg_take 6 rfl rfl (by kernel_rfl) (by kernel_rfl) (by kernel_rfl) (want_0) (fun w hok => x_fa 0 Try.underlying59 rfl rfl ts_57 (tmP rfl rfl)) ?_
            refine rg_step 4 rfl (by kernel_rfl) (want_0) (oks_drop hS 0 rfl) ?_; intro K hK
            refine ow_call Try.func20 rfl rfl (evs_cons (tmA rfl rfl) <| evs_cons (tmI rfl rfl) <| evs_nil) (lbit_c a k _ hl (by omega)) ?_
            rintro e w ⟨rfl, hk2⟩
            refine ⟨_, rfl, ?_⟩
            replace hS := hS.kept hk2
            clear hk2
            refine hK _ _ ?_; clear hK K
            have hb := hb2 k
            refine rg_take 7 rfl rfl (by kernel_rfl) (by kernel_rfl) (by kernel_rfl) (want_0) (fun w hok => x_ixa1 Try.underlying57 ts_45 (tmP rfl rfl) (tmI rfl rfl) (by omega)) ?_
            refine rg_take 8 rfl rfl (by kernel_rfl) (by kernel_rfl) (by kernel_rfl) (want_0) (fun w hok => x_load (v := .pointer (TT.kid (.nd gn l r s v) (pbit a k)).p) Try.underlying45 rfl (tmP rfl rfl) (cellB (t := 59) (l := ndV l r s v) hok (i + 1) hi (by rw [show 0 + 0 + pbit a k = pbit a k from by omega]; exact ndV_kid gn l r s v _ (hb2 k)))) ?_
            refine rg_take 9 rfl rfl (by kernel_rfl) (by kernel_rfl) (by kernel_rfl) (want_0) (fun w hok => x_assign (tmP rfl rfl)) ?_
            refine rg_done (oks_drop hS 0 rfl) (by kernel_rfl) ?_
            refine inb_n ?_
            refine then_n (hK10 _ _ ?_); clear hK10 K10
            refine wlit ?_
            refine wl_v (x_move (tmI rfl rfl)) ?_
            first
             | refine wl_v (x_addN (tmI rfl rfl) (ev_cN 1) (fit_i64 (by omega))) ?_
             | refine wl_v (x_addI (tmI rfl rfl) (ev_cN 1) (IntWalk.i64_in _ (by omega))) ?_
             | refine wl_v (x_add (tmI rfl rfl) (ev_cN 1)) ?_
            refine wl_v (x_assign (tmI rfl rfl)) ?_
            refine wl_nil ?_
            have hm : n - k = (n - (k + 1)) + 1 := by omega
            have hf2 := hf
            rw [hm, getS_succ, ← TT.kid_sh] at hf2
            exact then_n ⟨_, _, rfl, (by show _ < _; omega), (by repeat (first | exact agree_self | exact agree_refl | refine agree_upd rfl ?_ | refine agree_mix rfl ?_)), k + 1, TT.kid (.nd gn l r s v) (pbit a k), rfl, (by first | rfl | go_num | exact congrArg (Value.int _) (by first | omega | (simp; done) | (simp; omega))), (by first | rfl | go_num | exact congrArg (Value.int _) (by first | omega | (simp; done) | (simp; omega))), hS, (by omega), (by first | exact hes0 | exact es_kid hes _), (by first | exact hf2 | rfl)⟩
         try (exfalso; first | with_reducible exact absurd hc1 Bool.false_ne_true | with_reducible exact absurd hc1.symm Bool.false_ne_true | (simp only [nrm] at hc1; omega) | (simp at hc1; done))
         all_goals
          try simp only [nrm] at hc1
          refine wp_exit ?_
          refine then_x ?_; clear hK8 K8
          refine then_x ?_
          refine inb_x ?_
          refine then_n (hK6 _ _ ?_); clear hK6 K6
          refine wp_seq_k ?_; intro K11 hK11
          refine wp_seq_k ?_; intro K12 hK12
          refine wlit ?_
          refine wl_v (x_move (tmP rfl rfl)) ?_
          refine wl_v (x_peqo Try.underlying45 (tmP rfl rfl) ev_c) ?_
          refine wl_v (x_move (tmB rfl rfl)) ?_
          refine gs_wl (tm (t := 41) rfl) (fun hg8_2 => ?_) (fun hg8_2 => ?_)
          · have hg8_2' := hg8_2; (try simp only [nrm] at hg8_2'); try (exfalso; first | with_reducible exact absurd hg8_2 Bool.false_ne_true | with_reducible exact absurd hg8_2.symm Bool.false_ne_true | omega | (simp at hg8_2; done))
            all_goals
             refine wl_s rfl (want_n rfl rfl rfl rfl (by rw [hg8_2]; rfl)) ?_
             refine wl_s rfl (want_n rfl rfl rfl rfl (by rw [hg8_2]; rfl)) ?_
             refine wl_s rfl (want_n rfl rfl rfl rfl (by rw [hg8_2]; rfl)) ?_
             refine wl_s rfl (want_n rfl rfl rfl rfl (by rw [hg8_2]; rfl)) ?_
             refine wl_s rfl (want_n rfl rfl rfl rfl (by rw [hg8_2]; rfl)) ?_
             refine wl_v (x_pickT (tmB rfl rfl) hg8_2 ev_c) ?_
             refine wl_nil ?_
             refine then_n (hK12 _ _ ?_); clear hK12 K12
             refine cnd_t (tmB rfl rfl) rfl ?_
             refine wp_seq_k ?_; intro K13 hK13
             refine wlit ?_
             refine wl_v (x_assign ev_c) ?_
             refine wl_nil ?_
             refine then_n (hK13 _ _ ?_); clear hK13 K13
             refine wp_ret ?_
             refine then_r ?_
             refine ret1 rfl (.tmp rfl (show _ = Value.pointer _ from rfl)) ?_
             first
               | exact ⟨none, rfl, .inl ⟨rfl, nil_get hg8_2 hf⟩, hS.tail⟩
               | exact ⟨none, rfl, .inl ⟨rfl, end_f hg5_4' hk hc2 hf⟩, hS.tail⟩
               | exact ⟨some ⟨gn, 0, none⟩, rfl, .inr ⟨gn, l, r, v, rfl, end_t hg5_4' hk hc2 hf, i, by rw [hc2] at hi; exact hi⟩, hS.tail⟩
               | (cases hc1; done)
          have hg8_2' := hg8_2; (try simp only [nrm] at hg8_2'); try (exfalso; first | with_reducible exact absurd hg8_2 Bool.false_ne_true | with_reducible exact absurd hg8_2.symm Bool.false_ne_true | omega | (simp at hg8_2; done))
          all_goals
           obtain ⟨gn, l, r, s, v, rfl⟩ := TT.nd_of (t := sub) (by intro h; rw [h] at hg8_2; cases hg8_2)
           obtain ⟨i, hi⟩ := es_get hes rfl
           refine wl_gv (want_y rfl rfl rfl rfl (by rw [hg8_2]; rfl)) (x_move (tmP rfl rfl)) ?_
           refine wl_gv (want_y rfl rfl rfl rfl (by rw [hg8_2]; rfl)) (x_nil (A := none) (tmP rfl rfl)) ?_
           refine wl_gv (want_y rfl rfl rfl rfl (by rw [hg8_2]; rfl)) (x_fa 2 Try.underlying59 rfl rfl ts_4 (tmP rfl rfl)) ?_
           refine wl_gv (want_y rfl rfl rfl rfl (by rw [hg8_2]; rfl)) (x_load (v := .bool s) Try.underlying4 rfl (tmP rfl rfl) (cellB (t := 59) (l := ndV l r s v) hS.ok (i + 1) hi rfl)) ?_
           refine wl_gv (want_y rfl rfl rfl rfl (by rw [hg8_2]; rfl)) (x_not (tmB rfl rfl)) ?_
           refine wl_v (x_pickF (tmB rfl rfl) hg8_2 (tmB rfl rfl)) ?_
           refine wl_nil ?_
           refine then_n (hK12 _ _ ?_); clear hK12 K12
           refine cnd (tm rfl) (fun hc2 => ?_) (fun hc2 => ?_)
           · try (exfalso; first | with_reducible exact absurd hc2 Bool.false_ne_true | with_reducible exact absurd hc2.symm Bool.false_ne_true | (simp only [nrm] at hc2; omega) | (simp at hc2; done))
             all_goals
              try simp only [nrm] at hc2
              refine wp_seq_k ?_; intro K14 hK14
              refine wlit ?_
              refine wl_v (x_assign ev_c) ?_
              refine wl_nil ?_
              refine then_n (hK14 _ _ ?_); clear hK14 K14
              refine wp_ret ?_
              refine then_r ?_
              refine ret1 rfl (.tmp rfl (show _ = Value.pointer _ from rfl)) ?_
              first
                | exact ⟨none, rfl, .inl ⟨rfl, nil_get hg8_2 hf⟩, hS.tail⟩
                | exact ⟨none, rfl, .inl ⟨rfl, end_f hg5_4' hk hc2 hf⟩, hS.tail⟩
                | exact ⟨some ⟨gn, 0, none⟩, rfl, .inr ⟨gn, l, r, v, rfl, end_t hg5_4' hk hc2 hf, i, by rw [hc2] at hi; exact hi⟩, hS.tail⟩
                | (cases hc1; done)
           try (exfalso; first | with_reducible exact absurd hc2 Bool.false_ne_true | with_reducible exact absurd hc2.symm Bool.false_ne_true | (simp only [nrm] at hc2; omega) | (simp at hc2; done))
           all_goals
            try simp only [nrm] at hc2
            refine wp_skip ?_
            refine then_n (hK11 _ _ ?_); clear hK11 K11
            refine wp_seq_k ?_; intro K15 hK15
            refine wlit ?_
            refine wl_v (x_move (tmP rfl rfl)) ?_
            refine wl_v (x_assign (tmP rfl rfl)) ?_
            refine wl_nil ?_
            refine then_n (hK15 _ _ ?_); clear hK15 K15
            refine wp_ret ?_
            refine ret1 rfl (.tmp rfl (show _ = Value.pointer _ from rfl)) ?_
            first
              | exact ⟨none, rfl, .inl ⟨rfl, nil_get hg8_2 hf⟩, hS.tail⟩
              | exact ⟨none, rfl, .inl ⟨rfl, end_f hg5_4' hk hc2 hf⟩, hS.tail⟩
              | exact ⟨some ⟨gn, 0, none⟩, rfl, .inr ⟨gn, l, r, v, rfl, end_t hg5_4' hk hc2 hf, i, by rw [hc2] at hi; exact hi⟩, hS.tail⟩
              | (cases hc1; done)
      have hg5_4' := hg5_4; (try simp only [nrm] at hg5_4'); try (exfalso; first | with_reducible exact absurd hg5_4 Bool.false_ne_true | with_reducible exact absurd hg5_4.symm Bool.false_ne_true | omega | (simp at hg5_4; done))
      all_goals
       refine wl_s rfl (want_n rfl rfl rfl rfl (by rw [hg5_4]; rfl)) ?_
       refine wl_s rfl (want_n rfl rfl rfl rfl (by rw [hg5_4]; rfl)) ?_
       refine wl_v (x_pickF (tmB rfl rfl) hg5_4 ev_c) ?_
       refine wl_nil ?_
       refine then_n (hK9 _ _ ?_); clear hK9 K9
       refine cnd_f (tmB rfl rfl) rfl ?_
       refine wp_exit ?_
       refine then_x ?_; clear hK8 K8
       refine then_x ?_
       refine inb_x ?_
       refine then_n (hK6 _ _ ?_); clear hK6 K6
       refine wp_seq_k ?_; intro K16 hK16
       refine wp_seq_k ?_; intro K17 hK17
       refine wlit ?_
       refine wl_v (x_move (tmP rfl rfl)) ?_
       refine wl_v (x_peqo Try.underlying45 (tmP rfl rfl) ev_c) ?_
       refine wl_v (x_move (tmB rfl rfl)) ?_
       refine gs_wl (tm (t := 41) rfl) (fun hg8_2 => ?_) (fun hg8_2 => ?_)
       · have hg8_2' := hg8_2; (try simp only [nrm] at hg8_2'); try (exfalso; first | with_reducible exact absurd hg8_2 Bool.false_ne_true | with_reducible exact absurd hg8_2.symm Bool.false_ne_true | omega | (simp at hg8_2; done))
         all_goals
          refine wl_s rfl (want_n rfl rfl rfl rfl (by rw [hg8_2]; rfl)) ?_
          refine wl_s rfl (want_n rfl rfl rfl rfl (by rw [hg8_2]; rfl)) ?_
          refine wl_s rfl (want_n rfl rfl rfl rfl (by rw [hg8_2]; rfl)) ?_
          refine wl_s rfl (want_n rfl rfl rfl rfl (by rw [hg8_2]; rfl)) ?_
          refine wl_s rfl (want_n rfl rfl rfl rfl (by rw [hg8_2]; rfl)) ?_
          refine wl_v (x_pickT (tmB rfl rfl) hg8_2 ev_c) ?_
          refine wl_nil ?_
          refine then_n (hK17 _ _ ?_); clear hK17 K17
          refine cnd_t (tmB rfl rfl) rfl ?_
          refine wp_seq_k ?_; intro K18 hK18
          refine wlit ?_
          refine wl_v (x_assign ev_c) ?_
          refine wl_nil ?_
          refine then_n (hK18 _ _ ?_); clear hK18 K18
          refine wp_ret ?_
          refine then_r ?_
          refine ret1 rfl (.tmp rfl (show _ = Value.pointer _ from rfl)) ?_
          first
            | exact ⟨none, rfl, .inl ⟨rfl, nil_get hg8_2 hf⟩, hS.tail⟩
            | exact ⟨none, rfl, .inl ⟨rfl, end_f hg5_4' hk hc2 hf⟩, hS.tail⟩
            | exact ⟨some ⟨gn, 0, none⟩, rfl, .inr ⟨gn, l, r, v, rfl, end_t hg5_4' hk hc2 hf, i, by rw [hc2] at hi; exact hi⟩, hS.tail⟩
            | (cases hc1; done)
       have hg8_2' := hg8_2; (try simp only [nrm] at hg8_2'); try (exfalso; first | with_reducible exact absurd hg8_2 Bool.false_ne_true | with_reducible exact absurd hg8_2.symm Bool.false_ne_true | omega | (simp at hg8_2; done))
       all_goals
        obtain ⟨gn, l, r, s, v, rfl⟩ := TT.nd_of (t := sub) (by intro h; rw [h] at hg8_2; cases hg8_2)
        obtain ⟨i, hi⟩ := es_get hes rfl
        refine wl_gv (want_y rfl rfl rfl rfl (by rw [hg8_2]; rfl)) (x_move (tmP rfl rfl)) ?_
        refine wl_gv (want_y rfl rfl rfl rfl (by rw [hg8_2]; rfl)) (x_nil (A := none) (tmP rfl rfl)) ?_
        refine wl_gv (want_y rfl rfl rfl rfl (by rw [hg8_2]; rfl)) (x_fa 2 Try.underlying59 rfl rfl ts_4 (tmP rfl rfl)) ?_
        refine wl_gv (want_y rfl rfl rfl rfl (by rw [hg8_2]; rfl)) (x_load (v := .bool s) Try.underlying4 rfl (tmP rfl rfl) (cellB (t := 59) (l := ndV l r s v) hS.ok (i + 1) hi rfl)) ?_
        refine wl_gv (want_y rfl rfl rfl rfl (by rw [hg8_2]; rfl)) (x_not (tmB rfl rfl)) ?_
        refine wl_v (x_pickF (tmB rfl rfl) hg8_2 (tmB rfl rfl)) ?_
        refine wl_nil ?_
        refine then_n (hK17 _ _ ?_); clear hK17 K17
        refine cnd (tm rfl) (fun hc2 => ?_) (fun hc2 => ?_)
        · try (exfalso; first | with_reducible exact absurd hc2 Bool.false_ne_true | with_reducible exact absurd hc2.symm Bool.false_ne_true | (simp only [nrm] at hc2; omega) | (simp at hc2; done))
          all_goals
           try simp only [nrm] at hc2
           refine wp_seq_k ?_; intro K19 hK19
           refine wlit ?_
           refine wl_v (x_assign ev_c) ?_
           refine wl_nil ?_
           refine then_n (hK19 _ _ ?_); clear hK19 K19
           refine wp_ret ?_
           refine then_r ?_
           refine ret1 rfl (.tmp rfl (show _ = Value.pointer _ from rfl)) ?_
           first
             | exact ⟨none, rfl, .inl ⟨rfl, nil_get hg8_2 hf⟩, hS.tail⟩
             | exact ⟨none, rfl, .inl ⟨rfl, end_f hg5_4' hk hc2 hf⟩, hS.tail⟩
             | exact ⟨some ⟨gn, 0, none⟩, rfl, .inr ⟨gn, l, r, v, rfl, end_t hg5_4' hk hc2 hf, i, by rw [hc2] at hi; exact hi⟩, hS.tail⟩
             | (cases hc1; done)
        try (exfalso; first | with_reducible exact absurd hc2 Bool.false_ne_true | with_reducible exact absurd hc2.symm Bool.false_ne_true | (simp only [nrm] at hc2; omega) | (simp at hc2; done))
        all_goals
         try simp only [nrm] at hc2
         refine wp_skip ?_
         refine then_n (hK16 _ _ ?_); clear hK16 K16
         refine wp_seq_k ?_; intro K20 hK20
         refine wlit ?_
         refine wl_v (x_move (tmP rfl rfl)) ?_
         refine wl_v (x_assign (tmP rfl rfl)) ?_
         refine wl_nil ?_
         refine then_n (hK20 _ _ ?_); clear hK20 K20
         refine wp_ret ?_
         refine ret1 rfl (.tmp rfl (show _ = Value.pointer _ from rfl)) ?_
         first
           | exact ⟨none, rfl, .inl ⟨rfl, nil_get hg8_2 hf⟩, hS.tail⟩
           | exact ⟨none, rfl, .inl ⟨rfl, end_f hg5_4' hk hc2 hf⟩, hS.tail⟩
           | exact ⟨some ⟨gn, 0, none⟩, rfl, .inr ⟨gn, l, r, v, rfl, end_t hg5_4' hk hc2 hf, i, by rw [hc2] at hi; exact hi⟩, hS.tail⟩
           | (cases hc1; done)
/-- find, of whatever prefix. -/
theorem lfindp_c (tb : Nat) (x o : TT) (c : Int) (a : Ad) (z : Int) (m : Nat) (Z : List Ent) (F : List Nat) (w1 w0 : World) (hS : St F w1 (ftab tb a.six x o c Z) w0) (hl : adLim a) (hz : min (max z 0) (adBits a : Int) = (m : Int)) :
    Calls Try.prog 24 #[.pointer (some ⟨tb, 0, none⟩), .agg (pxV a z)] w0 fun e w' => ∃ q, e = .returned (.pointer q) ∧ FoundE (ftab tb a.six x o c Z) q (lookS a z m x.sh) ∧ St F w1 (ftab tb a.six x o c Z) w' := by
  by_cases hr : rgtB a z m = true
  · obtain ⟨hp, rfl⟩ := (rgtB_iff a z m hl hz).1 hr
    rw [lookS, if_pos hr]
    exact lfindp_yes_c tb x o c a m Z F w1 w0 hS hl hr hp.2.2.1
  · refine Calls.mono (lfindp_no_c tb a z m w0 hl hz (by simpa using hr)) ?_
    rintro e w' ⟨rfl, hk⟩
    exact ⟨none, rfl, .inl ⟨rfl, by rw [lookS, if_neg hr]⟩, hS.kept hk⟩
/-- The value that Get gives. -/
def gotV (o : Option Int) : Value := .tuple #[.int .i64 (o.getD 0), .bool o.isSome]
set_option maxRecDepth 100000 in
set_option maxHeartbeats 8000000 in
theorem lget_c (tb : Nat) (x o : TT) (c : Int) (a : Ad) (z : Int) (m : Nat) (Z : List Ent) (F : List Nat) (w1 w0 : World) (hS : St F w1 (ftab tb a.six x o c Z) w0) (hl : adLim a) (hz : min (max z 0) (adBits a : Int) = (m : Int)) :
    Calls Try.prog 11 #[.pointer (some ⟨tb, 0, none⟩), .agg (pxV a z)] w0 fun e w' => e = .returned (gotV (lookS a z m x.sh)) ∧ St F w1 (ftab tb a.six x o c Z) w' := by
  refine ent (n := 16) Try.func11 rfl rfl ?_
  refine wp_seq_k ?_; intro K1 hK1
  refine wlit ?_
  refine wl_e rfl ?_; intro K hK
  refine ow_box hS (tmA rfl rfl) rfl ?_
  clear hS; intro g0_0 w hg0_0 hS
  refine hK _ _ ?_; clear hK K
  refine wl_v (x_assign (ev_cN 0)) ?_
  refine wl_v (x_assign ev_c) ?_
  refine wl_nil ?_
  refine then_n (hK1 _ _ ?_); clear hK1 K1
  refine wp_seq_k ?_; intro K2 hK2
  refine wlit ?_
  refine wl_v (x_move (tmP rfl rfl)) ?_
  refine wl_v (x_loadA (cs := [_, _, _, _]) Try.underlying32 rfl ts_32 (tmP rfl rfl) (rangeB hS.ok 0 rfl rfl)) ?_
  refine wl_e rfl ?_; intro K hK
  refine ow_call Try.func24 rfl rfl (evs_cons (tmP rfl rfl) <| evs_cons (tmA rfl rfl) <| evs_nil) (lfindp_c tb x o c a z m (.blk g0_0 32 [.bool a.six, .int .u64 (a.high : Int), .int .u64 (a.low : Int), .int .i64 z] :: Z) F w1 _ (hS.perm ftab_in) hl hz) ?_
  rintro e w ⟨q, rfl, hq, hS⟩
  refine ⟨_, rfl, ?_⟩
  skip
  refine hK _ _ ?_; clear hK K
  refine wl_v (x_assign (tmP rfl rfl)) ?_
  refine wl_nil ?_
  refine then_n (hK2 _ _ ?_); clear hK2 K2
  refine wp_seq_k ?_; intro K3 hK3
  refine wp_seq_k ?_; intro K4 hK4
  refine wlit ?_
  refine wl_v (x_move (tmP rfl rfl)) ?_
  refine wl_v (x_peqo Try.underlying45 (tmP rfl rfl) ev_c) ?_
  refine wl_nil ?_
  refine then_n (hK4 _ _ ?_); clear hK4 K4
  refine cnd (tm rfl) (fun hc0 => ?_) (fun hc0 => ?_)
  · try (exfalso; first | with_reducible exact absurd hc0 Bool.false_ne_true | with_reducible exact absurd hc0.symm Bool.false_ne_true | (simp only [nrm] at hc0; omega) | (simp at hc0; done))
    all_goals
     try simp only [nrm] at hc0
     refine wp_seq_k ?_; intro K5 hK5
     refine wlit ?_
     refine wl_v (x_assign (ev_cN 0)) ?_
     refine wl_v (x_assign ev_c) ?_
     refine wl_nil ?_
     refine then_n (hK5 _ _ ?_); clear hK5 K5
     refine wp_ret ?_
     refine then_r ?_
     refine ret2 rfl (.tmp rfl (show _ = Value.int _ _ from rfl)) (.tmp rfl (show _ = Value.bool _ from rfl)) ?_
     first
       | exact ⟨by rw [hq.none_of hc0]; rfl, (hS.perm ftab_in.symm).tail⟩
       | exact ⟨by rw [h3]; rfl, (hS.perm ftab_in.symm).tail⟩
  try (exfalso; first | with_reducible exact absurd hc0 Bool.false_ne_true | with_reducible exact absurd hc0.symm Bool.false_ne_true | (simp only [nrm] at hc0; omega) | (simp at hc0; done))
  all_goals
   try simp only [nrm] at hc0
   refine wp_skip ?_
   refine then_n (hK3 _ _ ?_); clear hK3 K3
   refine wp_seq_k ?_; intro K6 hK6
   obtain ⟨g', l', r', v', h1, h3, i', hi'⟩ := hq.some_of hc0
   subst h1
   refine wlit ?_
   refine wl_v (x_move (tmP rfl rfl)) ?_
   refine wl_v (x_nil (A := none) (tmP rfl rfl)) ?_
   refine wl_v (x_fa 3 Try.underlying59 rfl rfl ts_3 (tmP rfl rfl)) ?_
   refine wl_v (x_load (v := .int .i64 v') Try.underlying3 rfl (tmP rfl rfl) (cellB (t := 59) (l := ndV l' r' true v') hS.ok i' hi' rfl)) ?_
   refine wl_v (x_assign (tmI rfl rfl)) ?_
   refine wl_v (x_assign ev_c) ?_
   refine wl_nil ?_
   refine then_n (hK6 _ _ ?_); clear hK6 K6
   refine wp_ret ?_
   refine ret2 rfl (.tmp rfl (show _ = Value.int _ _ from rfl)) (.tmp rfl (show _ = Value.bool _ from rfl)) ?_
   first
     | exact ⟨by rw [hq.none_of hc0]; rfl, (hS.perm ftab_in.symm).tail⟩
     | exact ⟨by rw [h3]; rfl, (hS.perm ftab_in.symm).tail⟩
set_option maxRecDepth 100000 in
set_option maxHeartbeats 8000000 in
theorem llen_c (tb : Nat) (six : Bool) (x o : TT) (c : Int) (Z : List Ent) (F : List Nat) (w1 w0 : World) (hS : St F w1 (ftab tb six x o c Z) w0) :
    Calls Try.prog 12 #[.pointer (some ⟨tb, 0, none⟩)] w0 fun e w' => e = .returned (.int .i64 c) ∧ St F w1 (ftab tb six x o c Z) w' := by
  refine ent (n := 9) Try.func12 rfl rfl ?_
  refine wp_seq_k ?_; intro K1 hK1
  refine wlit ?_
  refine wl_v (x_assign (ev_cN 0)) ?_
  refine wl_nil ?_
  refine then_n (hK1 _ _ ?_); clear hK1 K1
  refine wp_seq_k ?_; intro K2 hK2
  refine wp_seq_k ?_; intro K3 hK3
  refine wlit ?_
  refine wl_v (x_move (tmP rfl rfl)) ?_
  first
   | refine wl_v (x_peql Try.underlying27 (tmP rfl rfl) ev_c) ?_
   | refine wl_v (x_peqln Try.underlying27 (tmP rfl rfl) ev_c) ?_
  refine wl_nil ?_
  refine then_n (hK3 _ _ ?_); clear hK3 K3
  refine cnd (tm rfl) (fun hc0 => ?_) (fun hc0 => ?_)
  · exfalso
    simp at hc0
  try (exfalso; first | with_reducible exact absurd hc0 Bool.false_ne_true | with_reducible exact absurd hc0.symm Bool.false_ne_true | (simp only [nrm] at hc0; omega) | (simp at hc0; done))
  all_goals
   try simp only [nrm] at hc0
   refine wp_skip ?_
   refine then_n (hK2 _ _ ?_); clear hK2 K2
   refine wp_seq_k ?_; intro K4 hK4
   refine wlit ?_
   refine wl_v (x_move (tmP rfl rfl)) ?_
   refine wl_v (x_nil (A := none) (tmP rfl rfl)) ?_
   refine wl_v (x_fa 2 Try.underlying47 rfl rfl ts_3 (tmP rfl rfl)) ?_
   refine wl_v (x_load Try.underlying3 rfl (tmP rfl rfl) (cellB hS.ok 0 rfl rfl)) ?_
   refine wl_v (x_assign (tmI rfl rfl)) ?_
   refine wl_nil ?_
   refine then_n (hK4 _ _ ?_); clear hK4 K4
   refine wp_ret ?_
   refine ret1 rfl (.tmp rfl (show _ = Value.int _ _ from rfl)) ?_
   exact ⟨rfl, hS⟩
set_option maxRecDepth 100000 in
set_option maxHeartbeats 8000000 in
theorem lset_no_c (tb : Nat) (a : Ad) (z : Int) (m : Nat) (V : Int) (w0 : World) (hl : adLim a) (hz : min (max z 0) (adBits a : Int) = (m : Int)) (hr : rgtB a z m = false) :
    Calls Try.prog 13 #[.pointer (some ⟨tb, 0, none⟩), .agg (pxV a z), .int .i64 V] w0 fun e w' => e = .returned (.int .i64 1) ∧ Kp [] w0 w' := by
  have hS := St.sv w0
  refine ent (n := 71) Try.func13 rfl rfl ?_
  refine wp_seq_k ?_; intro K1 hK1
  refine wlit ?_
  refine wl_e rfl ?_; intro K hK
  refine ow_box hS (tmA rfl rfl) rfl ?_
  clear hS; intro g0_0 w hg0_0 hS
  refine hK _ _ ?_; clear hK K
  refine wl_v (x_assign (ev_cN 0)) ?_
  refine wl_nil ?_
  refine then_n (hK1 _ _ ?_); clear hK1 K1
  refine wp_seq_k ?_; intro K2 hK2
  refine wp_seq_k ?_; intro K3 hK3
  refine wlit ?_
  refine wl_v (x_move (tmP rfl rfl)) ?_
  first
   | refine wl_v (x_peql Try.underlying27 (tmP rfl rfl) ev_c) ?_
   | refine wl_v (x_peqln Try.underlying27 (tmP rfl rfl) ev_c) ?_
  refine wl_nil ?_
  refine then_n (hK3 _ _ ?_); clear hK3 K3
  refine cnd (tm rfl) (fun hc0 => ?_) (fun hc0 => ?_)
  · exfalso
    simp at hc0
  try (exfalso; first | with_reducible exact absurd hc0 Bool.false_ne_true | with_reducible exact absurd hc0.symm Bool.false_ne_true | (simp only [nrm] at hc0; omega) | (simp at hc0; done))
  all_goals
   try simp only [nrm] at hc0
   refine wp_skip ?_
   refine then_n (hK2 _ _ ?_); clear hK2 K2
   refine wp_seq_k ?_; intro K4 hK4
   refine wp_seq_k ?_; intro K5 hK5
   refine wlit ?_
   refine wl_v (x_loadA (cs := [_, _, _, _]) Try.underlying32 rfl ts_32 (tmP rfl rfl) (rangeB hS.ok 0 rfl rfl)) ?_
   refine wl_e rfl ?_; intro K hK
   refine ow_call Try.func26 rfl rfl (evs_cons (tmA rfl rfl) <| evs_nil) (lright_c a z m _ hl hz) ?_
   rintro e w ⟨rfl, hk⟩
   refine ⟨_, rfl, ?_⟩
   replace hS := hS.kept hk
   clear hk
   refine hK _ _ ?_; clear hK K
   refine wl_v (x_not (tmB rfl rfl)) ?_
   refine wl_nil ?_
   refine then_n (hK5 _ _ ?_); clear hK5 K5
   refine cnds (tm rfl) (fun hc1 => ?_) (fun hc1 => ?_)
   · exfalso
     simp [hr] at hc1
   try (exfalso; first | with_reducible exact absurd hc1 Bool.false_ne_true | with_reducible exact absurd hc1.symm Bool.false_ne_true | (simp only [nrm] at hc1; omega) | (simp at hc1; done))
   all_goals
    try simp only [nrm] at hc1
    refine wp_seq_k ?_; intro K6 hK6
    refine wlit ?_
    refine wl_v (x_assign (ev_cN 1)) ?_
    refine wl_nil ?_
    refine then_n (hK6 _ _ ?_); clear hK6 K6
    refine wp_ret ?_
    refine then_r ?_
    refine ret1 rfl (.tmp rfl (show _ = Value.int _ _ from rfl)) ?_
    exact ⟨rfl, hS.kp⟩
theorem prune_sh (g : Nat) (l r : TT) (s : Bool) (v : Int) : (s = false ∧ l.p.isNone = true ∧ r.p.isNone = true → Sh.prune (TT.nd g l r s v).sh = .nil) ∧ (¬ (s = false ∧ l.p.isNone = true ∧ r.p.isNone = true) → Sh.prune (TT.nd g l r s v).sh = (TT.nd g l r s v).sh) := by
  cases l <;> cases r <;> cases s <;> simp [TT.p, TT.sh, Sh.prune]
theorem atS_nil (f : Nat → Nat) (m : Nat) : ∀ k, atS f m k .nil = .nil := by
  induction m with
  | zero => intro k; rfl
  | succ m ih => intro k; exact ih (k + 1)
theorem hole_ex (gn : Nat) (l r : TT) (s : Bool) (v : Int) (b : Nat) (hb : b < 2) (y : TT) : ∃ l' r', (ndV l r s v).set (0 + 0 + b) (.pointer y.p) = ndV l' r' s v ∧ TT.hole gn l r s v b y = .nd gn l' r' s v ∧ (y.es ++ (sib l r b).es).Perm (l'.es ++ r'.es) := by
  rcases (by omega : b = 0 ∨ b = 1) with rfl | rfl
  · exact ⟨y, r, rfl, rfl, List.Perm.refl _⟩
  · exact ⟨l, y, rfl, rfl, List.perm_append_comm⟩
theorem drop_hole (f : Nat → Nat) (m k gn : Nat) (l r : TT) (s : Bool) (v : Int) (y : TT) (hy : y.sh = dropS f m (k + 1) (TT.kid (.nd gn l r s v) (f k)).sh) : dropS f (m + 1) k (TT.nd gn l r s v).sh = Sh.prune (TT.hole gn l r s v (f k) y).sh := by
  show Sh.prune (if f k = 0 then .nd (dropS f m (k + 1) l.sh) r.sh s v else .nd l.sh (dropS f m (k + 1) r.sh) s v) = _
  unfold TT.hole
  by_cases h : f k = 0
  · simp only [TT.kid, if_pos h] at hy
    simp only [if_pos h, TT.sh, hy]
  · simp only [TT.kid, if_neg h] at hy
    simp only [if_neg h, TT.sh, hy]
theorem kid_perm2 {A B : Ent} {R : List Ent} (g : Nat) (l r : TT) (b : Nat) (hb : b < 2) (s : Bool) (v : Int) :
    (A :: B :: (l.es ++ r.es ++ R)).Perm (B :: A :: ((TT.kid (.nd g l r s v) b).es ++ ((sib l r b).es ++ R))) := by
  refine (List.Perm.swap _ _ _).trans (List.Perm.cons _ (List.Perm.cons _ ?_))
  rw [← List.append_assoc]
  refine List.Perm.append_right _ ?_
  rcases (by omega : b = 0 ∨ b = 1) with rfl | rfl
  · exact List.Perm.refl _
  · exact List.perm_append_comm
theorem nil_of' {t : TT} (h : t.p.isNone = true) : t = .nil := TT.nil_of (by cases hp : t.p with | none => rfl | some z => rw [hp] at h; cases h)
/-- What the end of without makes of a node. -/
theorem without_end {gn : Nat} {l r : TT} {s b1 : Bool} {v : Int} {Z : List Ent} {F : List Nat} {w1 w : World} {T : Sh} {e : Ending} (hS : St F w1 (.blk gn 59 (ndV l r s v) :: (l.es ++ r.es ++ Z)) w) (hT : T = Sh.prune (TT.nd gn l r s v).sh)
    (he : (b1 = true ∧ e = .returned (.pointer none)) ∨ (b1 = false ∧ e = .returned (.pointer (some ⟨gn, 0, none⟩)))) (hb : b1 = true ↔ s = false ∧ l.p.isNone = true ∧ r.p.isNone = true) :
    ∃ t' : TT, e = .returned (.pointer t'.p) ∧ t'.sh = T ∧ St F w1 (t'.es ++ Z) w := by
  rcases he with ⟨rfl, rfl⟩ | ⟨rfl, rfl⟩
  · have h := hb.1 rfl
    refine ⟨.nil, rfl, by rw [hT, (prune_sh gn l r s v).1 h]; rfl, ?_⟩
    obtain rfl := nil_of' h.2.1
    obtain rfl := nil_of' h.2.2
    exact hS.tail
  · refine ⟨.nd gn l r s v, rfl, by rw [hT, (prune_sh gn l r s v).2 fun h => by have := hb.2 h; cases this], hS⟩
set_option maxRecDepth 100000 in
set_option maxHeartbeats 8000000 in
theorem lwithout_c (a : Ad) (n : Nat) (hl : adLim a) (hn : n ≤ adBits a) (m : Nat) : ∀ (k : Nat) (t : TT) (Z : List Ent) (F : List Nat) (w1 w0 : World) (_ : St F w1 (t.es ++ Z) w0) (_ : k + m = n) (_ : atS (pbit a) m k t.sh ≠ .nil),
    Calls Try.prog 25 #[.pointer t.p, .agg (pxV a (n : Int)), .int .i64 (k : Int)] w0 fun e w' => ∃ t' : TT, e = .returned (.pointer t'.p) ∧ t'.sh = dropS (pbit a) m k t.sh ∧ St F w1 (t'.es ++ Z) w' := by
  have hb3 : adBits a ≤ 128 := by unfold adBits; split <;> omega
  have hb2 : ∀ i, pbit a i < 2 := pbit_lt a
  induction m with
  | zero =>
    intro k t Z F w1 w0 hS hk hat
    cases t with
    | nil => exact absurd rfl hat
    | nd gn l r s v =>
      replace hS := hS.nm (M' := .blk gn 59 (ndV l r s v) :: (l.es ++ r.es ++ Z)) rfl
      refine ent (n := 48) Try.func25 rfl rfl ?_
      refine wp_seq_k ?_; intro K1 hK1
      refine wlit ?_
      refine wl_e rfl ?_; intro K hK
      refine ow_box hS (tmA rfl rfl) rfl ?_
      clear hS; intro g0_0 w hg0_0 hS
      refine hK _ _ ?_; clear hK K
      refine wl_v (x_assign ev_c) ?_
      refine wl_nil ?_
      refine then_n (hK1 _ _ ?_); clear hK1 K1
      refine wp_seq_k ?_; intro K2 hK2
      refine wp_seq_k ?_; intro K3 hK3
      refine wlit ?_
      refine wl_v (x_move (tmI rfl rfl)) ?_
      refine wl_v (x_fa 3 Try.underlying32 rfl rfl ts_3 (tmP rfl rfl)) ?_
      first
       | refine wl_v (x_load Try.underlying3 rfl (tmP rfl rfl) (cellB hS.ok 0 rfl rfl)) ?_
       | refine wl_v (x_load Try.underlying3 rfl (tmP rfl rfl) (cellB hS.ok 0 rfl (getm (by omega)))) ?_
      refine wl_v (x_eql (tmI rfl rfl) (tmI rfl rfl)) ?_
      refine wl_nil ?_
      refine then_n (hK3 _ _ ?_); clear hK3 K3
      refine cnds (tm rfl) (fun hc0 => ?_) (fun hc0 => ?_)
      · exfalso
        simp only [nrm] at hc0
        omega
      try (exfalso; first | with_reducible exact absurd hc0 Bool.false_ne_true | with_reducible exact absurd hc0.symm Bool.false_ne_true | (simp only [nrm] at hc0; omega) | (simp at hc0; done))
      all_goals
       try simp only [nrm] at hc0
       refine wlit ?_
       refine wl_v (x_move (tmP rfl rfl)) ?_
       refine wl_v (x_nil (A := none) (tmP rfl rfl)) ?_
       refine wl_v (x_fa 2 Try.underlying59 rfl rfl ts_4 (tmP rfl rfl)) ?_
       refine wl_e rfl ?_; intro K hK
       first
        | refine ow_store hS 0 rfl ts_4 (tmP rfl rfl) ev_c rfl rfl ?_
        | refine ow_storeX hS 0 rfl ts_4 (tmP rfl rfl) ev_c rfl (by simp; omega) ?_
        | refine ow_storeRs hS 0 rfl ts_4 (tmP rfl rfl) ev_c rfl (by first | omega | (simp; omega)) ?_
        | refine ow_storeR hS 0 rfl ts_4 (tmP rfl rfl) ev_c rfl (by first | omega | (simp; omega)) ?_
        | refine ow_store hS 1 rfl ts_4 (tmP rfl rfl) ev_c rfl rfl ?_
        | refine ow_storeX hS 1 rfl ts_4 (tmP rfl rfl) ev_c rfl (by simp; omega) ?_
        | refine ow_storeRs hS 1 rfl ts_4 (tmP rfl rfl) ev_c rfl (by first | omega | (simp; omega)) ?_
        | refine ow_storeR hS 1 rfl ts_4 (tmP rfl rfl) ev_c rfl (by first | omega | (simp; omega)) ?_
       clear hS; intro w hS
       refine hK _ _ ?_; clear hK K
       refine wl_nil ?_
       refine then_n (hK2 _ _ ?_); clear hK2 K2
       refine wp_seq_k ?_; intro K4 hK4
       refine wp_seq_k ?_; intro K5 hK5
       refine wlit ?_
       refine wl_v (x_move (tmP rfl rfl)) ?_
       refine wl_v (x_nil (A := none) (tmP rfl rfl)) ?_
       refine wl_v (x_fa 2 Try.underlying59 rfl rfl ts_4 (tmP rfl rfl)) ?_
       refine wl_v (x_load Try.underlying4 rfl (tmP rfl rfl) (cellB hS.ok 1 rfl rfl)) ?_
       refine wl_v (x_not (tmB rfl rfl)) ?_
       refine wl_v (x_move (tmB rfl rfl)) ?_
       refine gs_wl (tm (t := 39) rfl) (fun hg5_5 => ?_) (fun hg5_5 => ?_)
       · have hg5_5' := hg5_5; (try simp only [nrm] at hg5_5'); try (exfalso; first | with_reducible exact absurd hg5_5 Bool.false_ne_true | with_reducible exact absurd hg5_5.symm Bool.false_ne_true | omega | (simp at hg5_5; done))
         all_goals
          refine wl_gv (want_y rfl rfl rfl rfl (by rw [hg5_5]; rfl)) (x_move (tmP rfl rfl)) ?_
          refine wl_gv (want_y rfl rfl rfl rfl (by rw [hg5_5]; rfl)) (x_nil (A := none) (tmP rfl rfl)) ?_
          refine wl_gv (want_y rfl rfl rfl rfl (by rw [hg5_5]; rfl)) (x_fa 0 Try.underlying59 rfl rfl ts_57 (tmP rfl rfl)) ?_
          refine wl_gv (want_y rfl rfl rfl rfl (by rw [hg5_5]; rfl)) (x_loadA (cs := [_, _]) Try.underlying57 rfl ts_57 (tmP rfl rfl) (rangeB hS.ok 1 rfl rfl)) ?_
          refine wl_gv (want_y rfl rfl rfl rfl (by rw [hg5_5]; rfl)) (x_build (bc_skip (.pointer none) <| bc_skip (.pointer none) <| bc_nil) (by kernel_rfl)) ?_
          refine wl_gv (want_y rfl rfl rfl rfl (by rw [hg5_5]; rfl)) (x_Aeql rfl (tmA (l := [.pointer l.p, .pointer r.p]) rfl rfl) (tmA (l := [.pointer none, .pointer none]) rfl rfl) (eqv_pp Try.underlying57 Try.underlying45 rfl rfl)) ?_
          refine wl_v (x_pickT (tmB rfl rfl) hg5_5 (tmB rfl rfl)) ?_
          refine wl_nil ?_
          refine then_n (hK5 _ _ ?_); clear hK5 K5
          refine cnd (tm rfl) (fun hc1 => ?_) (fun hc1 => ?_)
          · try (exfalso; first | with_reducible exact absurd hc1 Bool.false_ne_true | with_reducible exact absurd hc1.symm Bool.false_ne_true | (simp only [nrm] at hc1; omega) | (simp at hc1; done))
            all_goals
             try simp only [nrm] at hc1
             refine wp_seq_k ?_; intro K6 hK6
             refine wlit ?_
             refine wl_v (x_assign ev_c) ?_
             refine wl_nil ?_
             refine then_n (hK6 _ _ ?_); clear hK6 K6
             refine wp_ret ?_
             refine then_r ?_
             refine ret1 rfl (.tmp rfl (show _ = Value.pointer _ from rfl)) ?_
             first
               | exact without_end (s := false) (b1 := true) hS.tail rfl (.inl ⟨rfl, rfl⟩) (by rw [Bool.and_eq_true] at hc1; exact ⟨fun _ => ⟨rfl, hc1⟩, fun _ => rfl⟩)
               | exact without_end (s := false) (b1 := false) hS.tail rfl (.inr ⟨rfl, rfl⟩) (by exact ⟨fun h => (by cases h), fun h => by rw [h.2.1, h.2.2] at hc1; cases hc1⟩)
          try (exfalso; first | with_reducible exact absurd hc1 Bool.false_ne_true | with_reducible exact absurd hc1.symm Bool.false_ne_true | (simp only [nrm] at hc1; omega) | (simp at hc1; done))
          all_goals
           try simp only [nrm] at hc1
           refine wp_skip ?_
           refine then_n (hK4 _ _ ?_); clear hK4 K4
           refine wp_seq_k ?_; intro K7 hK7
           refine wlit ?_
           refine wl_v (x_move (tmP rfl rfl)) ?_
           refine wl_v (x_assign (tmP rfl rfl)) ?_
           refine wl_nil ?_
           refine then_n (hK7 _ _ ?_); clear hK7 K7
           refine wp_ret ?_
           refine ret1 rfl (.tmp rfl (show _ = Value.pointer _ from rfl)) ?_
           first
             | exact without_end (s := false) (b1 := true) hS.tail rfl (.inl ⟨rfl, rfl⟩) (by rw [Bool.and_eq_true] at hc1; exact ⟨fun _ => ⟨rfl, hc1⟩, fun _ => rfl⟩)
             | exact without_end (s := false) (b1 := false) hS.tail rfl (.inr ⟨rfl, rfl⟩) (by exact ⟨fun h => (by cases h), fun h => by rw [h.2.1, h.2.2] at hc1; cases hc1⟩)
       have hg5_5' := hg5_5; (try simp only [nrm] at hg5_5'); try (exfalso; first | with_reducible exact absurd hg5_5 Bool.false_ne_true | with_reducible exact absurd hg5_5.symm Bool.false_ne_true | omega | (simp at hg5_5; done))
       all_goals
        refine wl_s rfl (want_n rfl rfl rfl rfl (by rw [hg5_5]; rfl)) ?_
        refine wl_s rfl (want_n rfl rfl rfl rfl (by rw [hg5_5]; rfl)) ?_
        refine wl_s rfl (want_n rfl rfl rfl rfl (by rw [hg5_5]; rfl)) ?_
        refine wl_s rfl (want_n rfl rfl rfl rfl (by rw [hg5_5]; rfl)) ?_
        refine wl_s rfl (want_n rfl rfl rfl rfl (by rw [hg5_5]; rfl)) ?_
        refine wl_s rfl (want_n rfl rfl rfl rfl (by rw [hg5_5]; rfl)) ?_
        refine wl_v (x_pickF (tmB rfl rfl) hg5_5 ev_c) ?_
        refine wl_nil ?_
        refine then_n (hK5 _ _ ?_); clear hK5 K5
        refine cnd_f (tmB rfl rfl) rfl ?_
        refine wp_skip ?_
        refine then_n (hK4 _ _ ?_); clear hK4 K4
        refine wp_seq_k ?_; intro K8 hK8
        refine wlit ?_
        refine wl_v (x_move (tmP rfl rfl)) ?_
        refine wl_v (x_assign (tmP rfl rfl)) ?_
        refine wl_nil ?_
        refine then_n (hK8 _ _ ?_); clear hK8 K8
        refine wp_ret ?_
        refine ret1 rfl (.tmp rfl (show _ = Value.pointer _ from rfl)) ?_
        first
          | exact without_end (s := false) (b1 := true) hS.tail rfl (.inl ⟨rfl, rfl⟩) (by rw [Bool.and_eq_true] at hc1; exact ⟨fun _ => ⟨rfl, hc1⟩, fun _ => rfl⟩)
          | exact without_end (s := false) (b1 := false) hS.tail rfl (.inr ⟨rfl, rfl⟩) (by exact ⟨fun h => (by cases h), fun h => by rw [h.2.1, h.2.2] at hc1; cases hc1⟩)
  | succ m ih =>
    intro k t Z F w1 w0 hS hk hat
    cases t with
    | nil => exact absurd (atS_nil _ _ _) hat
    | nd gn l r s v =>
      replace hS := hS.nm (M' := .blk gn 59 (ndV l r s v) :: (l.es ++ r.es ++ Z)) rfl
      have hat' : atS (pbit a) m (k + 1) (TT.kid (.nd gn l r s v) (pbit a k)).sh ≠ .nil := by rw [TT.kid_sh]; exact hat
      refine ent (n := 48) Try.func25 rfl rfl ?_
      refine wp_seq_k ?_; intro K1 hK1
      refine wlit ?_
      refine wl_e rfl ?_; intro K hK
      refine ow_box hS (tmA rfl rfl) rfl ?_
      clear hS; intro g0_0 w hg0_0 hS
      refine hK _ _ ?_; clear hK K
      refine wl_v (x_assign ev_c) ?_
      refine wl_nil ?_
      refine then_n (hK1 _ _ ?_); clear hK1 K1
      refine wp_seq_k ?_; intro K2 hK2
      refine wp_seq_k ?_; intro K3 hK3
      refine wlit ?_
      refine wl_v (x_move (tmI rfl rfl)) ?_
      refine wl_v (x_fa 3 Try.underlying32 rfl rfl ts_3 (tmP rfl rfl)) ?_
      first
       | refine wl_v (x_load Try.underlying3 rfl (tmP rfl rfl) (cellB hS.ok 0 rfl rfl)) ?_
       | refine wl_v (x_load Try.underlying3 rfl (tmP rfl rfl) (cellB hS.ok 0 rfl (getm (by omega)))) ?_
      refine wl_v (x_eql (tmI rfl rfl) (tmI rfl rfl)) ?_
      refine wl_nil ?_
      refine then_n (hK3 _ _ ?_); clear hK3 K3
      refine cnd (tm rfl) (fun hc0 => ?_) (fun hc0 => ?_)
      · exfalso
        simp only [nrm] at hc0
        omega
      try (exfalso; first | with_reducible exact absurd hc0 Bool.false_ne_true | with_reducible exact absurd hc0.symm Bool.false_ne_true | (simp only [nrm] at hc0; omega) | (simp at hc0; done))
      all_goals
       try simp only [nrm] at hc0
       refine wp_seq_k ?_; intro K4 hK4
       refine wlit ?_
       refine wl_v (x_fa 0 Try.underlying32 rfl rfl ts_25 (tmP rfl rfl)) ?_
       refine wl_v (x_loadA (cs := [_, _, _]) Try.underlying25 rfl ts_25 (tmP rfl rfl) (rangeB hS.ok 0 rfl rfl)) ?_
       refine wl_v (x_move (tmI rfl rfl)) ?_
       refine wl_e rfl ?_; intro K hK
       refine ow_call Try.func20 rfl rfl (evs_cons (tmA rfl rfl) <| evs_cons (tmI rfl rfl) <| evs_nil) (lbit_c a k _ hl (by omega)) ?_
       rintro e w ⟨rfl, hk2⟩
       refine ⟨_, rfl, ?_⟩
       replace hS := hS.kept hk2
       clear hk2
       refine hK _ _ ?_; clear hK K
       refine wl_v (x_assign (tmI rfl rfl)) ?_
       refine wl_nil ?_
       refine then_n (hK4 _ _ ?_); clear hK4 K4
       replace hS := hS.perm (M' := .blk gn 59 (ndV l r s v) :: .blk g0_0 32 [.bool a.six, .int .u64 (a.high : Int), .int .u64 (a.low : Int), .int .i64 (n : Int)] :: ((TT.kid (.nd gn l r s v) (pbit a k)).es ++ ((sib l r (pbit a k)).es ++ Z))) (kid_perm2 gn l r (pbit a k) (hb2 k) s v)
       refine rg_start (M0 := [.blk g0_0 32 [.bool a.six, .int .u64 (a.high : Int), .int .u64 (a.low : Int), .int .i64 (n : Int)]]) hS mixed_ ?_
       clear hS; intro w hS
       refine rg_take 0 rfl rfl (by kernel_rfl) (by kernel_rfl) (by kernel_rfl) (want_0) (fun w hok => x_move (tmP rfl rfl)) ?_
       refine rg_take 1 rfl rfl (by kernel_rfl) (by kernel_rfl) (by kernel_rfl) (want_0) (fun w hok => x_move (tmI rfl rfl)) ?_
       refine rg_take 2 rfl rfl (by kernel_rfl) (by kernel_rfl) (by kernel_rfl) (want_0) (fun w hok => x_move (tmP rfl rfl)) ?_
       refine rg_take 3 rfl rfl (by kernel_rfl) (by kernel_rfl) (by kernel_rfl) (want_0) (fun w hok => x_move (tmI rfl rfl)) ?_
       refine rg_take 4 rfl rfl (by kernel_rfl) (by kernel_rfl) (by kernel_rfl) (want_0) (fun w hok => x_nil (A := none) (tmP rfl rfl)) ?_
       refine rg_take 5 rfl rfl (by kernel_rfl) (by kernel_rfl) (by kernel_rfl) (want_0) (fun w hok => x_fa 0 Try.underlying59 rfl rfl ts_57 (tmP rfl rfl)) ?_
       have hb := hb2 k
       refine rg_take 6 rfl rfl (by kernel_rfl) (by kernel_rfl) (by kernel_rfl) (want_0) (fun w hok => x_ixa1 Try.underlying57 ts_45 (tmP rfl rfl) (tmI rfl rfl) (by omega)) ?_
       refine rg_take 8 rfl rfl (by kernel_rfl) (by kernel_rfl) (by kernel_rfl) (want_0) (fun w hok => x_loadA (cs := [.bool a.six, .int .u64 (a.high : Int), .int .u64 (a.low : Int), .int .i64 (n : Int)]) Try.underlying32 rfl rfl (tmP rfl rfl) (rangeB (l := [.bool a.six, .int .u64 (a.high : Int), .int .u64 (a.low : Int), .int .i64 (n : Int)]) hok 0 rfl rfl)) ?_
       refine rg_take 9 rfl rfl (by kernel_rfl) (by kernel_rfl) (by kernel_rfl) (want_0) (fun w hok => x_move (tmI rfl rfl)) ?_
       first
        | refine rg_take 10 rfl rfl (by kernel_rfl) (by kernel_rfl) (by kernel_rfl) (want_0) (fun w hok => x_addN (tmI rfl rfl) (ev_cN 1) (fit_i64 (by omega))) ?_
        | refine rg_take 10 rfl rfl (by kernel_rfl) (by kernel_rfl) (by kernel_rfl) (want_0) (fun w hok => x_addI (tmI rfl rfl) (ev_cN 1) (IntWalk.i64_in _ (by omega))) ?_
        | refine rg_take 10 rfl rfl (by kernel_rfl) (by kernel_rfl) (by kernel_rfl) (want_0) (fun w hok => x_add (tmI rfl rfl) (ev_cN 1)) ?_
       refine rg_take 12 rfl rfl (by kernel_rfl) (by kernel_rfl) (by kernel_rfl) (want_0) (fun w hok => x_nil (A := none) (tmP rfl rfl)) ?_
       refine rg_take 13 rfl rfl (by kernel_rfl) (by kernel_rfl) (by kernel_rfl) (want_0) (fun w hok => x_fa 0 Try.underlying59 rfl rfl ts_57 (tmP rfl rfl)) ?_
       refine rg_step 7 rfl (by kernel_rfl) (want_0) (fun e he => hS.ok e (List.mem_cons_of_mem _ (by rw [List.mem_singleton.1 he]; exact List.mem_cons_self ..))) ?_; intro K hK
       refine ow_v (x_load (v := .pointer (TT.kid (.nd gn l r s v) (pbit a k)).p) Try.underlying45 rfl (tmP rfl rfl) (cellB (t := 59) (l := ndV l r s v) hS.ok 0 rfl (by rw [show 0 + 0 + pbit a k = pbit a k from by omega]; exact ndV_kid gn l r s v _ (hb2 k)))) ?_
       refine hK _ _ ?_; clear hK K
       refine rg_step 11 rfl (by kernel_rfl) (want_0) (fun e he => hS.ok e (List.mem_cons_of_mem _ (by rw [List.mem_singleton.1 he]; exact List.mem_cons_self ..))) ?_; intro K hK
       refine ow_call Try.func25 rfl rfl (evs_cons (tmP rfl rfl) <| evs_cons (tmA rfl rfl) <| evs_cons (tmI rfl rfl) <| evs_nil) (ih (k + 1) _ _ F w1 _ (hS.perm permIn) (by omega) hat') ?_
       rintro e w ⟨y, rfl, hy, hS⟩
       refine ⟨_, rfl, ?_⟩
       replace hS := hS.perm permIn.symm
       refine hK _ _ ?_; clear hK K
       refine rg_take 14 rfl rfl (by kernel_rfl) (by kernel_rfl) (by kernel_rfl) (want_0) (fun w hok => x_ixa1 Try.underlying57 ts_45 (tmP rfl rfl) (tmI rfl rfl) (by omega)) ?_
       refine rg_step 15 rfl (by kernel_rfl) (want_0) (fun e he => hS.ok e (List.mem_cons_of_mem _ (by rw [List.mem_singleton.1 he]; exact List.mem_cons_self ..))) ?_; intro K hK
       refine ow_storeX hS 0 rfl ts_55 (tmP rfl rfl) (tmP rfl rfl) rfl (by show _ < 4; omega) ?_
       clear hS; intro w hS
       refine hK _ _ ?_; clear hK K
       refine rg_done (fun e he => hS.ok e (List.mem_cons_of_mem _ (by rw [List.mem_singleton.1 he]; exact List.mem_cons_self ..))) (by kernel_rfl) ?_
       obtain ⟨l', r', hq1, hq2, hq3⟩ := hole_ex gn l r s v (pbit a k) (hb2 k) y
       replace hS := hS.perm (M' := .blk gn 59 (ndV l' r' s v) :: .blk g0_0 32 [.bool a.six, .int .u64 (a.high : Int), .int .u64 (a.low : Int), .int .i64 (n : Int)] :: (l'.es ++ r'.es ++ Z)) (by rw [← hq1]; exact List.Perm.cons _ (List.Perm.cons _ (by rw [← List.append_assoc]; exact List.Perm.append_right _ hq3)))
       refine then_n (hK2 _ _ ?_); clear hK2 K2
       refine wp_seq_k ?_; intro K5 hK5
       refine wp_seq_k ?_; intro K6 hK6
       refine wlit ?_
       refine wl_v (x_move (tmP rfl rfl)) ?_
       refine wl_v (x_nil (A := none) (tmP rfl rfl)) ?_
       refine wl_v (x_fa 2 Try.underlying59 rfl rfl ts_4 (tmP rfl rfl)) ?_
       refine wl_v (x_load Try.underlying4 rfl (tmP rfl rfl) (cellB hS.ok 0 rfl rfl)) ?_
       refine wl_v (x_not (tmB rfl rfl)) ?_
       refine wl_v (x_move (tmB rfl rfl)) ?_
       refine gs_wl (tm (t := 39) rfl) (fun hg5_5 => ?_) (fun hg5_5 => ?_)
       · have hg5_5' := hg5_5; (try simp only [nrm] at hg5_5'); try (exfalso; first | with_reducible exact absurd hg5_5 Bool.false_ne_true | with_reducible exact absurd hg5_5.symm Bool.false_ne_true | omega | (simp at hg5_5; done))
         all_goals
          refine wl_gv (want_y rfl rfl rfl rfl (by rw [hg5_5]; rfl)) (x_move (tmP rfl rfl)) ?_
          refine wl_gv (want_y rfl rfl rfl rfl (by rw [hg5_5]; rfl)) (x_nil (A := none) (tmP rfl rfl)) ?_
          refine wl_gv (want_y rfl rfl rfl rfl (by rw [hg5_5]; rfl)) (x_fa 0 Try.underlying59 rfl rfl ts_57 (tmP rfl rfl)) ?_
          refine wl_gv (want_y rfl rfl rfl rfl (by rw [hg5_5]; rfl)) (x_loadA (cs := [_, _]) Try.underlying57 rfl ts_57 (tmP rfl rfl) (rangeB hS.ok 0 rfl rfl)) ?_
          refine wl_gv (want_y rfl rfl rfl rfl (by rw [hg5_5]; rfl)) (x_build (bc_skip (.pointer none) <| bc_skip (.pointer none) <| bc_nil) (by kernel_rfl)) ?_
          refine wl_gv (want_y rfl rfl rfl rfl (by rw [hg5_5]; rfl)) (x_Aeql rfl (tmA (l := [.pointer l'.p, .pointer r'.p]) rfl rfl) (tmA (l := [.pointer none, .pointer none]) rfl rfl) (eqv_pp Try.underlying57 Try.underlying45 rfl rfl)) ?_
          refine wl_v (x_pickT (tmB rfl rfl) hg5_5 (tmB rfl rfl)) ?_
          refine wl_nil ?_
          refine then_n (hK6 _ _ ?_); clear hK6 K6
          refine cnd (tm rfl) (fun hc1 => ?_) (fun hc1 => ?_)
          · try (exfalso; first | with_reducible exact absurd hc1 Bool.false_ne_true | with_reducible exact absurd hc1.symm Bool.false_ne_true | (simp only [nrm] at hc1; omega) | (simp at hc1; done))
            all_goals
             try simp only [nrm] at hc1
             refine wp_seq_k ?_; intro K7 hK7
             refine wlit ?_
             refine wl_v (x_assign ev_c) ?_
             refine wl_nil ?_
             refine then_n (hK7 _ _ ?_); clear hK7 K7
             refine wp_ret ?_
             refine then_r ?_
             refine ret1 rfl (.tmp rfl (show _ = Value.pointer _ from rfl)) ?_
             have hT : dropS (pbit a) (m + 1) k (TT.nd gn l r s v).sh = Sh.prune (TT.nd gn l' r' s v).sh := by rw [← hq2]; exact drop_hole _ _ _ _ _ _ _ _ _ hy
             replace hS := (hS.perm (List.Perm.swap _ _ _)).tail
             first
               | exact without_end (b1 := true) hS hT (.inl ⟨rfl, rfl⟩) (by rw [Bool.and_eq_true] at hc1; exact ⟨fun _ => ⟨by simpa using hg5_5, hc1⟩, fun _ => rfl⟩)
               | exact without_end (b1 := false) hS hT (.inr ⟨rfl, rfl⟩) (by exact ⟨fun h => (by cases h), fun h => by first | (rw [h.2.1, h.2.2] at hc1; cases hc1; done) | (rw [h.1] at hg5_5; cases hg5_5; done)⟩)
          try (exfalso; first | with_reducible exact absurd hc1 Bool.false_ne_true | with_reducible exact absurd hc1.symm Bool.false_ne_true | (simp only [nrm] at hc1; omega) | (simp at hc1; done))
          all_goals
           try simp only [nrm] at hc1
           refine wp_skip ?_
           refine then_n (hK5 _ _ ?_); clear hK5 K5
           refine wp_seq_k ?_; intro K8 hK8
           refine wlit ?_
           refine wl_v (x_move (tmP rfl rfl)) ?_
           refine wl_v (x_assign (tmP rfl rfl)) ?_
           refine wl_nil ?_
           refine then_n (hK8 _ _ ?_); clear hK8 K8
           refine wp_ret ?_
           refine ret1 rfl (.tmp rfl (show _ = Value.pointer _ from rfl)) ?_
           have hT : dropS (pbit a) (m + 1) k (TT.nd gn l r s v).sh = Sh.prune (TT.nd gn l' r' s v).sh := by rw [← hq2]; exact drop_hole _ _ _ _ _ _ _ _ _ hy
           replace hS := (hS.perm (List.Perm.swap _ _ _)).tail
           first
             | exact without_end (b1 := true) hS hT (.inl ⟨rfl, rfl⟩) (by rw [Bool.and_eq_true] at hc1; exact ⟨fun _ => ⟨by simpa using hg5_5, hc1⟩, fun _ => rfl⟩)
             | exact without_end (b1 := false) hS hT (.inr ⟨rfl, rfl⟩) (by exact ⟨fun h => (by cases h), fun h => by first | (rw [h.2.1, h.2.2] at hc1; cases hc1; done) | (rw [h.1] at hg5_5; cases hg5_5; done)⟩)
       have hg5_5' := hg5_5; (try simp only [nrm] at hg5_5'); try (exfalso; first | with_reducible exact absurd hg5_5 Bool.false_ne_true | with_reducible exact absurd hg5_5.symm Bool.false_ne_true | omega | (simp at hg5_5; done))
       all_goals
        refine wl_s rfl (want_n rfl rfl rfl rfl (by rw [hg5_5]; rfl)) ?_
        refine wl_s rfl (want_n rfl rfl rfl rfl (by rw [hg5_5]; rfl)) ?_
        refine wl_s rfl (want_n rfl rfl rfl rfl (by rw [hg5_5]; rfl)) ?_
        refine wl_s rfl (want_n rfl rfl rfl rfl (by rw [hg5_5]; rfl)) ?_
        refine wl_s rfl (want_n rfl rfl rfl rfl (by rw [hg5_5]; rfl)) ?_
        refine wl_s rfl (want_n rfl rfl rfl rfl (by rw [hg5_5]; rfl)) ?_
        refine wl_v (x_pickF (tmB rfl rfl) hg5_5 ev_c) ?_
        refine wl_nil ?_
        refine then_n (hK6 _ _ ?_); clear hK6 K6
        refine cnd_f (tmB rfl rfl) rfl ?_
        refine wp_skip ?_
        refine then_n (hK5 _ _ ?_); clear hK5 K5
        refine wp_seq_k ?_; intro K9 hK9
        refine wlit ?_
        refine wl_v (x_move (tmP rfl rfl)) ?_
        refine wl_v (x_assign (tmP rfl rfl)) ?_
        refine wl_nil ?_
        refine then_n (hK9 _ _ ?_); clear hK9 K9
        refine wp_ret ?_
        refine ret1 rfl (.tmp rfl (show _ = Value.pointer _ from rfl)) ?_
        have hT : dropS (pbit a) (m + 1) k (TT.nd gn l r s v).sh = Sh.prune (TT.nd gn l' r' s v).sh := by rw [← hq2]; exact drop_hole _ _ _ _ _ _ _ _ _ hy
        replace hS := (hS.perm (List.Perm.swap _ _ _)).tail
        first
          | exact without_end (b1 := true) hS hT (.inl ⟨rfl, rfl⟩) (by rw [Bool.and_eq_true] at hc1; exact ⟨fun _ => ⟨by simpa using hg5_5, hc1⟩, fun _ => rfl⟩)
          | exact without_end (b1 := false) hS hT (.inr ⟨rfl, rfl⟩) (by exact ⟨fun h => (by cases h), fun h => by first | (rw [h.2.1, h.2.2] at hc1; cases hc1; done) | (rw [h.1] at hg5_5; cases hg5_5; done)⟩)
end Go.Proofs.Ytlpgedncnefaoaa
