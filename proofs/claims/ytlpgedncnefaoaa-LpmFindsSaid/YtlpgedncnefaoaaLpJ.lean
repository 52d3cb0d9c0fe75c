
/- lpm: Set of a prefix that is right, by contract. Conditions: the counter fits. -/
import Derived.Test.YtlpgedncnefaoaaLpI
namespace Go.Proofs.Ytlpgedncnefaoaa
open Go.RowKit
/-- grown, over a tree that may be nil. -/
theorem grown_c (t : TT) (w0 : World) : Calls Try.prog 27 #[.pointer t.p] w0 fun e w' => ∃ g l r s v, e = .returned (.pointer (some ⟨g, 0, none⟩)) ∧ (TT.nd g l r s v).sh = t.sh.grow ∧ ∀ F w1 M, St F w1 (t.es ++ M) w0 → St F w1 (.blk g 59 (ndV l r s v) :: (l.es ++ r.es ++ M)) w' := by
  cases t with
  | nil =>
    refine Calls.mono (grown_nil_c w0) ?_
    rintro e w' ⟨g, rfl, hn, hk⟩
    exact ⟨g, .nil, .nil, false, 0, rfl, rfl, fun F w1 M h => h.add hk hn⟩
  | nd g l r s v =>
    refine Calls.mono (grown_some_c ⟨g, 0, none⟩ w0) ?_
    rintro e w' ⟨rfl, hk⟩
    exact ⟨g, l, r, s, v, rfl, rfl, fun F w1 M h => h.kept hk⟩
theorem perm4 {A B : Ent} {Y S R : List Ent} : (B :: (Y ++ (A :: (S ++ R)))).Perm (A :: (B :: (Y ++ S) ++ R)) := by
  refine (List.Perm.cons B List.perm_middle).trans ?_
  rw [List.cons_append, List.append_assoc]
  exact List.Perm.swap _ _ _
theorem perm4' {A B : Ent} {Y S R : List Ent} : (B :: (Y ++ (A :: (S ++ R)))).Perm (A :: (B :: (S ++ Y) ++ R)) :=
  perm4.trans (List.Perm.cons _ (List.Perm.append_right _ (List.Perm.cons _ List.perm_append_comm)))
theorem permIn {A B : Ent} {Y R : List Ent} : (A :: B :: (Y ++ R)).Perm (Y ++ (A :: B :: R)) :=
  ((List.perm_middle (a := A) (l₁ := Y) (l₂ := B :: R)).trans (List.Perm.cons A List.perm_middle)).symm
theorem perm3 {A B N : Ent} {R : List Ent} : (A :: B :: N :: R).Perm (N :: A :: B :: R) :=
  (List.Perm.cons A (List.Perm.swap N B R)).trans (List.Perm.swap N A _)
theorem permOut {A B N : Ent} {Y R : List Ent} : (N :: (Y ++ (A :: B :: R))).Perm (A :: B :: N :: (Y ++ R)) :=
  (List.Perm.cons N permIn.symm).trans perm3.symm
theorem St.tail {F : List Nat} {w0 w : World} {M : List Ent} {e : Ent} (h : St F w0 (e :: M) w) : St F w0 M w :=
  ⟨h.kp, fun x hx => h.ok x (List.mem_cons_of_mem _ hx), fun i j a b hij ha hb => h.ap (i + 1) (j + 1) a b (by omega) (by simpa using ha) (by simpa using hb), fun x hx => h.own x (List.mem_cons_of_mem _ hx)⟩
def TT.hole (g : Nat) (l r : TT) (s : Bool) (v : Int) (b : Nat) (y : TT) : TT := if b = 0 then .nd g y r s v else .nd g l y s v
def sib (l r : TT) (b : Nat) : TT := if b = 0 then r else l
theorem hole_p (g : Nat) (l r : TT) (s : Bool) (v : Int) (b : Nat) (y : TT) : (TT.hole g l r s v b y).p = some ⟨g, 0, none⟩ := by
  unfold TT.hole; split <;> rfl
theorem ndV_kid (g : Nat) (l r : TT) (s : Bool) (v : Int) (b : Nat) (hb : b < 2) : (ndV l r s v)[b]? = some (.pointer (TT.kid (.nd g l r s v) b).p) := by
  rcases (by omega : b = 0 ∨ b = 1) with rfl | rfl <;> rfl
theorem hole_perm {A : Ent} {R : List Ent} (g : Nat) (l r : TT) (s : Bool) (v : Int) (b : Nat) (hb : b < 2) (y : TT) :
    (Ent.blk g 59 ((ndV l r s v).set b (.pointer y.p)) :: (y.es ++ (A :: ((sib l r b).es ++ R)))).Perm (A :: ((TT.hole g l r s v b y).es ++ R)) := by
  rcases (by omega : b = 0 ∨ b = 1) with rfl | rfl
  · exact perm4
  · exact perm4'
theorem kid_perm {A : Ent} {R : List Ent} (g : Nat) (l r : TT) (b : Nat) (hb : b < 2) (B : Ent) (s : Bool) (v : Int) :
    (A :: B :: (l.es ++ r.es ++ R)).Perm (B :: ((TT.kid (.nd g l r s v) b).es ++ (A :: ((sib l r b).es ++ R)))) := by
  rcases (by omega : b = 0 ∨ b = 1) with rfl | rfl
  · exact (perm4 (A := A) (B := B) (Y := l.es) (S := r.es) (R := R)).symm
  · exact (perm4' (A := A) (B := B) (Y := r.es) (S := l.es) (R := R)).symm
theorem hole_sh (f : Nat → Nat) (V : Int) (m k g : Nat) (l r : TT) (s : Bool) (v : Int) (t : Sh) (ht : (TT.nd g l r s v).sh = t.grow) (y : TT) (hy : y.sh = setS f V m (k + 1) (TT.kid (.nd g l r s v) (f k)).sh) :
    (TT.hole g l r s v (f k) y).sh = setS f V (m + 1) k t := by
  rw [← setS_grow, ← ht]
  unfold TT.hole
  by_cases h : f k = 0
  · simp only [TT.kid, if_pos h] at hy
    simp only [if_pos h, TT.sh, setS, hy]
  · simp only [TT.kid, if_neg h] at hy
    simp only [if_neg h, TT.sh, setS, hy]
theorem kid_at (f : Nat → Nat) (m k g : Nat) (l r : TT) (s : Bool) (v : Int) (t : Sh) (ht : (TT.nd g l r s v).sh = t.grow) :
    (atS f m (k + 1) (TT.kid (.nd g l r s v) (f k)).sh).isS = (atS f (m + 1) k t).isS := by
  rw [← atS_grow f (m + 1) k t, ← ht, TT.kid_sh]
  rfl
theorem set_set {l : List Value} {i : Nat} {x y : Value} : (l.set i x).set i y = l.set i y := by simp
set_option maxRecDepth 100000 in
set_option maxHeartbeats 8000000 in
theorem lset_c (tb : Nat) (x o : TT) (c : Int) (a : Ad) (n : Nat) (V : Int) (Z : List Ent) (F : List Nat) (w1 w0 : World) (hS : St F w1 (ftab tb a.six x o c Z) w0) (hl : adLim a) (hr : rgtB a (n : Int) n = true) (hn : n ≤ adBits a) (hc : 0 ≤ c ∧ c ≤ 1000) :
    Calls Try.prog 13 #[.pointer (some ⟨tb, 0, none⟩), .agg #[.bool a.six, .int .u64 (a.high : Int), .int .u64 (a.low : Int), .int .i64 (n : Int)], .int .i64 V] w0 fun e w' => e = .returned (.int .i64 0) ∧ ∃ x', St F w1 (ftab tb a.six x' o (c + if (atS (pbit a) n 0 x.sh).isS then 0 else 1) Z) w' ∧ x'.sh = setS (pbit a) V n 0 x.sh := by
  have hb2 : ∀ i, pbit a i < 2 := pbit_lt a
  have hb3 : adBits a ≤ 128 := by unfold adBits; split <;> omega
  refine ent (n := 71) Try.func13 rfl rfl ?_
  refine wp_seq_k ?_; intro K1 hK1
  refine wlit ?_
  refine wl_e rfl ?_; intro K hK
  refine ow_box hS (tmA rfl rfl) rfl ?_
  clear hS; intro g0_0 w hg0_0 hS
  refine hK _ _ ?_; clear hK K
  refine wl_v (x_assign (ev_cN 0)) ?_
  refine wl_nil ?_
  refine then_n (hK1 _ _ ?_); clear hK1 K1
  refine wp_seq_k ?_; intro K2 hK2
  refine wp_seq_k ?_; intro K3 hK3
  refine wlit ?_
  refine wl_v (x_move (tmP rfl rfl)) ?_
  first
   | refine wl_v (x_peql Try.underlying27 (tmP rfl rfl) ev_c) ?_
   | refine wl_v (x_peqln Try.underlying27 (tmP rfl rfl) ev_c) ?_
  refine wl_nil ?_
  refine then_n (hK3 _ _ ?_); clear hK3 K3
  refine cnd (tm rfl) (fun hc0 => ?_) (fun hc0 => ?_)
  · exfalso
    simp at hc0
  try (exfalso; first | with_reducible exact absurd hc0 Bool.false_ne_true | with_reducible exact absurd hc0.symm Bool.false_ne_true | (simp only [nrm] at hc0; omega) | (simp at hc0; done))
  all_goals
   try simp only [nrm] at hc0
   refine wp_skip ?_
   refine then_n (hK2 _ _ ?_); clear hK2 K2
   refine wp_seq_k ?_; intro K4 hK4
   refine wp_seq_k ?_; intro K5 hK5
   refine wlit ?_
   refine wl_v (x_loadA (cs := [_, _, _, _]) Try.underlying32 rfl ts_32 (tmP rfl rfl) (rangeB hS.ok 0 rfl rfl)) ?_
   refine wl_e rfl ?_; intro K hK
   refine ow_call Try.func26 rfl rfl (evs_cons (tmA rfl rfl) <| evs_nil) (lright_c a (n : Int) n _ hl (by omega)) ?_
   rintro e w ⟨rfl, hk⟩
   refine ⟨_, rfl, ?_⟩
   replace hS := hS.kept hk
   clear hk
   refine hK _ _ ?_; clear hK K
   refine wl_v (x_not (tmB rfl rfl)) ?_
   refine wl_nil ?_
   refine then_n (hK5 _ _ ?_); clear hK5 K5
   refine cnd (tm rfl) (fun hc1 => ?_) (fun hc1 => ?_)
   · exfalso
     simp [hr] at hc1
   try (exfalso; first | with_reducible exact absurd hc1 Bool.false_ne_true | with_reducible exact absurd hc1.symm Bool.false_ne_true | (simp only [nrm] at hc1; omega) | (simp at hc1; done))
   all_goals
    try simp only [nrm] at hc1
    refine wp_skip ?_
    refine then_n (hK4 _ _ ?_); clear hK4 K4
    refine wp_seq_k ?_; intro K6 hK6
    refine wlit ?_
    refine wl_v (x_move (tmP rfl rfl)) ?_
    refine wl_v (x_fa 0 Try.underlying32 rfl rfl ts_25 (tmP rfl rfl)) ?_
    refine wl_v (x_loadA (cs := [_, _, _]) Try.underlying25 rfl ts_25 (tmP rfl rfl) (rangeB hS.ok 0 rfl rfl)) ?_
    refine wl_e rfl ?_; intro K hK
    refine ow_call Try.func18 rfl rfl (evs_cons (tmP rfl rfl) <| evs_cons (tmA rfl rfl) <| evs_nil) (root_c tb a _) ?_
    rintro e w ⟨rfl, hk⟩
    refine ⟨_, rfl, ?_⟩
    replace hS := hS.kept hk
    clear hk
    refine hK _ _ ?_; clear hK K
    refine wl_v (x_assign (tmP rfl rfl)) ?_
    refine wl_nil ?_
    refine then_n (hK6 _ _ ?_); clear hK6 K6
    refine wp_seq_k ?_; intro K7 hK7
    refine wp_seq_k ?_; intro K8 hK8
    refine wlit ?_
    refine wl_v (x_fa 3 Try.underlying32 rfl rfl ts_3 (tmP rfl rfl)) ?_
    first
     | refine wl_v (x_load Try.underlying3 rfl (tmP rfl rfl) (cellB hS.ok 0 rfl rfl)) ?_
     | refine wl_v (x_load Try.underlying3 rfl (tmP rfl rfl) (cellB hS.ok 0 rfl (getm (by omega)))) ?_
    refine wl_v (x_move (ev_cN 0)) ?_
    refine wl_nil ?_
    refine then_n (hK8 _ _ ?_); clear hK8 K8
    refine wp_block ?_
    have hcs0 : ∀ d, (tabV a.six x o d)[cond a.six 1 0]? = some (.pointer x.p) := by intro d; cases a.six <;> rfl
    have hP0 : ∀ d y, (Ent.blk tb 47 ((tabV a.six x o d).set (cond a.six 1 0) (.pointer y.p)) :: (y.es ++ (o.es ++ Z))).Perm (ftab tb a.six y o d Z) := by intro d y; unfold ftab; cases a.six <;> exact List.Perm.refl _
    have hC0 : ∀ y : TT, y.sh = setS (pbit a) V (n - 0) 0 x.sh → y.sh = setS (pbit a) V n 0 x.sh := fun y h => h
    have hH0 : (atS (pbit a) (n - 0) 0 x.sh).isS = (atS (pbit a) n 0 x.sh).isS := rfl
    refine lp [7, 8, 20, 21, 22, 23, 24, 25, 26, 27, 28, 29, 30, 31, 32, 33, 34, 35, 36, 37, 38, 39] (fun mz g w => ∃ (k ag ao : Nat), ∃ (ty : TypeId), ∃ (cs : Int → List Value), ∃ (sub : TT), ∃ (R : Int → List Ent), ∃ (C : TT → TT), mz = n - k ∧ g 20 = .int .i64 (k : Int) ∧ g 7 = .pointer (some ⟨ag, ao, none⟩) ∧ St F w1 (.blk g0_0 32 [.bool a.six, .int .u64 (a.high : Int), .int .u64 (a.low : Int), .int .i64 (n : Int)] :: .blk ag ty (cs c) :: (sub.es ++ R c)) w ∧ (k ≤ n) ∧ (∀ d, (cs d)[ao]? = some (.pointer sub.p)) ∧ (∀ d y, (Ent.blk ag ty ((cs d).set ao (.pointer y.p)) :: (y.es ++ R d)).Perm (ftab tb a.six (C y) o d Z)) ∧ (∀ y, y.sh = setS (pbit a) V (n - k) k sub.sh → (C y).sh = setS (pbit a) V n 0 x.sh) ∧ ((atS (pbit a) (n - k) k sub.sh).isS = (atS (pbit a) n 0 x.sh).isS)) ?_ ?_
    · exact ⟨_, 0, tb, cond a.six 1 0, 47, fun d => tabV a.six x o d, x, fun _ => o.es ++ Z, fun y => y, rfl, (by first | rfl | go_num | exact congrArg (Value.int _) (by first | omega | (simp; done) | (simp; omega))), (by first | rfl | go_num | exact congrArg (Value.int _) (by first | omega | (simp; done) | (simp; omega))), hS, (by omega), (by first | exact hcs0 | exact hcs1), (by first | exact hP0 | exact hP1), (by first | exact hC0 | exact hC1), (by first | exact hH0 | exact hH1)⟩
    · clear hS; intro mz g w hI
      obtain ⟨k, ag, ao, ty, cs, sub, R, C, rfl, hs20, hs7, hS, hk, hcs, hP, hC, hH⟩ := hI
      refine fr_know (d := 20) hs20 ?_; clear hs20
      refine fr_know (d := 7) hs7 ?_; clear hs7
      refine wp_seq_k ?_; intro K9 hK9
      refine wlit ?_
      refine wl_v (x_lss (tmI rfl rfl) (tmI rfl rfl)) ?_
      refine wl_nil ?_
      refine then_n (hK9 _ _ ?_); clear hK9 K9
      refine wp_seq_k ?_; intro K10 hK10
      refine cnd (tm rfl) (fun hc2 => ?_) (fun hc2 => ?_)
      · try (exfalso; first | with_reducible exact absurd hc2 Bool.false_ne_true | with_reducible exact absurd hc2.symm Bool.false_ne_true | (simp only [nrm] at hc2; omega) | (simp at hc2; done))
        all_goals
         try simp only [nrm] at hc2
         refine wp_skip ?_
         refine then_n (hK10 _ _ ?_); clear hK10 K10
         refine wp_seq_k ?_; intro K11 hK11
         refine wp_block ?_
         refine wp_seq_k ?_; intro K12 hK12
         refine wlit ?_
         refine wl_v (x_move (tmI rfl rfl)) ?_
         refine wl_v (x_assign (tmI rfl rfl)) ?_
         refine wl_nil ?_
         refine then_n (hK12 _ _ ?_); clear hK12 K12
         refine wp_seq_k ?_; intro K13 hK13
         refine wlit ?_
         refine wl_v (x_move (tmP rfl rfl)) ?_
         refine wl_v (x_move (tmP rfl rfl)) ?_
         refine wl_v (x_nil (A := none) (tmP rfl rfl)) ?_
         refine wl_v (x_load (v := .pointer sub.p) Try.underlying45 rfl (tmP rfl rfl) (cellB hS.ok 1 rfl (hcs c))) ?_
         refine wl_e rfl ?_; intro K hK
         refine ow_call Try.func27 rfl rfl (evs_cons (tmP rfl rfl) <| evs_nil) (grown_c sub _) ?_
         rintro e w ⟨g, l, r, s, v, rfl, hsh, hg⟩
         refine ⟨_, rfl, ?_⟩
         have hlt : ao < (cs c).length := (List.getElem?_eq_some_iff.1 (hcs c)).1
         replace hS := hg _ _ _ (hS.perm (M' := sub.es ++ (.blk g0_0 32 [.bool a.six, .int .u64 (a.high : Int), .int .u64 (a.low : Int), .int .i64 (n : Int)] :: .blk ag ty (cs c) :: R c)) permIn)
         clear hg
         replace hS := hS.perm (M' := .blk g0_0 32 [.bool a.six, .int .u64 (a.high : Int), .int .u64 (a.low : Int), .int .i64 (n : Int)] :: .blk ag ty (cs c) :: .blk g 59 (ndV l r s v) :: (l.es ++ r.es ++ R c)) permOut --ents g0_0,tab,nd
         have hcg : ∀ d, ((cs d).set ao (.pointer (some ⟨g, 0, none⟩)))[ao]? = some (.pointer (some ⟨g, 0, none⟩)) := fun d => List.getElem?_set_self (List.getElem?_eq_some_iff.1 (hcs d)).1
         refine hK _ _ ?_; clear hK K
         refine wl_v (x_nil (A := none) (tmP rfl rfl)) ?_
         refine wl_e rfl ?_; intro K hK
         refine ow_storeX hS 1 rfl ts_55 (tmP rfl rfl) (tmP rfl rfl) rfl hlt ?_
         clear hS; intro w hS
         refine hK _ _ ?_; clear hK K
         refine wl_nil ?_
         refine then_n (hK13 _ _ ?_); clear hK13 K13
         refine rg_startk 0 hS mixed_ ?_
         clear hS; intro w hS
         refine rg_take 0 rfl rfl (by kernel_rfl) (by kernel_rfl) (by kernel_rfl) (want_0) (fun w hok => x_move (tmP rfl rfl)) ?_
         refine rg_take 1 rfl rfl (by kernel_rfl) (by kernel_rfl) (by kernel_rfl) (want_0) (fun w hok => x_nil (A := none) (tmP rfl rfl)) ?_
         refine rg_take 2 rfl rfl (by kernel_rfl) (by kernel_rfl) (by kernel_rfl) (want_0) (fun w hok => x_load (v := .pointer (some ⟨g, 0, none⟩)) Try.underlying45 rfl (tmP rfl rfl) (cellB hok 1 rfl (hcg _))) ?_
         refine rg_take 3 rfl rfl (by kernel_rfl) (by kernel_rfl) (by kernel_rfl) (want_0) (fun w hok => x_fa 0 Try.underlying32 rfl rfl ts_25 (tmP rfl rfl)) ?_
         refine rg_take 4 rfl rfl (by kernel_rfl) (by kernel_rfl) (by kernel_rfl) (want_0) (fun w hok => x_loadA (cs := [_, _, _]) Try.underlying25 rfl ts_25 (tmP rfl rfl) (rangeB hok 0 rfl rfl)) ?_
         refine rg_take 5 rfl rfl (by kernel_rfl) (by kernel_rfl) (by kernel_rfl) (want_0) (fun w hok => x_move (tmI rfl rfl)) ?_
         refine rg_take 7 rfl rfl (by kernel_rfl) (by kernel_rfl) (by kernel_rfl) (want_0) (fun w hok => x_nil (A := none) (tmP rfl rfl)) ?_
         refine rg_take 8 rfl rfl (by kernel_rfl) (by kernel_rfl) (by kernel_rfl) (want_0) (fun w hok => x_fa 0 Try.underlying59 rfl rfl ts_57 (tmP rfl rfl)) ?_
         refine rg_step 6 rfl (by kernel_rfl) (want_0) (oks_drop hS 0 rfl) ?_; intro K hK
         refine ow_call Try.func20 rfl rfl (evs_cons (tmA rfl rfl) <| evs_cons (tmI rfl rfl) <| evs_nil) (lbit_c a k _ hl (by omega)) ?_
         rintro e w ⟨rfl, hk2⟩
         refine ⟨_, rfl, ?_⟩
         replace hS := hS.kept hk2
         clear hk2
         refine hK _ _ ?_; clear hK K
         have hb := hb2 k
         refine rg_take 9 rfl rfl (by kernel_rfl) (by kernel_rfl) (by kernel_rfl) (want_0) (fun w hok => x_ixa1 Try.underlying57 ts_45 (tmP rfl rfl) (tmI rfl rfl) (by omega)) ?_
         refine rg_take 10 rfl rfl (by kernel_rfl) (by kernel_rfl) (by kernel_rfl) (want_0) (fun w hok => x_assign (tmP rfl rfl)) ?_
         refine rg_done (oks_drop hS 0 rfl) (by kernel_rfl) ?_
         refine inb_n ?_
         refine then_n (hK11 _ _ ?_); clear hK11 K11
         refine wlit ?_
         first
          | refine wl_v (x_addN (tmI rfl rfl) (ev_cN 1) (fit_i64 (by omega))) ?_
          | refine wl_v (x_addI (tmI rfl rfl) (ev_cN 1) (IntWalk.i64_in _ (by omega))) ?_
          | refine wl_v (x_add (tmI rfl rfl) (ev_cN 1)) ?_
         refine wl_v (x_move (tmI rfl rfl)) ?_
         refine wl_nil ?_
         have hm : n - k = (n - (k + 1)) + 1 := by omega
         have hcs1 : ∀ d : Int, (ndV l r s v)[pbit a k]? = some (.pointer (TT.kid (.nd g l r s v) (pbit a k)).p) := fun _ => ndV_kid g l r s v _ (hb2 k)
         have hP1 : ∀ d y, (Ent.blk g 59 ((ndV l r s v).set (pbit a k) (.pointer y.p)) :: (y.es ++ (.blk ag ty ((cs d).set ao (.pointer (some ⟨g, 0, none⟩))) :: ((sib l r (pbit a k)).es ++ R d)))).Perm (ftab tb a.six (C (TT.hole g l r s v (pbit a k) y)) o d Z) := fun d y => (hole_perm g l r s v _ (hb2 k) y).trans (by have := hP d (TT.hole g l r s v (pbit a k) y); rw [hole_p] at this; exact this)
         have hC1 : ∀ y : TT, y.sh = setS (pbit a) V (n - (k + 1)) (k + 1) (TT.kid (.nd g l r s v) (pbit a k)).sh → (C (TT.hole g l r s v (pbit a k) y)).sh = setS (pbit a) V n 0 x.sh := fun y hy => hC _ (by rw [hm]; exact hole_sh _ _ _ _ _ _ _ _ _ _ hsh y hy)
         have hH1 : (atS (pbit a) (n - (k + 1)) (k + 1) (TT.kid (.nd g l r s v) (pbit a k)).sh).isS = (atS (pbit a) n 0 x.sh).isS := by rw [kid_at _ _ _ _ _ _ _ _ _ hsh, ← hm]; exact hH
         exact then_n ⟨_, _, rfl, (by show _ < _; omega), (by repeat (first | exact agree_self | exact agree_refl | refine agree_upd rfl ?_ | refine agree_mix rfl ?_)), k + 1, g, pbit a k, 59, fun _ => ndV l r s v, TT.kid (.nd g l r s v) (pbit a k), fun d => .blk ag ty ((cs d).set ao (.pointer (some ⟨g, 0, none⟩))) :: ((sib l r (pbit a k)).es ++ R d), fun y => C (TT.hole g l r s v (pbit a k) y), rfl, (by first | rfl | go_num | exact congrArg (Value.int _) (by first | omega | (simp; done) | (simp; omega))), (by first | rfl | (first | rfl | exact congrArg (fun q : Nat => Value.pointer (some ⟨g, q, none⟩)) (by omega); done) | (first | rfl | exact congrArg (fun q : Nat => Value.pointer (some ⟨g, q, none⟩)) (by omega); rfl) | (first | rfl | exact congrArg (fun q : Nat => Value.pointer (some ⟨g, q, none⟩)) (by omega); go_num)), (hS.perm (List.Perm.cons _ (kid_perm g l r (pbit a k) (hb2 k) _ s v))), (by omega), (by first | exact hcs0 | exact hcs1), (by first | exact hP0 | exact hP1), (by first | exact hC0 | exact hC1), (by first | exact hH0 | exact hH1)⟩
      try (exfalso; first | with_reducible exact absurd hc2 Bool.false_ne_true | with_reducible exact absurd hc2.symm Bool.false_ne_true | (simp only [nrm] at hc2; omega) | (simp at hc2; done))
      all_goals
       try simp only [nrm] at hc2
       refine wp_exit ?_
       refine then_x ?_; clear hK10 K10
       refine then_x ?_
       refine inb_x ?_
       refine then_n (hK7 _ _ ?_); clear hK7 K7
       refine wp_seq_k ?_; intro K14 hK14
       obtain rfl : n = k := by omega
       rw [Nat.sub_self] at hC hH
       refine wlit ?_
       refine wl_v (x_move (tmP rfl rfl)) ?_
       refine wl_v (x_move (tmP rfl rfl)) ?_
       refine wl_v (x_nil (A := none) (tmP rfl rfl)) ?_
       refine wl_v (x_load (v := .pointer sub.p) Try.underlying45 rfl (tmP rfl rfl) (cellB hS.ok 1 rfl (hcs c))) ?_
       refine wl_e rfl ?_; intro K hK
       refine ow_call Try.func27 rfl rfl (evs_cons (tmP rfl rfl) <| evs_nil) (grown_c sub _) ?_
       rintro e w ⟨g, l, r, s, v, rfl, hsh, hg⟩
       refine ⟨_, rfl, ?_⟩
       have hlt : ao < (cs c).length := (List.getElem?_eq_some_iff.1 (hcs c)).1
       replace hS := hg _ _ _ (hS.perm (M' := sub.es ++ (.blk g0_0 32 [.bool a.six, .int .u64 (a.high : Int), .int .u64 (a.low : Int), .int .i64 (n : Int)] :: .blk ag ty (cs c) :: R c)) permIn)
       clear hg
       replace hS := hS.perm (M' := .blk g0_0 32 [.bool a.six, .int .u64 (a.high : Int), .int .u64 (a.low : Int), .int .i64 (n : Int)] :: .blk ag ty (cs c) :: .blk g 59 (ndV l r s v) :: (l.es ++ r.es ++ R c)) permOut --ents g0_0,tab,nd
       have hcg : ∀ d, ((cs d).set ao (.pointer (some ⟨g, 0, none⟩)))[ao]? = some (.pointer (some ⟨g, 0, none⟩)) := fun d => List.getElem?_set_self (List.getElem?_eq_some_iff.1 (hcs d)).1
       refine hK _ _ ?_; clear hK K
       refine wl_v (x_nil (A := none) (tmP rfl rfl)) ?_
       refine wl_e rfl ?_; intro K hK
       refine ow_storeX hS 1 rfl ts_55 (tmP rfl rfl) (tmP rfl rfl) rfl hlt ?_
       clear hS; intro w hS
       refine hK _ _ ?_; clear hK K
       refine wl_nil ?_
       refine then_n (hK14 _ _ ?_); clear hK14 K14
       refine wp_seq_k ?_; intro K15 hK15
       refine wp_seq_k ?_; intro K16 hK16
       refine wlit ?_
       refine wl_v (x_move (tmP rfl rfl)) ?_
       refine wl_v (x_nil (A := none) (tmP rfl rfl)) ?_
       refine wl_v (x_load (v := .pointer (some ⟨g, 0, none⟩)) Try.underlying45 rfl (tmP rfl rfl) (cellB hS.ok 1 rfl (hcg _))) ?_
       refine wl_v (x_nil (A := none) (tmP rfl rfl)) ?_
       refine wl_v (x_fa 2 Try.underlying59 rfl rfl ts_4 (tmP rfl rfl)) ?_
       refine wl_v (x_load (v := .bool s) Try.underlying4 rfl (tmP rfl rfl) (cellB (t := 59) (l := ndV l r s v) hS.ok 2 rfl rfl)) ?_
       refine wl_v (x_not (tmB rfl rfl)) ?_
       refine wl_nil ?_
       refine then_n (hK16 _ _ ?_); clear hK16 K16
       refine cnd (tm rfl) (fun hc3 => ?_) (fun hc3 => ?_)
       · try (exfalso; first | with_reducible exact absurd hc3 Bool.false_ne_true | with_reducible exact absurd hc3.symm Bool.false_ne_true | (simp only [nrm] at hc3; omega) | (simp at hc3; done))
         all_goals
          try simp only [nrm] at hc3
          replace hS := hS.perm (M' := .blk g0_0 32 [.bool a.six, .int .u64 (a.high : Int), .int .u64 (a.low : Int), .int .i64 (n : Int)] :: ftab tb a.six (C (.nd g l r s v)) o c Z) (List.Perm.cons _ (hP c (.nd g l r s v)))
          refine wlit ?_
          refine wl_v (x_move (tmP rfl rfl)) ?_
          refine wl_v (x_nil (A := none) (tmP rfl rfl)) ?_
          refine wl_v (x_fa 2 Try.underlying47 rfl rfl ts_3 (tmP rfl rfl)) ?_
          refine wl_v (x_load Try.underlying3 rfl (tmP rfl rfl) (cellB hS.ok 1 rfl rfl)) ?_
          first
           | refine wl_v (x_addN (tmI rfl rfl) (ev_cN 1) (fit_i64 (by omega))) ?_
           | refine wl_v (x_addI (tmI rfl rfl) (ev_cN 1) (IntWalk.i64_in _ (by omega))) ?_
           | refine wl_v (x_add (tmI rfl rfl) (ev_cN 1)) ?_
          refine wl_v (x_nil (A := none) (tmP rfl rfl)) ?_
          refine wl_v (x_fa 2 Try.underlying47 rfl rfl ts_3 (tmP rfl rfl)) ?_
          refine wl_e rfl ?_; intro K hK
          first
           | refine ow_store hS 0 rfl ts_3 (tmP rfl rfl) (tmI rfl rfl) rfl rfl ?_
           | refine ow_storeX hS 0 rfl ts_3 (tmP rfl rfl) (tmI rfl rfl) rfl (by simp; omega) ?_
           | refine ow_storeRs hS 0 rfl ts_3 (tmP rfl rfl) (tmI rfl rfl) rfl (by first | omega | (simp; omega)) ?_
           | refine ow_storeR hS 0 rfl ts_3 (tmP rfl rfl) (tmI rfl rfl) rfl (by first | omega | (simp; omega)) ?_
           | refine ow_store hS 1 rfl ts_3 (tmP rfl rfl) (tmI rfl rfl) rfl rfl ?_
           | refine ow_storeX hS 1 rfl ts_3 (tmP rfl rfl) (tmI rfl rfl) rfl (by simp; omega) ?_
           | refine ow_storeRs hS 1 rfl ts_3 (tmP rfl rfl) (tmI rfl rfl) rfl (by first | omega | (simp; omega)) ?_
           | refine ow_storeR hS 1 rfl ts_3 (tmP rfl rfl) (tmI rfl rfl) rfl (by first | omega | (simp; omega)) ?_
          clear hS; intro w hS
          refine hK _ _ ?_; clear hK K
          refine wl_nil ?_
          replace hS := hS.perm (M' := .blk g0_0 32 [.bool a.six, .int .u64 (a.high : Int), .int .u64 (a.low : Int), .int .i64 (n : Int)] :: .blk ag ty ((cs (c + 1)).set ao (.pointer (some ⟨g, 0, none⟩))) :: .blk g 59 (ndV l r s v) :: (l.es ++ r.es ++ R (c + 1))) (List.Perm.cons _ (hP (c + 1) (.nd g l r s v)).symm)
          refine then_n (hK15 _ _ ?_); clear hK15 K15
          refine wp_seq_k ?_; intro K17 hK17
          replace hS := hS.perm perm3
          refine rg_startk 1 hS mixed_ ?_
          clear hS; intro w hS
          refine rg_take 0 rfl rfl (by kernel_rfl) (by kernel_rfl) (by kernel_rfl) (want_0) (fun w hok => x_move (tmP rfl rfl)) ?_
          refine rg_take 1 rfl rfl (by kernel_rfl) (by kernel_rfl) (by kernel_rfl) (want_0) (fun w hok => x_nil (A := none) (tmP rfl rfl)) ?_
          refine rg_take 2 rfl rfl (by kernel_rfl) (by kernel_rfl) (by kernel_rfl) (want_0) (fun w hok => x_load (v := .pointer (some ⟨g, 0, none⟩)) Try.underlying45 rfl (tmP rfl rfl) (cellB hok 1 rfl (hcg _))) ?_
          refine rg_take 3 rfl rfl (by kernel_rfl) (by kernel_rfl) (by kernel_rfl) (want_0) (fun w hok => x_move (tmP rfl rfl)) ?_
          refine rg_take 4 rfl rfl (by kernel_rfl) (by kernel_rfl) (by kernel_rfl) (want_0) (fun w hok => x_nil (A := none) (tmP rfl rfl)) ?_
          refine rg_take 5 rfl rfl (by kernel_rfl) (by kernel_rfl) (by kernel_rfl) (want_0) (fun w hok => x_load (v := .pointer (some ⟨g, 0, none⟩)) Try.underlying45 rfl (tmP rfl rfl) (cellB hok 1 rfl (hcg _))) ?_
          refine rg_take 6 rfl rfl (by kernel_rfl) (by kernel_rfl) (by kernel_rfl) (want_0) (fun w hok => x_move (tmI rfl rfl)) ?_
          refine rg_take 7 rfl rfl (by kernel_rfl) (by kernel_rfl) (by kernel_rfl) (want_0) (fun w hok => x_nil (A := none) (tmP rfl rfl)) ?_
          refine rg_take 8 rfl rfl (by kernel_rfl) (by kernel_rfl) (by kernel_rfl) (want_0) (fun w hok => x_fa 2 Try.underlying59 rfl rfl ts_4 (tmP rfl rfl)) ?_
          refine rg_step 9 rfl (by kernel_rfl) (want_0) (oks_drop hS 1 rfl) ?_; intro K hK
          first
           | refine ow_store hS 0 rfl ts_4 (tmP rfl rfl) ev_c rfl rfl ?_
           | refine ow_storeX hS 0 rfl ts_4 (tmP rfl rfl) ev_c rfl (by simp; omega) ?_
           | refine ow_storeRs hS 0 rfl ts_4 (tmP rfl rfl) ev_c rfl (by first | omega | (simp; omega)) ?_
           | refine ow_storeR hS 0 rfl ts_4 (tmP rfl rfl) ev_c rfl (by first | omega | (simp; omega)) ?_
           | refine ow_store hS 1 rfl ts_4 (tmP rfl rfl) ev_c rfl rfl ?_
           | refine ow_storeX hS 1 rfl ts_4 (tmP rfl rfl) ev_c rfl (by simp; omega) ?_
           | refine ow_storeRs hS 1 rfl ts_4 (tmP rfl rfl) ev_c rfl (by first | omega | (simp; omega)) ?_
           | refine ow_storeR hS 1 rfl ts_4 (tmP rfl rfl) ev_c rfl (by first | omega | (simp; omega)) ?_
           | refine ow_store hS 2 rfl ts_4 (tmP rfl rfl) ev_c rfl rfl ?_
           | refine ow_storeX hS 2 rfl ts_4 (tmP rfl rfl) ev_c rfl (by simp; omega) ?_
           | refine ow_storeRs hS 2 rfl ts_4 (tmP rfl rfl) ev_c rfl (by first | omega | (simp; omega)) ?_
           | refine ow_storeR hS 2 rfl ts_4 (tmP rfl rfl) ev_c rfl (by first | omega | (simp; omega)) ?_
          clear hS; intro w hS
          refine hK _ _ ?_; clear hK K
          refine rg_take 10 rfl rfl (by kernel_rfl) (by kernel_rfl) (by kernel_rfl) (want_0) (fun w hok => x_nil (A := none) (tmP rfl rfl)) ?_
          refine rg_take 11 rfl rfl (by kernel_rfl) (by kernel_rfl) (by kernel_rfl) (want_0) (fun w hok => x_fa 3 Try.underlying59 rfl rfl ts_3 (tmP rfl rfl)) ?_
          refine rg_step 12 rfl (by kernel_rfl) (want_0) (oks_drop hS 1 rfl) ?_; intro K hK
          first
           | refine ow_store hS 0 rfl ts_3 (tmP rfl rfl) (tmI rfl rfl) rfl rfl ?_
           | refine ow_storeX hS 0 rfl ts_3 (tmP rfl rfl) (tmI rfl rfl) rfl (by simp; omega) ?_
           | refine ow_storeRs hS 0 rfl ts_3 (tmP rfl rfl) (tmI rfl rfl) rfl (by first | omega | (simp; omega)) ?_
           | refine ow_storeR hS 0 rfl ts_3 (tmP rfl rfl) (tmI rfl rfl) rfl (by first | omega | (simp; omega)) ?_
           | refine ow_store hS 1 rfl ts_3 (tmP rfl rfl) (tmI rfl rfl) rfl rfl ?_
           | refine ow_storeX hS 1 rfl ts_3 (tmP rfl rfl) (tmI rfl rfl) rfl (by simp; omega) ?_
           | refine ow_storeRs hS 1 rfl ts_3 (tmP rfl rfl) (tmI rfl rfl) rfl (by first | omega | (simp; omega)) ?_
           | refine ow_storeR hS 1 rfl ts_3 (tmP rfl rfl) (tmI rfl rfl) rfl (by first | omega | (simp; omega)) ?_
           | refine ow_store hS 2 rfl ts_3 (tmP rfl rfl) (tmI rfl rfl) rfl rfl ?_
           | refine ow_storeX hS 2 rfl ts_3 (tmP rfl rfl) (tmI rfl rfl) rfl (by simp; omega) ?_
           | refine ow_storeRs hS 2 rfl ts_3 (tmP rfl rfl) (tmI rfl rfl) rfl (by first | omega | (simp; omega)) ?_
           | refine ow_storeR hS 2 rfl ts_3 (tmP rfl rfl) (tmI rfl rfl) rfl (by first | omega | (simp; omega)) ?_
          clear hS; intro w hS
          refine hK _ _ ?_; clear hK K
          refine rg_done (oks_drop hS 1 rfl) (by kernel_rfl) ?_
          refine then_n (hK17 _ _ ?_); clear hK17 K17
          refine wp_seq_k ?_; intro K18 hK18
          refine wlit ?_
          refine wl_v (x_assign (ev_cN 0)) ?_
          refine wl_nil ?_
          refine then_n (hK18 _ _ ?_); clear hK18 K18
          refine wp_ret ?_
          refine ret1 rfl (.tmp rfl (show _ = Value.int _ _ from rfl)) ?_
          refine ⟨rfl, C (.nd g l r true V), ?_, hC _ ?_⟩
          · have hs : (atS (pbit a) n 0 x.sh).isS = s := by
              rw [← hH]
              have h1 := atS_grow (pbit a) 0 0 sub.sh
              rw [← hsh] at h1
              exact h1.symm
            have h3 := (hS.perm perm3.symm).tail.perm (hP _ (.nd g l r true V))
            rw [hs]
            cases s
            · first | exact h3 | (simp at hc3; done)
            · first | (rw [if_pos rfl, Int.add_zero]; exact h3) | (simp at hc3; done)
          · rw [← setS_grow, ← hsh]
            rfl
       try (exfalso; first | with_reducible exact absurd hc3 Bool.false_ne_true | with_reducible exact absurd hc3.symm Bool.false_ne_true | (simp only [nrm] at hc3; omega) | (simp at hc3; done))
       all_goals
        try simp only [nrm] at hc3
        refine wp_skip ?_
        refine then_n (hK15 _ _ ?_); clear hK15 K15
        refine wp_seq_k ?_; intro K19 hK19
        replace hS := hS.perm perm3
        refine rg_startk 1 hS mixed_ ?_
        clear hS; intro w hS
        refine rg_take 0 rfl rfl (by kernel_rfl) (by kernel_rfl) (by kernel_rfl) (want_0) (fun w hok => x_move (tmP rfl rfl)) ?_
        refine rg_take 1 rfl rfl (by kernel_rfl) (by kernel_rfl) (by kernel_rfl) (want_0) (fun w hok => x_nil (A := none) (tmP rfl rfl)) ?_
        refine rg_take 2 rfl rfl (by kernel_rfl) (by kernel_rfl) (by kernel_rfl) (want_0) (fun w hok => x_load (v := .pointer (some ⟨g, 0, none⟩)) Try.underlying45 rfl (tmP rfl rfl) (cellB hok 1 rfl (hcg _))) ?_
        refine rg_take 3 rfl rfl (by kernel_rfl) (by kernel_rfl) (by kernel_rfl) (want_0) (fun w hok => x_move (tmP rfl rfl)) ?_
        refine rg_take 4 rfl rfl (by kernel_rfl) (by kernel_rfl) (by kernel_rfl) (want_0) (fun w hok => x_nil (A := none) (tmP rfl rfl)) ?_
        refine rg_take 5 rfl rfl (by kernel_rfl) (by kernel_rfl) (by kernel_rfl) (want_0) (fun w hok => x_load (v := .pointer (some ⟨g, 0, none⟩)) Try.underlying45 rfl (tmP rfl rfl) (cellB hok 1 rfl (hcg _))) ?_
        refine rg_take 6 rfl rfl (by kernel_rfl) (by kernel_rfl) (by kernel_rfl) (want_0) (fun w hok => x_move (tmI rfl rfl)) ?_
        refine rg_take 7 rfl rfl (by kernel_rfl) (by kernel_rfl) (by kernel_rfl) (want_0) (fun w hok => x_nil (A := none) (tmP rfl rfl)) ?_
        refine rg_take 8 rfl rfl (by kernel_rfl) (by kernel_rfl) (by kernel_rfl) (want_0) (fun w hok => x_fa 2 Try.underlying59 rfl rfl ts_4 (tmP rfl rfl)) ?_
        refine rg_step 9 rfl (by kernel_rfl) (want_0) (oks_drop hS 1 rfl) ?_; intro K hK
        first
         | refine ow_store hS 0 rfl ts_4 (tmP rfl rfl) ev_c rfl rfl ?_
         | refine ow_storeX hS 0 rfl ts_4 (tmP rfl rfl) ev_c rfl (by simp; omega) ?_
         | refine ow_storeRs hS 0 rfl ts_4 (tmP rfl rfl) ev_c rfl (by first | omega | (simp; omega)) ?_
         | refine ow_storeR hS 0 rfl ts_4 (tmP rfl rfl) ev_c rfl (by first | omega | (simp; omega)) ?_
         | refine ow_store hS 1 rfl ts_4 (tmP rfl rfl) ev_c rfl rfl ?_
         | refine ow_storeX hS 1 rfl ts_4 (tmP rfl rfl) ev_c rfl (by simp; omega) ?_
         | refine ow_storeRs hS 1 rfl ts_4 (tmP rfl rfl) ev_c rfl (by first | omega | (simp; omega)) ?_
         | refine ow_storeR hS 1 rfl ts_4 (tmP rfl rfl) ev_c rfl (by first | omega | (simp; omega)) ?_
         | refine ow_store hS 2 rfl ts_4 (tmP rfl rfl) ev_c rfl rfl ?_
         | refine ow_storeX hS 2 rfl ts_4 (tmP rfl rfl) ev_c rfl (by simp; omega) ?_
         | refine ow_storeRs hS 2 rfl ts_4 (tmP rfl rfl) ev_c rfl (by first | omega | (simp; omega)) ?_
         | refine ow_storeR hS 2 rfl ts_4 (tmP rfl rfl) ev_c rfl (by first | omega | (simp; omega)) ?_
        clear hS; intro w hS
        refine hK _ _ ?_; clear hK K
        refine rg_take 10 rfl rfl (by kernel_rfl) (by kernel_rfl) (by kernel_rfl) (want_0) (fun w hok => x_nil (A := none) (tmP rfl rfl)) ?_
        refine rg_take 11 rfl rfl (by kernel_rfl) (by kernel_rfl) (by kernel_rfl) (want_0) (fun w hok => x_fa 3 Try.underlying59 rfl rfl ts_3 (tmP rfl rfl)) ?_
        refine rg_step 12 rfl (by kernel_rfl) (want_0) (oks_drop hS 1 rfl) ?_; intro K hK
        first
         | refine ow_store hS 0 rfl ts_3 (tmP rfl rfl) (tmI rfl rfl) rfl rfl ?_
         | refine ow_storeX hS 0 rfl ts_3 (tmP rfl rfl) (tmI rfl rfl) rfl (by simp; omega) ?_
         | refine ow_storeRs hS 0 rfl ts_3 (tmP rfl rfl) (tmI rfl rfl) rfl (by first | omega | (simp; omega)) ?_
         | refine ow_storeR hS 0 rfl ts_3 (tmP rfl rfl) (tmI rfl rfl) rfl (by first | omega | (simp; omega)) ?_
         | refine ow_store hS 1 rfl ts_3 (tmP rfl rfl) (tmI rfl rfl) rfl rfl ?_
         | refine ow_storeX hS 1 rfl ts_3 (tmP rfl rfl) (tmI rfl rfl) rfl (by simp; omega) ?_
         | refine ow_storeRs hS 1 rfl ts_3 (tmP rfl rfl) (tmI rfl rfl) rfl (by first | omega | (simp; omega)) ?_
         | refine ow_storeR hS 1 rfl ts_3 (tmP rfl rfl) (tmI rfl rfl) rfl (by first | omega | (simp; omega)) ?_
         | refine ow_store hS 2 rfl ts_3 (tmP rfl rfl) (tmI rfl rfl) rfl rfl ?_
         | refine ow_storeX hS 2 rfl ts_3 (tmP rfl rfl) (tmI rfl rfl) rfl (by simp; omega) ?_
         | refine ow_storeRs hS 2 rfl ts_3 (tmP rfl rfl) (tmI rfl rfl) rfl (by first | omega | (simp; omega)) ?_
         | refine ow_storeR hS 2 rfl ts_3 (tmP rfl rfl) (tmI rfl rfl) rfl (by first | omega | (simp; omega)) ?_
        clear hS; intro w hS
        refine hK _ _ ?_; clear hK K
        refine rg_done (oks_drop hS 1 rfl) (by kernel_rfl) ?_
        refine then_n (hK19 _ _ ?_); clear hK19 K19
        refine wp_seq_k ?_; intro K20 hK20
        refine wlit ?_
        refine wl_v (x_assign (ev_cN 0)) ?_
        refine wl_nil ?_
        refine then_n (hK20 _ _ ?_); clear hK20 K20
        refine wp_ret ?_
        refine ret1 rfl (.tmp rfl (show _ = Value.int _ _ from rfl)) ?_
        refine ⟨rfl, C (.nd g l r true V), ?_, hC _ ?_⟩
        · have hs : (atS (pbit a) n 0 x.sh).isS = s := by
            rw [← hH]
            have h1 := atS_grow (pbit a) 0 0 sub.sh
            rw [← hsh] at h1
            exact h1.symm
          have h3 := (hS.perm perm3.symm).tail.perm (hP _ (.nd g l r true V))
          rw [hs]
          cases s
          · first | exact h3 | (simp at hc3; done)
          · first | (rw [if_pos rfl, Int.add_zero]; exact h3) | (simp at hc3; done)
        · rw [← setS_grow, ← hsh]
          rfl
end Go.Proofs.Ytlpgedncnefaoaa
