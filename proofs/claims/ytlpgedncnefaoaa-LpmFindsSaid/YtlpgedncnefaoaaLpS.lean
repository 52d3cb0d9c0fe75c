
/- lpm: Set and Drop on both families; made by contract. Conditions: none but bounds. -/
import Derived.Test.YtlpgedncnefaoaaLpR
namespace Go.Proofs.Ytlpgedncnefaoaa
open Go.RowKit
theorem St.joins {F : List Nat} {w1 w w' : World} {M M2 : List Ent} (h : St F w1 M w) (h2 : St [] w M2 w') (hv : ∀ e ∈ M2, e.ro = true → ∀ g, e.blk? = some g → w.heap.size ≤ g) : St F w1 (M2 ++ M) w' := by
  have hk : ∀ e ∈ M, e.ok w' := (h.kept h2.kp).ok
  have hnew : ∀ e ∈ M2, ∀ g, e.blk? = some g → w.heap.size ≤ g := fun e he g hg => by
    cases hr : e.ro with
    | true => exact hv e he hr g hg
    | false =>
      rcases h2.own e he hr g hg with hh | hh
      · cases hh
      · exact hh
  refine ⟨h.kp.step h2.kp (by simp), fun e he => ?_, ?_, fun e he hr g hg => ?_⟩
  · rcases List.mem_append.1 he with he | he
    · exact h2.ok e he
    · exact hk e he
  · have p1 : M.Pairwise Ent.apart := by
      rw [List.pairwise_iff_getElem]
      intro i j hi hj hij
      exact h.ap i j _ _ (by omega) (List.getElem?_eq_getElem hi) (List.getElem?_eq_getElem hj)
    have p2 : M2.Pairwise Ent.apart := by
      rw [List.pairwise_iff_getElem]
      intro i j hi hj hij
      exact h2.ap i j _ _ (by omega) (List.getElem?_eq_getElem hi) (List.getElem?_eq_getElem hj)
    have p : (M2 ++ M).Pairwise Ent.apart := by
      rw [List.pairwise_append]
      refine ⟨p2, p1, fun a ha b hb => ?_⟩
      cases hga : a.blk? with
      | none => exact .inr (.inl hga)
      | some g =>
        cases hgb : b.blk? with
        | none => exact .inr (.inr (.inl hgb))
        | some g' =>
          refine .inr (.inr (.inr ?_))
          rw [hga, hgb]
          intro e
          injection e with e
          have q1 := hnew a ha g hga
          have q2 := Ent.ok_lt (h.ok b hb) hgb
          omega
    rw [List.pairwise_iff_getElem] at p
    intro i j a b hij ha hb
    obtain ⟨hi, rfl⟩ := List.getElem?_eq_some_iff.1 ha
    obtain ⟨hj, rfl⟩ := List.getElem?_eq_some_iff.1 hb
    rcases Nat.lt_or_ge i j with hlt | hge
    · exact p i j hi hj hlt
    · exact Ent.apart_symm (p j i hj hi (by omega))
  · rcases List.mem_append.1 he with he | he
    · exact .inr (Nat.le_trans h.kp.size (hnew e he g hg))
    · exact h.own e he hr g hg
def shp (x4 x6 : TT) : Bool → Sh := fun b => if b then x6.sh else x4.sh
theorem fam_perm (tb : Nat) (six : Bool) (x4 x6 : TT) (c : Int) (Z : List Ent) : (ftab tb false x4 x6 c Z).Perm (ftab tb six (cond six x6 x4) (cond six x4 x6) c Z) := by
  cases six with
  | false => exact List.Perm.refl _
  | true => exact ftab_swap tb false x4 x6 c Z
theorem fam_sh (six : Bool) (x4 x6 : TT) : (cond six x6 x4).sh = shp x4 x6 six := by cases six <;> rfl
theorem fam_up (six : Bool) (x4 x6 y : TT) (t : Sh) (hy : y.sh = t) : shp (cond six x4 y) (cond six y x6) = upS (shp x4 x6) six t := by
  funext b
  subst hy
  cases six <;> cases b <;> rfl
theorem fam_back (tb : Nat) (six : Bool) (x4 x6 y : TT) (c : Int) (Z : List Ent) : (ftab tb six y (cond six x4 x6) c Z).Perm (ftab tb false (cond six x4 y) (cond six y x6) c Z) := by
  cases six with
  | false => exact List.Perm.refl _
  | true => exact ftab_swap tb true y x4 c Z
/-- What Set makes of a table. -/
def SetT (x4 x6 : TT) (c : Int) (a : Ad) (z : Int) (m : Nat) (V : Int) (f : Int) (y4 y6 : TT) (d : Int) : Prop :=
  (rgtB a z m = false ∧ f = 1 ∧ y4 = x4 ∧ y6 = x6 ∧ d = c) ∨ (rgtB a z m = true ∧ f = 0 ∧ shp y4 y6 = upS (shp x4 x6) a.six (setS (pbit a) V m 0 (shp x4 x6 a.six)) ∧ d = c + if (atS (pbit a) m 0 (shp x4 x6 a.six)).isS then 0 else 1)
theorem tset_c (tb : Nat) (x4 x6 : TT) (c : Int) (a : Ad) (z : Int) (m : Nat) (V : Int) (Z : List Ent) (F : List Nat) (w1 w0 : World) (hS : St F w1 (ftab tb false x4 x6 c Z) w0) (hl : adLim a) (hz : min (max z 0) (adBits a : Int) = (m : Int)) (hc : 0 ≤ c ∧ c ≤ 1000) :
    Calls Try.prog 13 #[.pointer (some ⟨tb, 0, none⟩), .agg (pxV a z), .int .i64 V] w0 fun e w' => ∃ f y4 y6 d, e = .returned (.int .i64 f) ∧ SetT x4 x6 c a z m V f y4 y6 d ∧ St F w1 (ftab tb false y4 y6 d Z) w' := by
  by_cases hr : rgtB a z m = true
  · obtain ⟨hp, rfl⟩ := (rgtB_iff a z m hl hz).1 hr
    refine Calls.mono (lset_c tb _ _ c a m V Z F w1 w0 (hS.perm (fam_perm tb a.six x4 x6 c Z)) hl hr hp.2.2.1 hc) ?_
    rintro e w' ⟨rfl, y, h1, h2⟩
    rw [fam_sh] at h1 h2
    exact ⟨0, _, _, _, rfl, .inr ⟨hr, rfl, fam_up a.six x4 x6 y _ h2, rfl⟩, h1.perm (fam_back tb a.six x4 x6 y _ Z)⟩
  · refine Calls.mono (lset_no_c tb a z m V w0 hl hz (by simpa using hr)) ?_
    rintro e w' ⟨rfl, hk⟩
    exact ⟨1, x4, x6, c, rfl, .inl ⟨by simpa using hr, rfl, rfl, rfl, rfl⟩, hS.kept hk⟩
def DropT (x4 x6 : TT) (c : Int) (a : Ad) (z : Int) (m : Nat) (f : Int) (y4 y6 : TT) (d : Int) : Prop :=
  (lookS a z m (shp x4 x6 a.six) = none ∧ f = 6 ∧ y4 = x4 ∧ y6 = x6 ∧ d = c) ∨ (∃ v, rgtB a z m = true ∧ getS (pbit a) m 0 (shp x4 x6 a.six) = some v ∧ f = 0 ∧ shp y4 y6 = upS (shp x4 x6) a.six (dropS (pbit a) m 0 (shp x4 x6 a.six)) ∧ d = c - 1)
theorem tdrop_c (tb : Nat) (x4 x6 : TT) (c : Int) (a : Ad) (z : Int) (m : Nat) (Z : List Ent) (F : List Nat) (w1 w0 : World) (hS : St F w1 (ftab tb false x4 x6 c Z) w0) (hl : adLim a) (hz : min (max z 0) (adBits a : Int) = (m : Int)) (hc : 0 ≤ c ∧ c ≤ 1000) :
    Calls Try.prog 10 #[.pointer (some ⟨tb, 0, none⟩), .agg (pxV a z)] w0 fun e w' => ∃ f y4 y6 d, e = .returned (.int .i64 f) ∧ DropT x4 x6 c a z m f y4 y6 d ∧ St F w1 (ftab tb false y4 y6 d Z) w' := by
  have hS' := hS.perm (fam_perm tb a.six x4 x6 c Z)
  cases hno : lookS a z m (shp x4 x6 a.six) with
  | none =>
    refine Calls.mono (ldrop_no_c tb _ _ c a z m Z F w1 w0 hS' hl hz (by rw [fam_sh]; exact hno)) ?_
    rintro e w' ⟨rfl, h⟩
    exact ⟨6, x4, x6, c, rfl, .inl ⟨hno, rfl, rfl, rfl, rfl⟩, h.perm (fam_perm tb a.six x4 x6 c Z).symm⟩
  | some v =>
    have hr : rgtB a z m = true := by
      unfold lookS at hno
      split at hno
      · assumption
      · cases hno
    obtain ⟨hp, rfl⟩ := (rgtB_iff a z m hl hz).1 hr
    have hg : getS (pbit a) m 0 (shp x4 x6 a.six) = some v := by
      unfold lookS at hno
      rwa [if_pos hr] at hno
    refine Calls.mono (ldrop_yes_c tb _ _ c a m Z F w1 w0 hS' hl hr v (by rw [fam_sh]; exact hg) hc) ?_
    rintro e w' ⟨rfl, y, h1, h2⟩
    rw [fam_sh] at h2
    exact ⟨0, _, _, _, rfl, .inr ⟨v, hr, hg, rfl, fam_up a.six x4 x6 y _ h2, rfl⟩, h1.perm (fam_back tb a.six x4 x6 y _ Z)⟩
/-- Both sides have gone the same way. -/
theorem both_set {l l' : List En} {x4 x6 y4 y6 : TT} {c d f f' : Int} {x : En} {m : Nat} (h : LT l (shp x4 x6)) (hc : c = (l.length : Int)) (hl : adLim x.a) (hz : min (max x.len 0) (adBits x.a : Int) = (m : Int)) (h1 : SetT x4 x6 c x.a x.len m x.val f y4 y6 d) (h2 : SetR l x m l' f') : f = f' ∧ LT l' (shp y4 y6) ∧ d = (l'.length : Int) := by
  rcases h.setR h2 hl hz with ⟨q1, rfl, rfl⟩ | ⟨q1, _, _, rfl, q5, q6⟩
  · rcases h1 with ⟨_, rfl, rfl, rfl, rfl⟩ | ⟨q, _⟩
    · exact ⟨rfl, h, hc⟩
    · rw [q1] at q; cases q
  · rcases h1 with ⟨q, _⟩ | ⟨_, rfl, e1, e2⟩
    · rw [q1] at q; cases q
    · exact ⟨rfl, by rw [e1]; exact q5, by rw [e2, q6, hc]⟩
theorem both_drop {l l' : List En} {x4 x6 y4 y6 : TT} {c d f f' : Int} {x : En} {m : Nat} (h : LT l (shp x4 x6)) (hc : c = (l.length : Int)) (hl : adLim x.a) (hz : min (max x.len 0) (adBits x.a : Int) = (m : Int)) (h1 : DropT x4 x6 c x.a x.len m f y4 y6 d) (h2 : DropR l x l' f') : f = f' ∧ LT l' (shp y4 y6) ∧ d = (l'.length : Int) := by
  rcases h.dropR h2 hl hz with ⟨q1, rfl, rfl⟩ | ⟨v, q1, q2, q3, rfl, q5, q6⟩
  · rcases h1 with ⟨_, rfl, rfl, rfl, rfl⟩ | ⟨v, q, q3, _⟩
    · exact ⟨rfl, h, hc⟩
    · rw [lookS, if_pos q, q3] at q1; cases q1
  · rcases h1 with ⟨q, _⟩ | ⟨_, _, _, rfl, e1, e2⟩
    · rw [lookS, if_pos q1, q3] at q; cases q
    · exact ⟨rfl, by rw [e1]; exact q5, by rw [e2, q6, hc]⟩
/-- An act of the statement. -/
structure LA where
  kind : Int
  e : En
instance : Inhabited LA := ⟨⟨0, default⟩⟩
def laV (x : LA) : List Value := [.int .i64 x.kind, .bool x.e.a.six, .int .u64 (x.e.a.high : Int), .int .u64 (x.e.a.low : Int), .int .i64 x.e.len, .int .i64 x.e.val]
theorem laV_len (x : LA) : (laV x).length = 6 := rfl
theorem LT.nil2 : LT [] (shp .nil .nil) := by
  have : shp .nil .nil = fun _ => .nil := by funext b; cases b <;> rfl
  rw [this]
  exact LT.nil_
theorem St.swapv {F : List Nat} {w0 w w' : World} {T : List Ent} {va : Ent} {R R1 : Option Addr} {r r1 : List En} (hS : St F w0 (va :: .vw R (flat enV r) :: T) w) (hk : Kp [] w w') (hor : NewV w w' R1 (flat enV r1) ∨ R1 = R ∧ r1 = r) : St F w0 (va :: .vw R1 (flat enV r1) :: T) w' := by
  rcases hor with h | ⟨rfl, rfl⟩
  · exact ((hS.addn hk h).perm perm3).tail.perm (List.Perm.swap _ _ _)
  · exact hS.kept hk
theorem new_vw {w0 w w' : World} {R R1 : Option Addr} {r r1 : List En} (hs : w0.heap.size ≤ w.heap.size) (h0 : ∀ g, (Ent.vw R (flat enV r)).blk? = some g → w0.heap.size ≤ g) (hor : NewV w w' R1 (flat enV r1) ∨ R1 = R ∧ r1 = r) : ∀ g, (Ent.vw R1 (flat enV r1)).blk? = some g → w0.heap.size ≤ g := by
  rcases hor with h | ⟨rfl, rfl⟩
  · exact fun g hg => Nat.le_trans hs (h.2 g hg)
  · exact h0
theorem setR_len {l l' : List En} {x : En} {m : Nat} {f : Int} (h : SetR l x m l' f) : l'.length ≤ l.length + 1 := by
  rcases h with ⟨_, rfl, _⟩ | ⟨_, _, ⟨rfl, _⟩ | ⟨k, rfl, _⟩⟩ <;> simp
theorem dropR_len {l l' : List En} {x : En} {f : Int} (h : DropR l x l' f) : l'.length ≤ l.length + 1 := by
  rcases h with ⟨_, rfl, _⟩ | ⟨k, rfl, _⟩
  · omega
  · rw [List.length_append, List.length_take, List.length_drop]; omega
theorem perm2in {tb : Nat} {six : Bool} {x o : TT} {c : Int} {A B : Ent} {Z : List Ent} : (A :: B :: ftab tb six x o c Z).Perm (ftab tb six x o c (A :: B :: Z)) := (List.Perm.cons _ ftab_in).trans ftab_in
def enM (x : En) : Nat := (min (max x.len 0) (adBits x.a : Int)).toNat
theorem enM_eq (x : En) : min (max x.len 0) (adBits x.a : Int) = (enM x : Int) := by unfold enM; omega
set_option maxRecDepth 100000 in
set_option maxHeartbeats 8000000 in
theorem made_c (A : Option Addr) (n c : Nat) (l : List LA) (w0 : World) (hv : View w0 w0.heap.size A (flat laV l)) (hl : l.length = n) (hlim : ∀ x ∈ l, adLim x.e.a) :
    Calls Try.prog 6 #[.slice A n c] w0 fun e w' => ∃ tb x4 x6 R nr cr r, e = .returned (.tuple #[.pointer (some ⟨tb, 0, none⟩), .slice R nr cr, .bool true]) ∧ LT r (shp x4 x6) ∧ r.length = nr ∧ nr ≤ 40 ∧ nr ≤ cr ∧ St [] w0 (.vw R (flat enV r) :: ftab tb false x4 x6 (nr : Int) []) w' ∧ ∀ g, (Ent.vw R (flat enV r)).blk? = some g → w0.heap.size ≤ g := by
  have hS := (St.sv w0).vcons rfl hv
  have hfl := flat_length (enc := laV) (l := l) laV_len
  refine ent (n := 84) Try.func6 rfl rfl ?_
  refine wp_seq_k ?_; intro K1 hK1
  refine wlit ?_
  refine wl_v (x_assign ev_c) ?_
  refine wl_v (x_assign ev_c) ?_
  refine wl_v (x_assign ev_c) ?_
  refine wl_nil ?_
  refine then_n (hK1 _ _ ?_); clear hK1 K1
  refine wp_seq_k ?_; intro K2 hK2
  refine wlit ?_
  refine wl_v (x_build (bc_skip (.pointer none) <| bc_skip (.pointer none) <| bc_skip (.int .i64 0) <| bc_nil) (by kernel_rfl)) ?_
  refine wl_e rfl ?_; intro K hK
  refine ow_box hS (tmA rfl rfl) rfl ?_
  clear hS; intro g1_1 w hg1_1 hS
  refine hK _ _ ?_; clear hK K
  refine wl_v (x_assign (tmP rfl rfl)) ?_
  refine wl_nil ?_
  refine then_n (hK2 _ _ ?_); clear hK2 K2
  refine wp_seq_k ?_; intro K3 hK3
  refine wlit ?_
  refine wl_v (x_assign ev_c) ?_
  refine wl_nil ?_
  refine then_n (hK3 _ _ ?_); clear hK3 K3
  refine wp_seq_k ?_; intro K4 hK4
  refine wp_seq_k ?_; intro K5 hK5
  replace hS := (hS.addn (Kp.refl _ _) (NewV.nil_ w w none)).perm (M' := .vw A (flat laV l) :: .vw none [] :: ftab g1_1 false .nil .nil 0 []) perm3
  refine wlit ?_
  refine wl_v (x_assign (ev_cN 0)) ?_
  refine wl_nil ?_
  refine then_n (hK5 _ _ ?_); clear hK5 K5
  refine wp_block ?_
  refine lp [2, 3, 4, 6, 7, 8, 9, 12, 13, 14, 15, 16, 17, 18, 19, 20, 21, 22, 23, 24, 25, 26, 27, 28, 29, 30, 31, 32, 33, 34, 35, 36, 37, 38, 39, 40, 41, 42, 43, 44, 45, 46, 47, 48, 49, 50, 51, 52, 53, 54, 55, 56, 57, 58, 59, 60, 61, 62, 63, 64, 65, 66, 67, 68, 69, 70, 71, 72, 73, 74, 75, 76, 77, 78, 79, 80, 81] (fun mz g w => ∃ (k : Nat), ∃ (x4 x6 : TT), ∃ (R : Option Addr), ∃ (nr cr : Nat), ∃ (r : List En), mz = 40 - k ∧ g 7 = .int .i64 (k : Int) ∧ g 6 = .slice R nr cr ∧ St [] w0 (.vw A (flat laV l) :: .vw R (flat enV r) :: ftab g1_1 false x4 x6 (nr : Int) []) w ∧ (k ≤ n ∧ k ≤ 40) ∧ (LT r (shp x4 x6)) ∧ (r.length = nr ∧ nr ≤ k ∧ nr ≤ cr) ∧ (∀ g, (Ent.vw R (flat enV r)).blk? = some g → w0.heap.size ≤ g)) ?_ ?_
  · exact ⟨_, 0, .nil, .nil, none, 0, 0, [], rfl, (by first | rfl | go_num | exact congrArg (Value.int _) (by first | omega | (simp; done) | (simp; omega))), (by first | rfl | go_num | exact congrArg (Value.int _) (by first | omega | (simp; done) | (simp; omega))), hS, (by omega), (by first | exact hLT1 | exact LT.nil2), (by first | exact hrl1 | exact ⟨rfl, Nat.le_refl _, Nat.le_refl _⟩), (by first | exact hnew1 | exact (fun g hg => by cases hg))⟩
  · clear hS; intro mz g w hI
    obtain ⟨k, x4, x6, R, nr, cr, r, rfl, hs7, hs6, hS, hk, hLT, hrl, hnew⟩ := hI
    refine fr_know (d := 7) hs7 ?_; clear hs7
    refine fr_know (d := 6) hs6 ?_; clear hs6
    refine wp_seq_k ?_; intro K6 hK6
    refine wp_seq_k ?_; intro K7 hK7
    refine wlit ?_
    refine wl_v (x_move (tmI rfl rfl)) ?_
    refine wl_v (x_move (tmS rfl rfl)) ?_
    refine wl_v (x_len Try.underlying22 (tmS rfl rfl)) ?_
    refine wl_v (x_lss (tmI rfl rfl) (tmI rfl rfl)) ?_
    refine wl_v (x_move (tmB rfl rfl)) ?_
    refine gs_wl (tm (t := 16) rfl) (fun hg4_4 => ?_) (fun hg4_4 => ?_)
    · have hg4_4' := hg4_4; (try simp only [nrm] at hg4_4'); try (exfalso; first | with_reducible exact absurd hg4_4 Bool.false_ne_true | with_reducible exact absurd hg4_4.symm Bool.false_ne_true | omega | (simp at hg4_4; done))
      all_goals
       refine wl_gv (want_y rfl rfl rfl rfl (by rw [hg4_4]; rfl)) (x_move (tmI rfl rfl)) ?_
       refine wl_gv (want_y rfl rfl rfl rfl (by rw [hg4_4]; rfl)) (x_lss (tmI rfl rfl) (ev_cN 40)) ?_
       refine wl_v (x_pickT (tmB rfl rfl) hg4_4 (tmB rfl rfl)) ?_
       refine wl_nil ?_
       refine then_n (hK7 _ _ ?_); clear hK7 K7
       refine cnd (tm rfl) (fun hc0 => ?_) (fun hc0 => ?_)
       · try (exfalso; first | with_reducible exact absurd hc0 Bool.false_ne_true | with_reducible exact absurd hc0.symm Bool.false_ne_true | (simp only [nrm] at hc0; omega) | (simp at hc0; done))
         all_goals
          try simp only [nrm] at hc0
          refine wp_skip ?_
          refine then_n (hK6 _ _ ?_); clear hK6 K6
          refine wp_seq_k ?_; intro K8 hK8
          refine wp_block ?_
          refine wp_seq_k ?_; intro K9 hK9
          refine wlit ?_
          refine wl_v (x_assign (ev_cN 0)) ?_
          refine wl_v (x_assign (ev_cN 0)) ?_
          refine wl_nil ?_
          refine then_n (hK9 _ _ ?_); clear hK9 K9
          refine wp_seq_k ?_; intro K10 hK10
          refine wp_seq_k ?_; intro K11 hK11
          obtain ⟨b4, o4, rfl⟩ := view_some (viewV hS.ok 0 rfl) (by rw [hfl]; omega)
          have hla : adLim (l.getD k default).e.a := hlim _ (List.mem_iff_getElem?.2 ⟨k, by rw [List.getD_eq_getElem?_getD, List.getElem?_eq_getElem (by omega : k < l.length)]; rfl⟩)
          refine wlit ?_
          refine wl_v (x_move (tmS rfl rfl)) ?_
          refine wl_v (x_move (tmI rfl rfl)) ?_
          refine wl_v (x_ixs Try.underlying22 ts_51 (tmS rfl rfl) (tmI rfl rfl) (by omega)) ?_
          refine wl_v (x_fa 0 Try.underlying51 rfl rfl ts_3 (tmP rfl rfl)) ?_
          first
           | refine wl_v (x_load Try.underlying3 rfl (tmP rfl rfl) (cellB hS.ok 2 rfl rfl)) ?_
           | refine wl_v (x_load Try.underlying3 rfl (tmP rfl rfl) (cellV hS.ok 0 rfl rfl)) ?_
           | refine wl_v (x_load Try.underlying3 rfl (tmP rfl rfl) (cellV hS.ok 0 rfl (getm (by omega)))) ?_
           | refine wl_v (x_load Try.underlying3 rfl (tmP rfl rfl) (cellVs hS.ok 0 rfl (fun _ => rfl) rfl (by omega) rfl)) ?_
           | refine wl_v (x_load Try.underlying3 rfl (tmP rfl rfl) (cellV hS.ok 1 rfl rfl)) ?_
           | refine wl_v (x_load Try.underlying3 rfl (tmP rfl rfl) (cellV hS.ok 1 rfl (getm (by omega)))) ?_
           | refine wl_v (x_load Try.underlying3 rfl (tmP rfl rfl) (cellVs hS.ok 1 rfl (fun _ => rfl) rfl (by omega) rfl)) ?_
          refine wl_v (x_eql (tmI rfl rfl) (ev_cN 1)) ?_
          refine wl_nil ?_
          refine then_n (hK11 _ _ ?_); clear hK11 K11
          refine cnd (tm rfl) (fun hc1 => ?_) (fun hc1 => ?_)
          · try (exfalso; first | with_reducible exact absurd hc1 Bool.false_ne_true | with_reducible exact absurd hc1.symm Bool.false_ne_true | (simp only [nrm] at hc1; omega) | (simp at hc1; done))
            all_goals
             try simp only [nrm] at hc1
             refine wp_seq_k ?_; intro K12 hK12
             refine wlit ?_
             refine wl_v (x_move (tmP rfl rfl)) ?_
             refine wl_v (x_move (tmS rfl rfl)) ?_
             refine wl_v (x_move (tmI rfl rfl)) ?_
             refine wl_v (x_ixs Try.underlying22 ts_51 (tmS rfl rfl) (tmI rfl rfl) (by omega)) ?_
             refine wl_v (x_fa 1 Try.underlying51 rfl rfl ts_37 (tmP rfl rfl)) ?_
             refine wl_v (x_loadA (cs := enV (l.getD k default).e) Try.underlying37 rfl (by exact ts_37) (tmP rfl rfl) (range_sub (rangeVs hS.ok 0 rfl laV_len (by omega)) 1 rfl)) ?_
             refine wl_e rfl ?_; intro K hK
             refine ow_call Try.func9 rfl rfl (evs_cons (tmA rfl rfl) <| evs_nil) (lto_c (l.getD k default).e _) ?_
             rintro e w ⟨rfl, hk2⟩
             refine ⟨_, rfl, ?_⟩
             replace hS := hS.kept hk2
             clear hk2
             refine hK _ _ ?_; clear hK K
             refine wl_e rfl ?_; intro K hK
             refine ow_call Try.func10 rfl rfl (evs_cons (tmP rfl rfl) <| evs_cons (tmA rfl rfl) <| evs_nil) (tdrop_c g1_1 x4 x6 (nr : Int) (l.getD k default).e.a (l.getD k default).e.len (enM (l.getD k default).e) _ [] w0 _ (hS.perm perm2in) hla (enM_eq (l.getD k default).e) (by omega)) ?_
             rintro e w ⟨f, y4, y6, d, rfl, hT, hS⟩
             refine ⟨_, rfl, ?_⟩
             replace hS := hS.perm perm2in.symm
             refine hK _ _ ?_; clear hK K
             refine wl_v (x_assign (tmI rfl rfl)) ?_
             refine wl_nil ?_
             refine then_n (hK12 _ _ ?_); clear hK12 K12
             refine wlit ?_
             refine wl_v (x_move (tmS rfl rfl)) ?_
             refine wl_v (x_move (tmS rfl rfl)) ?_
             refine wl_v (x_move (tmI rfl rfl)) ?_
             refine wl_v (x_ixs Try.underlying22 ts_51 (tmS rfl rfl) (tmI rfl rfl) (by omega)) ?_
             refine wl_v (x_fa 1 Try.underlying51 rfl rfl ts_37 (tmP rfl rfl)) ?_
             refine wl_v (x_loadA (cs := enV (l.getD k default).e) Try.underlying37 rfl (by exact ts_37) (tmP rfl rfl) (range_sub (rangeVs hS.ok 0 rfl laV_len (by omega)) 1 rfl)) ?_
             refine wl_e rfl ?_; intro K hK
             refine ow_call Try.func15 rfl rfl (evs_cons (tmS rfl rfl) <| evs_cons (tmA rfl rfl) <| evs_nil) (lrdrop_c R nr cr r (l.getD k default).e _ (viewV hS.ok 1 rfl) hrl.1 (by omega) hrl.2.2) ?_
             rintro e w ⟨R1, nr1, cr1, r1, f', rfl, hR, hr1l, hr1c, hor, hk2⟩
             refine ⟨_, rfl, ?_⟩
             have hnew1 := new_vw hS.kp.size hnew hor
             replace hS := hS.swapv hk2 hor
             clear hk2 hor
             obtain ⟨hff, hLT1, hd⟩ := both_drop hLT (by rw [hrl.1]) hla (enM_eq (l.getD k default).e) hT hR
             have hrl1 : r1.length = nr1 ∧ nr1 ≤ k + 1 ∧ nr1 ≤ cr1 := ⟨hr1l, by have := dropR_len hR; omega, hr1c⟩
             rw [hr1l] at hd
             subst hff
             subst hd
             clear hT hR
             refine hK _ _ ?_; clear hK K
             refine wl_v (x_move (tmT rfl rfl)) ?_
             refine wl_v (x_ext (tmT rfl rfl) rfl) ?_
             refine wl_v (x_ext (tmT rfl rfl) rfl) ?_
             refine wl_v (x_assign (tmS rfl rfl)) ?_
             refine wl_v (x_assign (tmI rfl rfl)) ?_
             refine wl_nil ?_
             refine then_n (hK10 _ _ ?_); clear hK10 K10
             refine wp_seq_k ?_; intro K13 hK13
             refine wlit ?_
             refine wl_v (x_move (tmI rfl rfl)) ?_
             refine wl_v (x_move (tmI rfl rfl)) ?_
             refine wl_v (x_neq (tmI rfl rfl) (tmI rfl rfl)) ?_
             refine wl_v (x_move (tmB rfl rfl)) ?_
             refine gs_wl (tm (t := 73) rfl) (fun hg12_3 => ?_) (fun hg12_3 => ?_)
             · exfalso
               simp at hg12_3
             have hg12_3' := hg12_3; (try simp only [nrm] at hg12_3'); try (exfalso; first | with_reducible exact absurd hg12_3 Bool.false_ne_true | with_reducible exact absurd hg12_3.symm Bool.false_ne_true | omega | (simp at hg12_3; done))
             all_goals
              refine wl_gv (want_y rfl rfl rfl rfl (by rw [hg12_3]; rfl)) (x_move (tmP rfl rfl)) ?_
              refine wl_g (want_y rfl rfl rfl rfl (by rw [hg12_3]; rfl)) ?_; intro K hK
              refine ow_call Try.func12 rfl rfl (evs_cons (tmP rfl rfl) <| evs_nil) (llen_c g1_1 false y4 y6 (nr1 : Int) _ [] w0 _ (hS.perm perm2in)) ?_
              rintro e w ⟨rfl, hS⟩
              refine ⟨_, rfl, ?_⟩
              replace hS := hS.perm perm2in.symm
              refine hK _ _ ?_; clear hK K
              refine wl_gv (want_y rfl rfl rfl rfl (by rw [hg12_3]; rfl)) (x_move (tmS rfl rfl)) ?_
              refine wl_gv (want_y rfl rfl rfl rfl (by rw [hg12_3]; rfl)) (x_len Try.underlying28 (tmS rfl rfl)) ?_
              refine wl_gv (want_y rfl rfl rfl rfl (by rw [hg12_3]; rfl)) (x_neq (tmI rfl rfl) (tmI rfl rfl)) ?_
              refine wl_v (x_pickF (tmB rfl rfl) hg12_3 (tmB rfl rfl)) ?_
              refine wl_nil ?_
              refine then_n (hK13 _ _ ?_); clear hK13 K13
              refine cnd (tm rfl) (fun hc2 => ?_) (fun hc2 => ?_)
              · exfalso
                simp at hc2
              try (exfalso; first | with_reducible exact absurd hc2 Bool.false_ne_true | with_reducible exact absurd hc2.symm Bool.false_ne_true | (simp only [nrm] at hc2; omega) | (simp at hc2; done))
              all_goals
               try simp only [nrm] at hc2
               refine wp_skip ?_
               refine inb_n ?_
               refine then_n (hK8 _ _ ?_); clear hK8 K8
               refine wlit ?_
               refine wl_v (x_move (tmI rfl rfl)) ?_
               first
                | refine wl_v (x_addN (tmI rfl rfl) (ev_cN 1) (fit_i64 (by omega))) ?_
                | refine wl_v (x_addI (tmI rfl rfl) (ev_cN 1) (IntWalk.i64_in _ (by omega))) ?_
                | refine wl_v (x_add (tmI rfl rfl) (ev_cN 1)) ?_
               refine wl_v (x_assign (tmI rfl rfl)) ?_
               refine wl_nil ?_
               exact then_n ⟨_, _, rfl, (by show _ < _; omega), (by repeat (first | exact agree_self | exact agree_refl | refine agree_upd rfl ?_ | refine agree_mix rfl ?_)), k + 1, y4, y6, R1, nr1, cr1, r1, rfl, (by first | rfl | go_num | exact congrArg (Value.int _) (by first | omega | (simp; done) | (simp; omega))), (by first | rfl | go_num | exact congrArg (Value.int _) (by first | omega | (simp; done) | (simp; omega))), hS, (by omega), (by first | exact hLT1 | exact LT.nil2), (by first | exact hrl1 | exact ⟨rfl, Nat.le_refl _, Nat.le_refl _⟩), (by first | exact hnew1 | exact (fun g hg => by cases hg))⟩
          try (exfalso; first | with_reducible exact absurd hc1 Bool.false_ne_true | with_reducible exact absurd hc1.symm Bool.false_ne_true | (simp only [nrm] at hc1; omega) | (simp at hc1; done))
          all_goals
           try simp only [nrm] at hc1
           refine wp_seq_k ?_; intro K14 hK14
           refine rg_start (M0 := [.vw (some ⟨b4, o4, none⟩) (flat laV l)]) hS mixed_ ?_
           clear hS; intro w hS
           refine rg_take 0 rfl rfl (by kernel_rfl) (by kernel_rfl) (by kernel_rfl) (want_0) (fun w hok => x_move (tmP rfl rfl)) ?_
           refine rg_take 1 rfl rfl (by kernel_rfl) (by kernel_rfl) (by kernel_rfl) (want_0) (fun w hok => x_move (tmS rfl rfl)) ?_
           refine rg_take 2 rfl rfl (by kernel_rfl) (by kernel_rfl) (by kernel_rfl) (want_0) (fun w hok => x_move (tmI rfl rfl)) ?_
           refine rg_take 3 rfl rfl (by kernel_rfl) (by kernel_rfl) (by kernel_rfl) (want_0) (fun w hok => x_ixs Try.underlying22 ts_51 (tmS rfl rfl) (tmI rfl rfl) (by omega)) ?_
           refine rg_take 4 rfl rfl (by kernel_rfl) (by kernel_rfl) (by kernel_rfl) (want_0) (fun w hok => x_fa 1 Try.underlying51 rfl rfl ts_37 (tmP rfl rfl)) ?_
           refine rg_take 5 rfl rfl (by kernel_rfl) (by kernel_rfl) (by kernel_rfl) (want_0) (fun w hok => x_loadA (cs := enV (l.getD k default).e) Try.underlying37 rfl (by exact ts_37) (tmP rfl rfl) (range_sub (rangeVs (l := l) (enc := laV) (j := k) hok 0 rfl laV_len (by omega)) 1 rfl)) ?_
           refine rg_take 7 rfl rfl (by kernel_rfl) (by kernel_rfl) (by kernel_rfl) (want_0) (fun w hok => x_move (tmS rfl rfl)) ?_
           refine rg_take 8 rfl rfl (by kernel_rfl) (by kernel_rfl) (by kernel_rfl) (want_0) (fun w hok => x_move (tmI rfl rfl)) ?_
           refine rg_take 9 rfl rfl (by kernel_rfl) (by kernel_rfl) (by kernel_rfl) (want_0) (fun w hok => x_ixs Try.underlying22 ts_51 (tmS rfl rfl) (tmI rfl rfl) (by omega)) ?_
           refine rg_take 10 rfl rfl (by kernel_rfl) (by kernel_rfl) (by kernel_rfl) (want_0) (fun w hok => x_fa 1 Try.underlying51 rfl rfl ts_37 (tmP rfl rfl)) ?_
           refine rg_take 11 rfl rfl (by kernel_rfl) (by kernel_rfl) (by kernel_rfl) (want_0) (fun w hok => x_fa 4 Try.underlying37 rfl rfl ts_3 (tmP rfl rfl)) ?_
           refine rg_take 12 rfl rfl (by kernel_rfl) (by kernel_rfl) (by kernel_rfl) (want_0) (fun w hok => x_load (v := .int .i64 (l.getD k default).e.val) Try.underlying3 rfl (tmP rfl rfl) (cellVs (l := l) (enc := laV) (j := k) (o := 5) hok 0 rfl laV_len rfl (by omega) rfl)) ?_
           refine rg_step 6 rfl (by kernel_rfl) (want_0) (fun e he => hS.ok e (by rw [List.mem_singleton.1 he]; exact List.mem_cons_self ..)) ?_; intro K hK
           refine ow_call Try.func9 rfl rfl (evs_cons (tmA rfl rfl) <| evs_nil) (lto_c (l.getD k default).e _) ?_
           rintro e w ⟨rfl, hk2⟩
           refine ⟨_, rfl, ?_⟩
           replace hS := hS.kept hk2
           clear hk2
           refine hK _ _ ?_; clear hK K
           refine rg_step 13 rfl (by kernel_rfl) (want_0) (fun e he => hS.ok e (by rw [List.mem_singleton.1 he]; exact List.mem_cons_self ..)) ?_; intro K hK
           refine ow_call Try.func13 rfl rfl (evs_cons (tmP rfl rfl) <| evs_cons (tmA rfl rfl) <| evs_cons (tmI rfl rfl) <| evs_nil) (tset_c g1_1 x4 x6 (nr : Int) (l.getD k default).e.a (l.getD k default).e.len (enM (l.getD k default).e) (l.getD k default).e.val _ [] w0 _ (hS.perm perm2in) hla (enM_eq (l.getD k default).e) (by omega)) ?_
           rintro e w ⟨f, y4, y6, d, rfl, hT, hS⟩
           refine ⟨_, rfl, ?_⟩
           replace hS := hS.perm perm2in.symm
           refine hK _ _ ?_; clear hK K
           refine rg_take 14 rfl rfl (by kernel_rfl) (by kernel_rfl) (by kernel_rfl) (want_0) (fun w hok => x_assign (tmI rfl rfl)) ?_
           refine rg_done (fun e he => hS.ok e (by rw [List.mem_singleton.1 he]; exact List.mem_cons_self ..)) (by kernel_rfl) ?_
           refine then_n (hK14 _ _ ?_); clear hK14 K14
           refine wlit ?_
           refine wl_v (x_move (tmS rfl rfl)) ?_
           refine wl_v (x_move (tmS rfl rfl)) ?_
           refine wl_v (x_move (tmI rfl rfl)) ?_
           refine wl_v (x_ixs Try.underlying22 ts_51 (tmS rfl rfl) (tmI rfl rfl) (by omega)) ?_
           refine wl_v (x_fa 1 Try.underlying51 rfl rfl ts_37 (tmP rfl rfl)) ?_
           refine wl_v (x_loadA (cs := enV (l.getD k default).e) Try.underlying37 rfl (by exact ts_37) (tmP rfl rfl) (range_sub (rangeVs hS.ok 0 rfl laV_len (by omega)) 1 rfl)) ?_
           refine wl_e rfl ?_; intro K hK
           refine ow_call Try.func16 rfl rfl (evs_cons (tmS rfl rfl) <| evs_cons (tmA rfl rfl) <| evs_nil) (lrset_c R nr cr r (l.getD k default).e (enM (l.getD k default).e) _ (viewV hS.ok 1 rfl) hrl.1 (by omega) hrl.2.2 hla (enM_eq (l.getD k default).e)) ?_
           rintro e w ⟨R1, nr1, cr1, r1, f', rfl, hR, hr1l, hr1c, hor, hk2⟩
           refine ⟨_, rfl, ?_⟩
           have hnew1 := new_vw hS.kp.size hnew hor
           replace hS := hS.swapv hk2 hor
           clear hk2 hor
           obtain ⟨hff, hLT1, hd⟩ := both_set hLT (by rw [hrl.1]) hla (enM_eq (l.getD k default).e) hT hR
           have hrl1 : r1.length = nr1 ∧ nr1 ≤ k + 1 ∧ nr1 ≤ cr1 := ⟨hr1l, by have := setR_len hR; omega, hr1c⟩
           rw [hr1l] at hd
           subst hff
           subst hd
           clear hT hR
           refine hK _ _ ?_; clear hK K
           refine wl_v (x_move (tmT rfl rfl)) ?_
           refine wl_v (x_ext (tmT rfl rfl) rfl) ?_
           refine wl_v (x_ext (tmT rfl rfl) rfl) ?_
           refine wl_v (x_assign (tmS rfl rfl)) ?_
           refine wl_v (x_assign (tmI rfl rfl)) ?_
           refine wl_nil ?_
           refine then_n (hK10 _ _ ?_); clear hK10 K10
           refine wp_seq_k ?_; intro K15 hK15
           refine wlit ?_
           refine wl_v (x_move (tmI rfl rfl)) ?_
           refine wl_v (x_move (tmI rfl rfl)) ?_
           refine wl_v (x_neq (tmI rfl rfl) (tmI rfl rfl)) ?_
           refine wl_v (x_move (tmB rfl rfl)) ?_
           refine gs_wl (tm (t := 73) rfl) (fun hg12_3 => ?_) (fun hg12_3 => ?_)
           · exfalso
             simp at hg12_3
           have hg12_3' := hg12_3; (try simp only [nrm] at hg12_3'); try (exfalso; first | with_reducible exact absurd hg12_3 Bool.false_ne_true | with_reducible exact absurd hg12_3.symm Bool.false_ne_true | omega | (simp at hg12_3; done))
           all_goals
            refine wl_gv (want_y rfl rfl rfl rfl (by rw [hg12_3]; rfl)) (x_move (tmP rfl rfl)) ?_
            refine wl_g (want_y rfl rfl rfl rfl (by rw [hg12_3]; rfl)) ?_; intro K hK
            refine ow_call Try.func12 rfl rfl (evs_cons (tmP rfl rfl) <| evs_nil) (llen_c g1_1 false y4 y6 (nr1 : Int) _ [] w0 _ (hS.perm perm2in)) ?_
            rintro e w ⟨rfl, hS⟩
            refine ⟨_, rfl, ?_⟩
            replace hS := hS.perm perm2in.symm
            refine hK _ _ ?_; clear hK K
            refine wl_gv (want_y rfl rfl rfl rfl (by rw [hg12_3]; rfl)) (x_move (tmS rfl rfl)) ?_
            refine wl_gv (want_y rfl rfl rfl rfl (by rw [hg12_3]; rfl)) (x_len Try.underlying28 (tmS rfl rfl)) ?_
            refine wl_gv (want_y rfl rfl rfl rfl (by rw [hg12_3]; rfl)) (x_neq (tmI rfl rfl) (tmI rfl rfl)) ?_
            refine wl_v (x_pickF (tmB rfl rfl) hg12_3 (tmB rfl rfl)) ?_
            refine wl_nil ?_
            refine then_n (hK15 _ _ ?_); clear hK15 K15
            refine cnd (tm rfl) (fun hc2 => ?_) (fun hc2 => ?_)
            · exfalso
              simp at hc2
            try (exfalso; first | with_reducible exact absurd hc2 Bool.false_ne_true | with_reducible exact absurd hc2.symm Bool.false_ne_true | (simp only [nrm] at hc2; omega) | (simp at hc2; done))
            all_goals
             try simp only [nrm] at hc2
             refine wp_skip ?_
             refine inb_n ?_
             refine then_n (hK8 _ _ ?_); clear hK8 K8
             refine wlit ?_
             refine wl_v (x_move (tmI rfl rfl)) ?_
             first
              | refine wl_v (x_addN (tmI rfl rfl) (ev_cN 1) (fit_i64 (by omega))) ?_
              | refine wl_v (x_addI (tmI rfl rfl) (ev_cN 1) (IntWalk.i64_in _ (by omega))) ?_
              | refine wl_v (x_add (tmI rfl rfl) (ev_cN 1)) ?_
             refine wl_v (x_assign (tmI rfl rfl)) ?_
             refine wl_nil ?_
             exact then_n ⟨_, _, rfl, (by show _ < _; omega), (by repeat (first | exact agree_self | exact agree_refl | refine agree_upd rfl ?_ | refine agree_mix rfl ?_)), k + 1, y4, y6, R1, nr1, cr1, r1, rfl, (by first | rfl | go_num | exact congrArg (Value.int _) (by first | omega | (simp; done) | (simp; omega))), (by first | rfl | go_num | exact congrArg (Value.int _) (by first | omega | (simp; done) | (simp; omega))), hS, (by omega), (by first | exact hLT1 | exact LT.nil2), (by first | exact hrl1 | exact ⟨rfl, Nat.le_refl _, Nat.le_refl _⟩), (by first | exact hnew1 | exact (fun g hg => by cases hg))⟩
       try (exfalso; first | with_reducible exact absurd hc0 Bool.false_ne_true | with_reducible exact absurd hc0.symm Bool.false_ne_true | (simp only [nrm] at hc0; omega) | (simp at hc0; done))
       all_goals
        try simp only [nrm] at hc0
        refine wp_exit ?_
        refine then_x ?_; clear hK6 K6
        refine then_x ?_
        refine inb_x ?_
        refine then_n (hK4 _ _ ?_); clear hK4 K4
        refine wp_seq_k ?_; intro K16 hK16
        refine wlit ?_
        refine wl_v (x_move (tmP rfl rfl)) ?_
        refine wl_v (x_move (tmS rfl rfl)) ?_
        refine wl_v (x_assign (tmP rfl rfl)) ?_
        refine wl_v (x_assign (tmS rfl rfl)) ?_
        refine wl_v (x_assign ev_c) ?_
        refine wl_nil ?_
        refine then_n (hK16 _ _ ?_); clear hK16 K16
        refine wp_ret ?_
        refine ret3 rfl (.tmp rfl (show _ = Value.pointer _ from rfl)) (.tmp rfl (show _ = Value.slice _ _ _ from rfl)) (.tmp rfl (show _ = Value.bool _ from rfl)) ?_
        exact ⟨g1_1, x4, x6, R, nr, cr, r, rfl, hLT, hrl.1, by omega, hrl.2.2, hS.tail, hnew⟩
    have hg4_4' := hg4_4; (try simp only [nrm] at hg4_4'); try (exfalso; first | with_reducible exact absurd hg4_4 Bool.false_ne_true | with_reducible exact absurd hg4_4.symm Bool.false_ne_true | omega | (simp at hg4_4; done))
    all_goals
     refine wl_s rfl (want_n rfl rfl rfl rfl (by rw [hg4_4]; rfl)) ?_
     refine wl_s rfl (want_n rfl rfl rfl rfl (by rw [hg4_4]; rfl)) ?_
     refine wl_v (x_pickF (tmB rfl rfl) hg4_4 ev_c) ?_
     refine wl_nil ?_
     refine then_n (hK7 _ _ ?_); clear hK7 K7
     refine cnd_f (tmB rfl rfl) rfl ?_
     refine wp_exit ?_
     refine then_x ?_; clear hK6 K6
     refine then_x ?_
     refine inb_x ?_
     refine then_n (hK4 _ _ ?_); clear hK4 K4
     refine wp_seq_k ?_; intro K17 hK17
     refine wlit ?_
     refine wl_v (x_move (tmP rfl rfl)) ?_
     refine wl_v (x_move (tmS rfl rfl)) ?_
     refine wl_v (x_assign (tmP rfl rfl)) ?_
     refine wl_v (x_assign (tmS rfl rfl)) ?_
     refine wl_v (x_assign ev_c) ?_
     refine wl_nil ?_
     refine then_n (hK17 _ _ ?_); clear hK17 K17
     refine wp_ret ?_
     refine ret3 rfl (.tmp rfl (show _ = Value.pointer _ from rfl)) (.tmp rfl (show _ = Value.slice _ _ _ from rfl)) (.tmp rfl (show _ = Value.bool _ from rfl)) ?_
     exact ⟨g1_1, x4, x6, R, nr, cr, r, rfl, hLT, hrl.1, by omega, hrl.2.2, hS.tail, hnew⟩
end Go.Proofs.Ytlpgedncnefaoaa
