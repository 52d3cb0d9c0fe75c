
/- lpm: Get and Find on both families; the law LpmEmpties. Conditions: none but bounds. -/
import Derived.Test.YtlpgedncnefaoaaLpS
namespace Go.Proofs.Ytlpgedncnefaoaa
open Go.RowKit
theorem tget_c (tb : Nat) (x4 x6 : TT) (c : Int) (a : Ad) (z : Int) (m : Nat) (Z : List Ent) (F : List Nat) (w1 w0 : World) (hS : St F w1 (ftab tb false x4 x6 c Z) w0) (hl : adLim a) (hz : min (max z 0) (adBits a : Int) = (m : Int)) :
    Calls Try.prog 11 #[.pointer (some ⟨tb, 0, none⟩), .agg (pxV a z)] w0 fun e w' => e = .returned (gotV (lookS a z m (shp x4 x6 a.six))) ∧ St F w1 (ftab tb false x4 x6 c Z) w' := by
  refine Calls.mono (lget_c tb _ _ c a z m Z F w1 w0 (hS.perm (fam_perm tb a.six x4 x6 c Z)) hl hz) ?_
  rintro e w' ⟨rfl, h⟩
  rw [fam_sh]
  exact ⟨rfl, h.perm (fam_perm tb a.six x4 x6 c Z).symm⟩
set_option maxRecDepth 100000 in
set_option maxHeartbeats 8000000 in
theorem lfind_no_c (tb : Nat) (a : Ad) (w0 : World) (hr : ¬ adRight a) :
    Calls Try.prog 7 #[.pointer (some ⟨tb, 0, none⟩), .agg a.V.toArray] w0 fun e w' => e = .returned (.tuple #[.agg #[.bool false, .int .u64 0, .int .u64 0, .int .i64 0], .int .i64 0, .bool false]) ∧ Kp [] w0 w' := by
  have hS := St.sv w0
  refine ent (n := 58) Try.func7 rfl rfl ?_
  refine wp_seq_k ?_; intro K1 hK1
  refine wlit ?_
  refine wl_e rfl ?_; intro K hK
  refine ow_box hS (tmA rfl rfl) rfl ?_
  clear hS; intro g0_0 w hg0_0 hS
  refine hK _ _ ?_; clear hK K
  refine wl_e rfl ?_; intro K hK
  refine ow_alloc hS tz_32 rfl ?_
  clear hS; intro g0_1 w hg0_1 hS
  refine hK _ _ ?_; clear hK K
  refine wl_v (x_assign (ev_cN 0)) ?_
  refine wl_v (x_assign ev_c) ?_
  refine wl_nil ?_
  refine then_n (hK1 _ _ ?_); clear hK1 K1
  refine wp_seq_k ?_; intro K2 hK2
  refine wp_seq_k ?_; intro K3 hK3
  refine wlit ?_
  refine wl_v (x_move (tmP rfl rfl)) ?_
  first
   | refine wl_v (x_peql Try.underlying27 (tmP rfl rfl) ev_c) ?_
   | refine wl_v (x_peqln Try.underlying27 (tmP rfl rfl) ev_c) ?_
  refine wl_v (x_move (tmB rfl rfl)) ?_
  refine gs_wl (tm (t := 13) rfl) (fun hg1_2 => ?_) (fun hg1_2 => ?_)
  · have hg1_2' := hg1_2; (try simp only [nrm] at hg1_2'); try (exfalso; first | with_reducible exact absurd hg1_2 Bool.false_ne_true | with_reducible exact absurd hg1_2.symm Bool.false_ne_true | omega | (simp at hg1_2; done))
    all_goals
     refine wl_s rfl (want_n rfl rfl rfl rfl (by rw [hg1_2]; rfl)) ?_
     refine wl_s rfl (want_n rfl rfl rfl rfl (by rw [hg1_2]; rfl)) ?_
     refine wl_s rfl (want_n rfl rfl rfl rfl (by rw [hg1_2]; rfl)) ?_
     refine wl_v (x_pickT (tmB rfl rfl) hg1_2 ev_c) ?_
     refine wl_nil ?_
     refine then_n (hK3 _ _ ?_); clear hK3 K3
     refine cnd_t (tmB rfl rfl) rfl ?_
     refine wp_seq_k ?_; intro K4 hK4
     refine wlit ?_
     refine wl_v (x_build (bc_skipL [.bool false, .int .u64 0, .int .u64 0] <| bc_skip (.int .i64 0) <| bc_nil) (by kernel_rfl)) ?_
     refine wl_e rfl ?_; intro K hK
     refine ow_storeA hS 0 rfl ts_32 (tmP rfl rfl) (tmA rfl rfl) rfl rfl rfl ?_
     clear hS; intro w hS
     try replace hS := St.nm (M' := [.blk _ _ [_, _, _, _], .blk _ _ [_, _, _], _]) hS rfl
     refine hK _ _ ?_; clear hK K
     refine wl_v (x_assign (ev_cN 0)) ?_
     refine wl_v (x_assign ev_c) ?_
     refine wl_nil ?_
     refine then_n (hK4 _ _ ?_); clear hK4 K4
     refine wp_ret ?_
     refine then_r ?_
     refine ret3 rfl (.cell rfl rfl (load_rowB (cs := [_, _, _, _]) hS.ok 0 rfl Try.underlying32 rfl ts_32 rfl)) (.tmp rfl (show _ = Value.int _ _ from rfl)) (.tmp rfl (show _ = Value.bool _ from rfl)) ?_
     exact ⟨rfl, hS.kp⟩
  have hg1_2' := hg1_2; (try simp only [nrm] at hg1_2'); try (exfalso; first | with_reducible exact absurd hg1_2 Bool.false_ne_true | with_reducible exact absurd hg1_2.symm Bool.false_ne_true | omega | (simp at hg1_2; done))
  all_goals
   refine wl_gv (want_y rfl rfl rfl rfl (by rw [hg1_2]; rfl)) (x_loadA (cs := [_, _, _]) Try.underlying25 rfl ts_25 (tmP rfl rfl) (rangeB hS.ok 1 rfl rfl)) ?_
   refine wl_g (want_y rfl rfl rfl rfl (by rw [hg1_2]; rfl)) ?_; intro K hK
   refine ow_call Try.func17 rfl rfl (evs_cons (tmA rfl rfl) <| evs_nil) (ad_right_c a _) ?_
   rintro e w ⟨rfl, hk⟩
   refine ⟨_, rfl, ?_⟩
   replace hS := hS.kept hk
   clear hk
   refine hK _ _ ?_; clear hK K
   refine wl_gv (want_y rfl rfl rfl rfl (by rw [hg1_2]; rfl)) (x_not (tmB rfl rfl)) ?_
   refine wl_v (x_pickF (tmB rfl rfl) hg1_2 (tmB rfl rfl)) ?_
   refine wl_nil ?_
   refine then_n (hK3 _ _ ?_); clear hK3 K3
   refine cnds (tm rfl) (fun hc0 => ?_) (fun hc0 => ?_)
   · exfalso
     simp [hr] at hc0
   try (exfalso; first | with_reducible exact absurd hc0 Bool.false_ne_true | with_reducible exact absurd hc0.symm Bool.false_ne_true | (simp only [nrm] at hc0; omega) | (simp at hc0; done))
   all_goals
    try simp only [nrm] at hc0
    refine wp_seq_k ?_; intro K6 hK6
    refine wlit ?_
    refine wl_v (x_build (bc_skipL [.bool false, .int .u64 0, .int .u64 0] <| bc_skip (.int .i64 0) <| bc_nil) (by kernel_rfl)) ?_
    refine wl_e rfl ?_; intro K hK
    refine ow_storeA hS 0 rfl ts_32 (tmP rfl rfl) (tmA rfl rfl) rfl rfl rfl ?_
    clear hS; intro w hS
    try replace hS := St.nm (M' := [.blk _ _ [_, _, _, _], .blk _ _ [_, _, _], _]) hS rfl
    refine hK _ _ ?_; clear hK K
    refine wl_v (x_assign (ev_cN 0)) ?_
    refine wl_v (x_assign ev_c) ?_
    refine wl_nil ?_
    refine then_n (hK6 _ _ ?_); clear hK6 K6
    refine wp_ret ?_
    refine then_r ?_
    refine ret3 rfl (.cell rfl rfl (load_rowB (cs := [_, _, _, _]) hS.ok 0 rfl Try.underlying32 rfl ts_32 rfl)) (.tmp rfl (show _ = Value.int _ _ from rfl)) (.tmp rfl (show _ = Value.bool _ from rfl)) ?_
    exact ⟨rfl, hS.kp⟩
def noneV : Value := .tuple #[.agg #[.bool false, .int .u64 0, .int .u64 0, .int .i64 0], .int .i64 0, .bool false]
def someV (a : Ad) (k : Nat) (v : Int) : Value := .tuple #[.agg (pxV (cutM a k) (k : Int)), .int .i64 v, .bool true]
/-- What Find gives. -/
def findV (a : Ad) (t : Sh) : Value := if adRight a then (match findS (pbit a) (adBits a) 0 t none with | none => noneV | some (k, v) => someV a k v) else noneV
theorem tfind_c (tb : Nat) (x4 x6 : TT) (c : Int) (a : Ad) (Z : List Ent) (F : List Nat) (w1 w0 : World) (hS : St F w1 (ftab tb false x4 x6 c Z) w0) (hl : adLim a) :
    Calls Try.prog 7 #[.pointer (some ⟨tb, 0, none⟩), .agg a.V.toArray] w0 fun e w' => e = .returned (findV a (shp x4 x6 a.six)) ∧ St F w1 (ftab tb false x4 x6 c Z) w' := by
  by_cases hr : adRight a
  · refine Calls.mono (lfind_c tb _ _ c a Z F w1 w0 (hS.perm (fam_perm tb a.six x4 x6 c Z)) hl hr) ?_
    rintro e w' ⟨h, hh⟩
    rw [fam_sh] at hh
    refine ⟨?_, h.perm (fam_perm tb a.six x4 x6 c Z).symm⟩
    unfold findV
    rw [if_pos hr]
    rcases hh with ⟨h1, rfl⟩ | ⟨k, v, h1, _, rfl⟩
    · rw [h1]; rfl
    · rw [h1]; rfl
  · refine Calls.mono (lfind_no_c tb a w0 hr) ?_
    rintro e w' ⟨rfl, hk⟩
    refine ⟨?_, hS.kept hk⟩
    unfold findV
    rw [if_neg hr]
    rfl
theorem St.cutv {F : List Nat} {w0 w : World} {T : List Ent} {R : Option Addr} {r : List En} {cr : Nat} (hS : St F w0 (.vw R (flat enV r) :: T) w) (hc : r.length ≤ cr) : St F w0 (.vw (cutA R 1 cr 5) (flat enV (r.drop 1)) :: T) w := by
  refine ((hS.subv 0 rfl (fl_vdrop enV_len (by decide) (viewV hS.ok 0 rfl) hc 1) fun g hg => ?_).perm (List.Perm.swap _ _ _)).tail
  refine vw_blk cutA_map (fun h => ?_) g hg
  intro h0
  apply h
  have h1 := fl_drop enV_len r 1
  rw [← h1, h0]
  rfl
theorem es_ro (t : TT) : ∀ e ∈ t.es, e.ro = false := by
  induction t with
  | nil => intro e he; cases he
  | nd g l r s v ihl ihr =>
    intro e he
    rcases List.mem_cons.1 he with rfl | he
    · rfl
    · rcases List.mem_append.1 he with he | he
      · exact ihl e he
      · exact ihr e he
theorem ftab_ro {tb : Nat} {six : Bool} {x o : TT} {c : Int} (e : Ent) (he : e ∈ ftab tb six x o c []) : e.ro = false := by
  rcases List.mem_cons.1 he with rfl | he
  · rfl
  · rcases List.mem_append.1 he with he | he
    · exact es_ro x e he
    · rw [List.append_nil] at he
      exact es_ro o e he
theorem ftab_app {tb : Nat} {six : Bool} {x o : TT} {c : Int} {M : List Ent} : (ftab tb six x o c [] ++ M).Perm (ftab tb six x o c M) := by
  unfold ftab
  rw [List.cons_append, List.append_nil, List.append_assoc]
theorem getV_none (l : List En) (x4 x6 : TT) (h : LT l (shp x4 x6)) (hn : l = []) (a : Ad) (hl : adLim a) : findV a (shp x4 x6 a.six) = noneV := by
  unfold findV
  by_cases hr : adRight a
  · rw [if_pos hr, findS_none]
    intro j hj
    cases hg : getS (pbit a) j 0 (shp x4 x6 a.six) with
    | none => rfl
    | some v =>
      have hb : getS (pbit (cutM a j)) j 0 (shp x4 x6 (cutM a j).six) = some v := by
        rw [cut_six, getS_agree (pbit a) (pbit (cutM a j)) j 0 _ fun i hi => ?_]
        · exact hg
        · rw [Nat.zero_add, pbit_cut a j i hj (by omega), if_pos hi]
      have := (h.mp _ j (pf_cut a j hr hl hj) v).1 hb
      rw [hn] at this
      cases this
  · rw [if_neg hr]
theorem tget_has_c (tb : Nat) (x4 x6 : TT) (c : Int) (r : List En) (h : LT r (shp x4 x6)) (x : En) (hx : x ∈ r) (Z : List Ent) (F : List Nat) (w1 w0 : World) (hS : St F w1 (ftab tb false x4 x6 c Z) w0) (hl : adLim x.a) :
    Calls Try.prog 11 #[.pointer (some ⟨tb, 0, none⟩), .agg (pxV x.a x.len)] w0 fun e w' => e = .returned (.tuple #[.int .i64 x.val, .bool true]) ∧ St F w1 (ftab tb false x4 x6 c Z) w' := by
  have := tget_c tb x4 x6 c x.a x.len (enM x) Z F w1 w0 hS hl (enM_eq x)
  rw [(h.look x.a x.len (enM x) hl (enM_eq x) x.val).2 hx] at this
  exact this
theorem tfind_nil_c (tb : Nat) (x4 x6 : TT) (c : Int) (r : List En) (h : LT r (shp x4 x6)) (hn : r = []) (a : Ad) (Z : List Ent) (F : List Nat) (w1 w0 : World) (hS : St F w1 (ftab tb false x4 x6 c Z) w0) (hl : adLim a) :
    Calls Try.prog 7 #[.pointer (some ⟨tb, 0, none⟩), .agg a.V.toArray] w0 fun e w' => e = .returned noneV ∧ St F w1 (ftab tb false x4 x6 c Z) w' := by
  have := tfind_c tb x4 x6 c a Z F w1 w0 hS hl
  rw [getV_none r x4 x6 h hn a hl] at this
  exact this
theorem perm3in {tb : Nat} {six : Bool} {x o : TT} {c : Int} {A B D : Ent} {Z : List Ent} : (A :: B :: D :: ftab tb six x o c Z).Perm (ftab tb six x o c (A :: B :: D :: Z)) := (List.Perm.cons _ perm2in).trans ftab_in
set_option maxRecDepth 100000 in
set_option maxHeartbeats 8000000 in
theorem empties_c (A : Option Addr) (n c : Nat) (l : List LA) (a : Ad) (w0 : World) (hv : View w0 w0.heap.size A (flat laV l)) (hl : l.length = n) (hlim : ∀ x ∈ l, adLim x.e.a) (hla : adLim a) :
    Calls Try.prog 4 #[.slice A n c, .agg a.V.toArray] w0 fun e w' => e = .returned (.bool true) ∧ Kp [] w0 w' := by
  have hS := (St.sv w0).vcons rfl hv
  have hfl := flat_length (enc := laV) (l := l) laV_len
  refine ent (n := 82) Try.func4 rfl rfl ?_
  refine wp_seq_k ?_; intro K1 hK1
  refine wlit ?_
  refine wl_e rfl ?_; intro K hK
  refine ow_box hS (tmA rfl rfl) rfl ?_
  clear hS; intro g0_0 w hg0_0 hS
  refine hK _ _ ?_; clear hK K
  refine wl_v (x_assign ev_c) ?_
  refine wl_nil ?_
  refine then_n (hK1 _ _ ?_); clear hK1 K1
  refine wp_seq_k ?_; intro K2 hK2
  refine wp_seq_k ?_; intro K3 hK3
  refine wlit ?_
  refine wl_e rfl ?_; intro K hK
  refine ow_call Try.func5 rfl rfl (evs_nil) (lawake_c _) ?_
  rintro e w ⟨rfl, hk⟩
  refine ⟨_, rfl, ?_⟩
  replace hS := hS.kept hk
  clear hk
  refine hK _ _ ?_; clear hK K
  refine wl_v (x_not (tmB rfl rfl)) ?_
  refine wl_nil ?_
  refine then_n (hK3 _ _ ?_); clear hK3 K3
  refine cnd (tm rfl) (fun hc0 => ?_) (fun hc0 => ?_)
  · exfalso
    simp at hc0
  try (exfalso; first | with_reducible exact absurd hc0 Bool.false_ne_true | with_reducible exact absurd hc0.symm Bool.false_ne_true | (simp only [nrm] at hc0; omega) | (simp at hc0; done))
  all_goals
   try simp only [nrm] at hc0
   refine wp_skip ?_
   refine then_n (hK2 _ _ ?_); clear hK2 K2
   refine wp_seq_k ?_; intro K4 hK4
   refine wlit ?_
   refine wl_v (x_move (tmS rfl rfl)) ?_
   refine wl_e rfl ?_; intro K hK
   refine ow_call Try.func6 rfl rfl (evs_cons (tmS rfl rfl) <| evs_nil) (made_c A n c l _ (viewV hS.ok 1 rfl) hl hlim) ?_
   rintro e w ⟨tb, x4, x6, R, nr, cr, r, rfl, hLT, hrl, hr40, hrc, hS2, hnew⟩
   refine ⟨_, rfl, ?_⟩
   replace hS := hS.joins hS2 (by
     intro e he hro g hg
     rcases List.mem_cons.1 he with rfl | he
     · exact hnew g hg
     · exact absurd hro (by rw [ftab_ro _ he]; decide))
   replace hS := hS.perm (M' := .vw R (flat enV r) :: .blk g0_0 25 a.V :: ftab tb false x4 x6 (nr : Int) [.vw A (flat laV l)]) (List.Perm.cons _ (ftab_app.trans ftab_in.symm)) --ents vr,g0_0,tab
   clear hS2 hnew
   refine hK _ _ ?_; clear hK K
   refine wl_v (x_move (tmT rfl rfl)) ?_
   refine wl_v (x_ext (tmT rfl rfl) rfl) ?_
   refine wl_v (x_ext (tmT rfl rfl) rfl) ?_
   refine wl_v (x_ext (tmT rfl rfl) rfl) ?_
   refine wl_v (x_assign (tmP rfl rfl)) ?_
   refine wl_v (x_assign (tmS rfl rfl)) ?_
   refine wl_v (x_assign (tmB rfl rfl)) ?_
   refine wl_nil ?_
   refine then_n (hK4 _ _ ?_); clear hK4 K4
   refine wp_seq_k ?_; intro K5 hK5
   refine wp_seq_k ?_; intro K6 hK6
   refine wlit ?_
   refine wl_v (x_move (tmB rfl rfl)) ?_
   refine wl_v (x_not (tmB rfl rfl)) ?_
   refine wl_nil ?_
   refine then_n (hK6 _ _ ?_); clear hK6 K6
   refine cnd (tm rfl) (fun hc1 => ?_) (fun hc1 => ?_)
   · exfalso
     simp at hc1
   try (exfalso; first | with_reducible exact absurd hc1 Bool.false_ne_true | with_reducible exact absurd hc1.symm Bool.false_ne_true | (simp only [nrm] at hc1; omega) | (simp at hc1; done))
   all_goals
    try simp only [nrm] at hc1
    refine wp_skip ?_
    refine then_n (hK5 _ _ ?_); clear hK5 K5
    refine wp_seq_k ?_; intro K7 hK7
    refine wp_block ?_
    refine lp [4, 6, 8, 9, 10, 11, 25, 26, 27, 28, 29, 30, 31, 32, 33, 34, 35, 36, 37, 38, 39, 40, 41, 42, 43, 44, 45, 46, 47, 48, 49, 50, 51, 52, 53, 54, 55, 56, 57, 58, 59, 60, 61, 62, 63, 64] (fun mz g w => ∃ (x4 x6 : TT), ∃ (R : Option Addr), ∃ (nr cr : Nat), ∃ (r : List En), mz = 2 * nr ∧ g 6 = .slice R nr cr ∧ St [] w0 (.vw R (flat enV r) :: .blk g0_0 25 a.V :: ftab tb false x4 x6 (nr : Int) [.vw A (flat laV l)]) w ∧ (LT r (shp x4 x6)) ∧ (r.length = nr ∧ nr ≤ 40 ∧ nr ≤ cr)) ?_ ?_
    · exact ⟨_, x4, x6, R, nr, cr, r, rfl, (by first | rfl | go_num | exact congrArg (Value.int _) (by first | omega | (simp; done) | (simp; omega))), hS, (by first | exact hLT1 | exact hLT), (by first | exact hrl1 | exact ⟨hrl, hr40, hrc⟩)⟩
    · clear hS; intro mz g w hI
      obtain ⟨x4, x6, R, nr, cr, r, rfl, hs6, hS, hLT, hrl⟩ := hI
      refine fr_know (d := 6) hs6 ?_; clear hs6
      refine wp_seq_k ?_; intro K8 hK8
      refine wp_seq_k ?_; intro K9 hK9
      refine wlit ?_
      refine wl_v (x_move (tmS rfl rfl)) ?_
      refine wl_v (x_len Try.underlying28 (tmS rfl rfl)) ?_
      refine wl_v (x_gtr (tmI rfl rfl) (ev_cN 0)) ?_
      refine wl_nil ?_
      refine then_n (hK9 _ _ ?_); clear hK9 K9
      refine cnd (tm rfl) (fun hc2 => ?_) (fun hc2 => ?_)
      · try (exfalso; first | with_reducible exact absurd hc2 Bool.false_ne_true | with_reducible exact absurd hc2.symm Bool.false_ne_true | (simp only [nrm] at hc2; omega) | (simp at hc2; done))
        all_goals
         try simp only [nrm] at hc2
         refine wp_skip ?_
         refine then_n (hK8 _ _ ?_); clear hK8 K8
         refine wp_block ?_
         refine wp_seq_k ?_; intro K10 hK10
         obtain ⟨b4, o4, rfl⟩ := view_some (viewV hS.ok 0 rfl) (by rw [flat_length enV_len]; omega)
         have hx0 : r.getD 0 default ∈ r := mem_get (by omega)
         have hlx : adLim (r.getD 0 default).a := by obtain ⟨_, _, hp⟩ := hLT.rt _ hx0; exact hp.2.1
         refine wlit ?_
         refine wl_v (x_move (tmS rfl rfl)) ?_
         refine wl_v (x_ixs Try.underlying28 ts_37 (tmS rfl rfl) (ev_cN 0) (by omega)) ?_
         first
          | refine wl_v (x_loadA (cs := [_, _, _, _, _]) Try.underlying37 rfl ts_37 (tmP rfl rfl) (rangeB hS.ok 2 rfl rfl)) ?_
          | refine wl_v (x_loadA Try.underlying37 rfl (by exact ts_37) (tmP rfl rfl) (rangeVs hS.ok 0 rfl (fun _ => rfl) (by omega))) ?_
         refine wl_e rfl ?_; intro K hK
         refine ow_alloc hS tz_37 rfl ?_
         clear hS; intro g7_3 w hg7_3 hS
         refine hK _ _ ?_; clear hK K
         refine wl_e rfl ?_; intro K hK
         refine ow_storeA hS 0 rfl ts_37 (tmP rfl rfl) (tmA rfl rfl) rfl rfl rfl ?_
         clear hS; intro w hS
         try replace hS := St.nm (M' := [.blk _ _ [_, _, _, _, _], .vw _ _, .blk _ _ [_, _, _], _]) hS rfl
         refine hK _ _ ?_; clear hK K
         refine wl_nil ?_
         refine then_n (hK10 _ _ ?_); clear hK10 K10
         refine wp_seq_k ?_; intro K11 hK11
         refine wlit ?_
         refine wl_v (x_move (tmS rfl rfl)) ?_
         refine wl_v (x_sliceL Try.underlying28 ts_37 (tmS rfl rfl) (ev_cN 1) (by omega)) ?_
         refine wl_v (x_assign (tmS rfl rfl)) ?_
         refine wl_nil ?_
         refine then_n (hK11 _ _ ?_); clear hK11 K11
         refine wp_seq_k ?_; intro K12 hK12
         refine wp_seq_k ?_; intro K13 hK13
         refine wlit ?_
         refine wl_v (x_move (tmP rfl rfl)) ?_
         refine wl_v (x_loadA (cs := [_, _, _, _, _]) Try.underlying37 rfl ts_37 (tmP rfl rfl) (rangeB hS.ok 0 rfl rfl)) ?_
         refine wl_e rfl ?_; intro K hK
         refine ow_call Try.func9 rfl rfl (evs_cons (tmA rfl rfl) <| evs_nil) (lto_c _ _) ?_
         rintro e w ⟨rfl, hk2⟩
         refine ⟨_, rfl, ?_⟩
         replace hS := hS.kept hk2
         clear hk2
         refine hK _ _ ?_; clear hK K
         refine wl_e rfl ?_; intro K hK
         refine ow_call Try.func10 rfl rfl (evs_cons (tmP rfl rfl) <| evs_cons (tmA rfl rfl) <| evs_nil) (tdrop_c tb x4 x6 (nr : Int) (r.getD 0 default).a (r.getD 0 default).len (enM (r.getD 0 default)) _ [] w0 _ (hS.perm perm3in) hlx (enM_eq _) (by omega)) ?_
         rintro e w ⟨f, y4, y6, d, rfl, hT, hS⟩
         refine ⟨_, rfl, ?_⟩
         replace hS := (hS.perm perm3in.symm).tail.cutv (cr := cr) (by omega) --ents vr,g0_0,tab
         obtain ⟨hf0, hLT1, hd⟩ := both_drop hLT (by rw [hrl.1]) hlx (enM_eq _) hT (.inr ⟨0, rfl, by omega, ⟨rfl, rfl⟩, rfl⟩)
         have he1 : r.take 0 ++ r.drop (0 + 1) = r.drop 1 := rfl
         rw [he1] at hLT1 hd
         have hd' : d = ((nr - 1 : Nat) : Int) := by rw [hd, List.length_drop, hrl.1]
         subst hf0
         subst hd'
         clear hT hd he1
         refine hK _ _ ?_; clear hK K
         refine wl_v (x_neq (tmI rfl rfl) (ev_cN 0)) ?_
         refine wl_nil ?_
         refine then_n (hK13 _ _ ?_); clear hK13 K13
         refine cnd (tm rfl) (fun hc3 => ?_) (fun hc3 => ?_)
         · exfalso
           simp at hc3
         try (exfalso; first | with_reducible exact absurd hc3 Bool.false_ne_true | with_reducible exact absurd hc3.symm Bool.false_ne_true | (simp only [nrm] at hc3; omega) | (simp at hc3; done))
         all_goals
          try simp only [nrm] at hc3
          refine wp_skip ?_
          refine then_n (hK12 _ _ ?_); clear hK12 K12
          refine wp_seq_k ?_; intro K14 hK14
          generalize cutA (some ⟨b4, o4, none⟩ : Option Addr) 1 cr 5 = R2 at hS ⊢
          have hdl : (r.drop 1).length = nr - 1 := by rw [List.length_drop, hrl.1]
          refine wlit ?_
          refine wl_v (x_assign (ev_cN 0)) ?_
          refine wl_nil ?_
          refine then_n (hK14 _ _ ?_); clear hK14 K14
          refine wp_block ?_
          refine lp [4, 9, 10, 11, 38, 39, 40, 41, 42, 43, 44, 45, 46, 47, 48, 49, 50, 51, 52, 53, 54, 55, 56, 57, 58, 59, 60, 61, 62, 63, 64] (fun mz g w => ∃ (j : Nat), mz = nr - 1 - j ∧ g 9 = .int .i64 (j : Int) ∧ St [] w0 (.vw R2 (flat enV (r.drop 1)) :: .blk g0_0 25 a.V :: ftab tb false y4 y6 ((nr - 1 : Nat) : Int) [.vw A (flat laV l)]) w ∧ (j ≤ nr - 1)) ?_ ?_
          · exact ⟨_, 0, rfl, (by first | rfl | go_num | exact congrArg (Value.int _) (by first | omega | (simp; done) | (simp; omega))), hS, (by omega)⟩
          · clear hS; intro mz g w hI
            obtain ⟨j, rfl, hs9, hS, hj⟩ := hI
            refine fr_know (d := 9) hs9 ?_; clear hs9
            refine wp_seq_k ?_; intro K15 hK15
            refine wp_seq_k ?_; intro K16 hK16
            refine wlit ?_
            refine wl_v (x_move (tmI rfl rfl)) ?_
            refine wl_v (x_move (tmS rfl rfl)) ?_
            refine wl_v (x_len Try.underlying28 (tmS rfl rfl)) ?_
            refine wl_v (x_lss (tmI rfl rfl) (tmI rfl rfl)) ?_
            refine wl_nil ?_
            refine then_n (hK16 _ _ ?_); clear hK16 K16
            refine cnd (tm rfl) (fun hc4 => ?_) (fun hc4 => ?_)
            · try (exfalso; first | with_reducible exact absurd hc4 Bool.false_ne_true | with_reducible exact absurd hc4.symm Bool.false_ne_true | (simp only [nrm] at hc4; omega) | (simp at hc4; done))
              all_goals
               try simp only [nrm] at hc4
               refine wp_skip ?_
               refine then_n (hK15 _ _ ?_); clear hK15 K15
               refine wp_seq_k ?_; intro K17 hK17
               refine wp_block ?_
               refine wp_seq_k ?_; intro K18 hK18
               obtain ⟨b5, o5, rfl⟩ := view_some (viewV hS.ok 0 rfl) (by rw [flat_length enV_len, hdl]; omega)
               have hxj : (r.drop 1).getD j default ∈ r.drop 1 := mem_get (by omega)
               have hlj : adLim ((r.drop 1).getD j default).a := by obtain ⟨_, _, hp⟩ := hLT1.rt _ hxj; exact hp.2.1
               refine wlit ?_
               refine wl_v (x_move (tmP rfl rfl)) ?_
               refine wl_v (x_move (tmS rfl rfl)) ?_
               refine wl_v (x_move (tmI rfl rfl)) ?_
               refine wl_v (x_ixs Try.underlying28 ts_37 (tmS rfl rfl) (tmI rfl rfl) (by omega)) ?_
               first
                | refine wl_v (x_loadA (cs := [_, _, _, _, _]) Try.underlying37 rfl ts_37 (tmP rfl rfl) (rangeB hS.ok 2 rfl rfl)) ?_
                | refine wl_v (x_loadA Try.underlying37 rfl (by exact ts_37) (tmP rfl rfl) (rangeVs hS.ok 0 rfl (fun _ => rfl) (by omega))) ?_
               refine wl_e rfl ?_; intro K hK
               refine ow_call Try.func9 rfl rfl (evs_cons (tmA rfl rfl) <| evs_nil) (lto_c _ _) ?_
               rintro e w ⟨rfl, hk2⟩
               refine ⟨_, rfl, ?_⟩
               replace hS := hS.kept hk2
               clear hk2
               refine hK _ _ ?_; clear hK K
               refine wl_e rfl ?_; intro K hK
               refine ow_call Try.func11 rfl rfl (evs_cons (tmP rfl rfl) <| evs_cons (tmA rfl rfl) <| evs_nil) (tget_has_c tb y4 y6 _ (r.drop 1) hLT1 ((r.drop 1).getD j default) hxj _ [] w0 _ (hS.perm perm2in) hlj) ?_
               rintro e w ⟨rfl, hS⟩
               refine ⟨_, rfl, ?_⟩
               replace hS := hS.perm perm2in.symm
               refine hK _ _ ?_; clear hK K
               refine wl_v (x_move (tmT rfl rfl)) ?_
               refine wl_v (x_ext (tmT rfl rfl) rfl) ?_
               refine wl_v (x_ext (tmT rfl rfl) rfl) ?_
               refine wl_v (x_assign (tmI rfl rfl)) ?_
               refine wl_v (x_assign (tmB rfl rfl)) ?_
               refine wl_nil ?_
               refine then_n (hK18 _ _ ?_); clear hK18 K18
               refine wp_seq_k ?_; intro K19 hK19
               refine wlit ?_
               refine wl_v (x_move (tmI rfl rfl)) ?_
               refine wl_v (x_move (tmS rfl rfl)) ?_
               refine wl_v (x_move (tmI rfl rfl)) ?_
               refine wl_v (x_ixs Try.underlying28 ts_37 (tmS rfl rfl) (tmI rfl rfl) (by omega)) ?_
               refine wl_v (x_fa 4 Try.underlying37 rfl rfl ts_3 (tmP rfl rfl)) ?_
               first
                | refine wl_v (x_load Try.underlying3 rfl (tmP rfl rfl) (cellB hS.ok 2 rfl rfl)) ?_
                | refine wl_v (x_load Try.underlying3 rfl (tmP rfl rfl) (cellV hS.ok 0 rfl rfl)) ?_
                | refine wl_v (x_load Try.underlying3 rfl (tmP rfl rfl) (cellV hS.ok 0 rfl (getm (by omega)))) ?_
                | refine wl_v (x_load Try.underlying3 rfl (tmP rfl rfl) (cellVs hS.ok 0 rfl (fun _ => rfl) rfl (by omega) rfl)) ?_
               refine wl_v (x_neq (tmI rfl rfl) (tmI rfl rfl)) ?_
               refine wl_v (x_move (tmB rfl rfl)) ?_
               refine gs_wl (tm (t := 61) rfl) (fun hg15_7 => ?_) (fun hg15_7 => ?_)
               · exfalso
                 simp at hg15_7
               have hg15_7' := hg15_7; (try simp only [nrm] at hg15_7'); try (exfalso; first | with_reducible exact absurd hg15_7 Bool.false_ne_true | with_reducible exact absurd hg15_7.symm Bool.false_ne_true | omega | (simp at hg15_7; done))
               all_goals
                refine wl_gv (want_y rfl rfl rfl rfl (by rw [hg15_7]; rfl)) (x_move (tmB rfl rfl)) ?_
                refine wl_gv (want_y rfl rfl rfl rfl (by rw [hg15_7]; rfl)) (x_not (tmB rfl rfl)) ?_
                refine wl_v (x_pickF (tmB rfl rfl) hg15_7 (tmB rfl rfl)) ?_
                refine wl_nil ?_
                refine then_n (hK19 _ _ ?_); clear hK19 K19
                refine cnd (tm rfl) (fun hc5 => ?_) (fun hc5 => ?_)
                · exfalso
                  simp at hc5
                try (exfalso; first | with_reducible exact absurd hc5 Bool.false_ne_true | with_reducible exact absurd hc5.symm Bool.false_ne_true | (simp only [nrm] at hc5; omega) | (simp at hc5; done))
                all_goals
                 try simp only [nrm] at hc5
                 refine wp_skip ?_
                 refine inb_n ?_
                 refine then_n (hK17 _ _ ?_); clear hK17 K17
                 refine wlit ?_
                 refine wl_v (x_move (tmI rfl rfl)) ?_
                 first
                  | refine wl_v (x_addN (tmI rfl rfl) (ev_cN 1) (fit_i64 (by omega))) ?_
                  | refine wl_v (x_addI (tmI rfl rfl) (ev_cN 1) (IntWalk.i64_in _ (by omega))) ?_
                  | refine wl_v (x_add (tmI rfl rfl) (ev_cN 1)) ?_
                 refine wl_v (x_assign (tmI rfl rfl)) ?_
                 refine wl_nil ?_
                 exact then_n ⟨_, _, rfl, (by show _ < _; omega), (by repeat (first | exact agree_self | exact agree_refl | refine agree_upd rfl ?_ | refine agree_mix rfl ?_)), j + 1, rfl, (by first | rfl | go_num | exact congrArg (Value.int _) (by first | omega | (simp; done) | (simp; omega))), hS, (by omega)⟩
            try (exfalso; first | with_reducible exact absurd hc4 Bool.false_ne_true | with_reducible exact absurd hc4.symm Bool.false_ne_true | (simp only [nrm] at hc4; omega) | (simp at hc4; done))
            all_goals
             try simp only [nrm] at hc4
             refine wp_exit ?_
             refine then_x ?_; clear hK15 K15
             refine then_x ?_
             refine inb_x ?_
             refine inb_n ?_
             have hrl1 : (r.drop 1).length = nr - 1 ∧ nr - 1 ≤ 40 ∧ nr - 1 ≤ cr - 1 := ⟨by rw [List.length_drop, hrl.1], by omega, by omega⟩
             exact then_n ⟨_, _, rfl, (by show _ < _; omega), (by repeat (first | exact agree_self | exact agree_refl | refine agree_upd rfl ?_ | refine agree_mix rfl ?_)), y4, y6, R2, nr - 1, cr - 1, r.drop 1, rfl, (by first | rfl | go_num | exact congrArg (Value.int _) (by first | omega | (simp; done) | (simp; omega))), hS, (by first | exact hLT1 | exact hLT), (by first | exact hrl1 | exact ⟨hrl, hr40, hrc⟩)⟩
      try (exfalso; first | with_reducible exact absurd hc2 Bool.false_ne_true | with_reducible exact absurd hc2.symm Bool.false_ne_true | (simp only [nrm] at hc2; omega) | (simp at hc2; done))
      all_goals
       try simp only [nrm] at hc2
       refine wp_exit ?_
       refine then_x ?_; clear hK8 K8
       refine then_x ?_
       refine inb_x ?_
       refine then_n (hK7 _ _ ?_); clear hK7 K7
       refine wp_seq_k ?_; intro K20 hK20
       refine wlit ?_
       refine wl_v (x_move (tmP rfl rfl)) ?_
       refine wl_v (x_loadA (cs := [_, _, _]) Try.underlying25 rfl ts_25 (tmP rfl rfl) (rangeB hS.ok 1 rfl rfl)) ?_
       refine wl_e rfl ?_; intro K hK
       refine ow_call Try.func7 rfl rfl (evs_cons (tmP rfl rfl) <| evs_cons (tmA rfl rfl) <| evs_nil) (tfind_nil_c tb x4 x6 _ r hLT (List.eq_nil_of_length_eq_zero (by omega)) a _ [] w0 _ (hS.perm perm2in) hla) ?_
       rintro e w ⟨rfl, hS⟩
       refine ⟨_, rfl, ?_⟩
       replace hS := hS.perm perm2in.symm
       refine hK _ _ ?_; clear hK K
       refine wl_v (x_move (tmT rfl rfl)) ?_
       refine wl_v (x_ext (tmT rfl rfl) rfl) ?_
       refine wl_v (x_ext (tmT rfl rfl) rfl) ?_
       refine wl_v (x_ext (tmT rfl rfl) rfl) ?_
       refine wl_e rfl ?_; intro K hK
       refine ow_alloc hS tz_32 rfl ?_
       clear hS; intro g17_7 w hg17_7 hS
       refine hK _ _ ?_; clear hK K
       refine wl_e rfl ?_; intro K hK
       refine ow_storeA hS 0 rfl ts_32 (tmP rfl rfl) (tmA rfl rfl) rfl rfl rfl ?_
       clear hS; intro w hS
       try replace hS := St.nm (M' := [.blk _ _ [_, _, _, _], .vw _ _, .blk _ _ [_, _, _], _]) hS rfl
       refine hK _ _ ?_; clear hK K
       refine wl_v (x_assign (tmI rfl rfl)) ?_
       refine wl_v (x_assign (tmB rfl rfl)) ?_
       refine wl_nil ?_
       refine then_n (hK20 _ _ ?_); clear hK20 K20
       refine wp_seq_k ?_; intro K21 hK21
       refine wlit ?_
       refine wl_v (x_move (tmB rfl rfl)) ?_
       refine wl_v (x_not (tmB rfl rfl)) ?_
       refine wl_v (x_move (tmB rfl rfl)) ?_
       refine gs_wl (tm (t := 74) rfl) (fun hg18_2 => ?_) (fun hg18_2 => ?_)
       · have hg18_2' := hg18_2; (try simp only [nrm] at hg18_2'); try (exfalso; first | with_reducible exact absurd hg18_2 Bool.false_ne_true | with_reducible exact absurd hg18_2.symm Bool.false_ne_true | omega | (simp at hg18_2; done))
         all_goals
          refine wl_gv (want_y rfl rfl rfl rfl (by rw [hg18_2]; rfl)) (x_move (tmP rfl rfl)) ?_
          refine wl_g (want_y rfl rfl rfl rfl (by rw [hg18_2]; rfl)) ?_; intro K hK
          refine ow_call Try.func12 rfl rfl (evs_cons (tmP rfl rfl) <| evs_nil) (llen_c tb false x4 x6 (nr : Int) _ [] w0 _ (hS.perm perm3in)) ?_
          rintro e w ⟨rfl, hS⟩
          refine ⟨_, rfl, ?_⟩
          replace hS := hS.perm perm3in.symm
          refine hK _ _ ?_; clear hK K
          refine wl_gv (want_y rfl rfl rfl rfl (by rw [hg18_2]; rfl)) (x_eql (tmI rfl rfl) (ev_cN 0)) ?_
          refine wl_v (x_pickT (tmB rfl rfl) hg18_2 (tmB rfl rfl)) ?_
          refine wl_v (x_move (tmB rfl rfl)) ?_
          refine gs_wl (tm (t := 79) rfl) (fun hg18_7 => ?_) (fun hg18_7 => ?_)
          · have hg18_7' := hg18_7; (try simp only [nrm] at hg18_7'); try (exfalso; first | with_reducible exact absurd hg18_7 Bool.false_ne_true | with_reducible exact absurd hg18_7.symm Bool.false_ne_true | omega | (simp at hg18_7; done))
            all_goals
             refine wl_g (want_y rfl rfl rfl rfl (by rw [hg18_7]; rfl)) ?_; intro K hK
             refine ow_call Try.func5 rfl rfl (evs_nil) (lawake_c _) ?_
             rintro e w ⟨rfl, hk⟩
             refine ⟨_, rfl, ?_⟩
             replace hS := hS.kept hk
             clear hk
             refine hK _ _ ?_; clear hK K
             refine wl_v (x_pickT (tmB rfl rfl) hg18_7 (tmB rfl rfl)) ?_
             refine wl_v (x_assign (tmB rfl rfl)) ?_
             refine wl_nil ?_
             refine then_n (hK21 _ _ ?_); clear hK21 K21
             refine wp_ret ?_
             refine ret1 rfl (.tmp rfl (show _ = Value.bool _ from rfl)) ?_
             first
               | exact ⟨rfl, hS.kp⟩
               | exact ⟨by simp_all, hS.kp⟩
          have hg18_7' := hg18_7; (try simp only [nrm] at hg18_7'); try (exfalso; first | with_reducible exact absurd hg18_7 Bool.false_ne_true | with_reducible exact absurd hg18_7.symm Bool.false_ne_true | omega | (simp at hg18_7; done))
          all_goals
           refine wl_s rfl (want_n rfl rfl rfl rfl (by rw [hg18_7]; rfl)) ?_
           refine wl_v (x_pickF (tmB rfl rfl) hg18_7 ev_c) ?_
           refine wl_v (x_assign (tmB rfl rfl)) ?_
           refine wl_nil ?_
           refine then_n (hK21 _ _ ?_); clear hK21 K21
           refine wp_ret ?_
           refine ret1 rfl (.tmp rfl (show _ = Value.bool _ from rfl)) ?_
           first
             | exact ⟨rfl, hS.kp⟩
             | exact ⟨by simp_all, hS.kp⟩
       have hg18_2' := hg18_2; (try simp only [nrm] at hg18_2'); try (exfalso; first | with_reducible exact absurd hg18_2 Bool.false_ne_true | with_reducible exact absurd hg18_2.symm Bool.false_ne_true | omega | (simp at hg18_2; done))
       all_goals
        refine wl_s rfl (want_n rfl rfl rfl rfl (by rw [hg18_2]; rfl)) ?_
        refine wl_s rfl (want_n rfl rfl rfl rfl (by rw [hg18_2]; rfl)) ?_
        refine wl_s rfl (want_n rfl rfl rfl rfl (by rw [hg18_2]; rfl)) ?_
        refine wl_v (x_pickF (tmB rfl rfl) hg18_2 ev_c) ?_
        refine wl_v (x_move (tmB rfl rfl)) ?_
        refine wl_s rfl (want_n rfl rfl rfl rfl rfl) ?_
        refine wl_v (x_pickF (tmB rfl rfl) rfl ev_c) ?_
        refine wl_v (x_assign (tmB rfl rfl)) ?_
        refine wl_nil ?_
        refine then_n (hK21 _ _ ?_); clear hK21 K21
        refine wp_ret ?_
        refine ret1 rfl (.tmp rfl (show _ = Value.bool _ from rfl)) ?_
        first
          | exact ⟨rfl, hS.kp⟩
          | exact ⟨by simp_all, hS.kp⟩
end Go.Proofs.Ytlpgedncnefaoaa
