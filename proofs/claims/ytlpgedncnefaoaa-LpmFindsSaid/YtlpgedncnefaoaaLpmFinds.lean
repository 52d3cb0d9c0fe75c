
/- Proved: LpmFinds returns true for every list of acts and address, and changes no memory that was there. Conditions: none. -/
import Derived.Test.YtlpgedncnefaoaaLpV
namespace Go.Proofs.Ytlpgedncnefaoaa
open Go.ChangeShapes Go.WideShapes Go.ChangeAt Go.RowKit
namespace LpmFinds
def tupV (p : Ad) (z v : Int) (has : Bool) : Value := .tuple #[.agg (pxV p z), .int .i64 v, .bool has]
theorem findV_tup (a : Ad) (t : Sh) : ∃ p z v has, findV a t = tupV p z v has := by
  unfold findV
  split
  · split
    · exact ⟨⟨false, 0, 0⟩, 0, 0, false, rfl⟩
    · exact ⟨_, _, _, true, rfl⟩
  · exact ⟨⟨false, 0, 0⟩, 0, 0, false, rfl⟩
theorem tupV_inj {p q : Ad} {z z' v v' : Int} {h h' : Bool} (e : tupV p z v h = tupV q z' v' h') : p = q ∧ z = z' ∧ v = v' ∧ h = h' := by
  obtain ⟨s1, h1, l1⟩ := p
  obtain ⟨s2, h2, l2⟩ := q
  simp [tupV, pxV] at e
  obtain ⟨⟨e1, e2, e3, e4⟩, e5, e6⟩ := e
  subst e1 e4 e5 e6
  obtain rfl : h1 = h2 := by omega
  obtain rfl : l1 = l2 := by omega
  exact ⟨rfl, rfl, rfl, rfl⟩
theorem get_cut {a : Ad} {j : Nat} {t : Sh} (hj : j ≤ adBits a) : getS (pbit (cutM a j)) j 0 t = getS (pbit a) j 0 t :=
  getS_agree (pbit a) (pbit (cutM a j)) j 0 t fun i hi => by rw [Nat.zero_add, pbit_cut a j i hj (by omega), if_pos hi]
theorem mem_match {l : List En} {s : Bool → Sh} (h : LT l s) {a : Ad} (hl : adLim a) (hr : adRight a) {j : Nat} (hj : j ≤ adBits a) {v : Int} (hg : getS (pbit a) j 0 (s a.six) = some v) : ∃ i, i < l.length ∧ l.getD i default = ⟨cutM a j, (j : Int), v⟩ ∧ matchP (l.getD i default) a := by
  have h1 : (⟨cutM a j, (j : Int), v⟩ : En) ∈ l := (h.mp _ j (pf_cut a j hr hl hj) v).1 (by rw [cut_six, get_cut hj]; exact hg)
  obtain ⟨i, hi⟩ := List.mem_iff_getElem?.1 h1
  obtain ⟨hil, _⟩ := List.getElem?_eq_some_iff.1 hi
  have h2 := getD_get hil
  rw [hi] at h2
  injection h2 with h2
  refine ⟨i, hil, h2.symm, ?_⟩
  rw [← h2]
  exact ⟨cut_six a j, by rw [Int.toNat_natCast]⟩
theorem both_none {l : List En} {s : Bool → Sh} (h : LT l s) {a : Ad} (hl : adLim a) (hf : adRight a → ∀ j, j < l.length → ¬ matchP (l.getD j default) a) : findV a (s a.six) = tupV ⟨false, 0, 0⟩ 0 0 false := by
  unfold findV
  by_cases hr : adRight a
  · rw [if_pos hr, findS_none]
    · rfl
    · intro j hj
      cases hg : getS (pbit a) j 0 (s a.six) with
      | none => rfl
      | some v =>
        obtain ⟨i, hi, _, hm⟩ := mem_match h hl hr hj hg
        exact absurd hm (hf hr i hi)
  · rw [if_neg hr]; rfl
theorem both_some {l : List En} {s : Bool → Sh} (h : LT l s) {a : Ad} (hl : adLim a) (hr : adRight a) {b : Nat} (hb : b < l.length) (hm : matchP (l.getD b default) a) (hx : ∀ j, j < l.length → matchP (l.getD j default) a → (l.getD j default).len ≤ (l.getD b default).len) :
    findV a (s a.six) = tupV (l.getD b default).a (l.getD b default).len (l.getD b default).val true := by
  obtain ⟨m, h1, h2⟩ := h.rt _ (mem_get hb)
  have hbits : adBits (l.getD b default).a = adBits a := by unfold adBits; rw [hm.1]
  have hmle : m ≤ adBits a := by have := h2.2.2.1; omega
  have hc : cutM a m = (l.getD b default).a := by have := hm.2; rwa [h1, Int.toNat_natCast] at this
  have hg : getS (pbit a) m 0 (s a.six) = some (l.getD b default).val := by
    rw [← get_cut hmle, hc, ← hm.1]
    refine (h.mp _ m h2 _).2 ?_
    rw [← h1]
    exact mem_get hb
  have hno : ∀ i, m < i → i ≤ adBits a → getS (pbit a) i 0 (s a.six) = none := fun i hi hia => by
    cases hgi : getS (pbit a) i 0 (s a.six) with
    | none => rfl
    | some v =>
      obtain ⟨j, hj, he, hmj⟩ := mem_match h hl hr hia hgi
      have := hx j hj hmj
      rw [he, h1] at this
      have h3 : (i : Int) ≤ (m : Int) := this
      omega
  unfold findV
  rw [if_pos hr, findS_some (pbit a) (adBits a) 0 _ none m _ hmle hg hno]
  show someV a (0 + m) _ = _
  rw [Nat.zero_add, h1]
  unfold someV
  rw [hc]
  rfl
theorem tfindt_c (tb : Nat) (x4 x6 : TT) (c : Int) (a : Ad) (p : Ad) (z v : Int) (has : Bool) (hfv : findV a (shp x4 x6 a.six) = tupV p z v has) (Z : List Ent) (F : List Nat) (w1 w0 : World) (hS : St F w1 (ftab tb false x4 x6 c Z) w0) (hl : adLim a) :
    Calls Try.prog 7 #[.pointer (some ⟨tb, 0, none⟩), .agg a.V.toArray] w0 fun e w' => e = .returned (.tuple #[.agg #[.bool p.six, .int .u64 (p.high : Int), .int .u64 (p.low : Int), .int .i64 z], .int .i64 v, .bool has]) ∧ St F w1 (ftab tb false x4 x6 c Z) w' := by
  have := tfind_c tb x4 x6 c a Z F w1 w0 hS hl
  rw [hfv] at this
  exact this
set_option maxRecDepth 100000 in
set_option maxHeartbeats 8000000 in
theorem finds_c (A : Option Addr) (n c : Nat) (l : List LA) (a : Ad) (w0 : World) (hv : View w0 w0.heap.size A (flat laV l)) (hl : l.length = n) (hlim : ∀ x ∈ l, adLim x.e.a) (hla : adLim a) :
    Calls Try.prog 3 #[.slice A n c, .agg a.V.toArray] w0 fun e w' => e = .returned (.bool true) ∧ Kp [] w0 w' := by
  have hS := (St.sv w0).vcons rfl hv
  have hfl := flat_length (enc := laV) (l := l) laV_len
  refine ent (n := 70) Try.func3 rfl rfl ?_
  refine wp_seq_k ?_; intro K1 hK1
  refine wlit ?_
  refine wl_e rfl ?_; intro K hK
  refine ow_box hS (tmA rfl rfl) rfl ?_
  clear hS; intro g0_0 w hg0_0 hS
  refine hK _ _ ?_; clear hK K
  refine wl_v (x_assign ev_c) ?_
  refine wl_nil ?_
  refine then_n (hK1 _ _ ?_); clear hK1 K1
  refine wp_seq_k ?_; intro K2 hK2
  refine wp_seq_k ?_; intro K3 hK3
  refine wlit ?_
  refine wl_e rfl ?_; intro K hK
  refine ow_call Try.func5 rfl rfl (evs_nil) (lawake_c _) ?_
  rintro e w ⟨rfl, hk⟩
  refine ⟨_, rfl, ?_⟩
  replace hS := hS.kept hk
  clear hk
  refine hK _ _ ?_; clear hK K
  refine wl_v (x_not (tmB rfl rfl)) ?_
  refine wl_nil ?_
  refine then_n (hK3 _ _ ?_); clear hK3 K3
  refine cnd (tm rfl) (fun hc0 => ?_) (fun hc0 => ?_)
  · exfalso
    simp at hc0
  try (exfalso; first | with_reducible exact absurd hc0 Bool.false_ne_true | with_reducible exact absurd hc0.symm Bool.false_ne_true | (simp only [nrm] at hc0; omega) | (simp at hc0; done))
  all_goals
   try simp only [nrm] at hc0
   refine wp_skip ?_
   refine then_n (hK2 _ _ ?_); clear hK2 K2
   refine wp_seq_k ?_; intro K4 hK4
   refine wlit ?_
   refine wl_v (x_move (tmS rfl rfl)) ?_
   refine wl_e rfl ?_; intro K hK
   refine ow_call Try.func6 rfl rfl (evs_cons (tmS rfl rfl) <| evs_nil) (made_c A n c l _ (viewV hS.ok 1 rfl) hl hlim) ?_
   rintro e w ⟨tb, x4, x6, R, nr, cr, r, rfl, hLT, hrl, hr40, hrc, hS2, hnew⟩
   refine ⟨_, rfl, ?_⟩
   replace hS := hS.joins hS2 (by
     intro e he hro g hg
     rcases List.mem_cons.1 he with rfl | he
     · exact hnew g hg
     · exact absurd hro (by rw [ftab_ro _ he]; decide))
   replace hS := hS.perm (M' := .vw R (flat enV r) :: .blk g0_0 25 a.V :: ftab tb false x4 x6 (nr : Int) [.vw A (flat laV l)]) (List.Perm.cons _ (ftab_app.trans ftab_in.symm)) --ents vr,g0_0,tab
   clear hS2 hnew
   refine hK _ _ ?_; clear hK K
   refine wl_v (x_move (tmT rfl rfl)) ?_
   refine wl_v (x_ext (tmT rfl rfl) rfl) ?_
   refine wl_v (x_ext (tmT rfl rfl) rfl) ?_
   refine wl_v (x_ext (tmT rfl rfl) rfl) ?_
   refine wl_v (x_assign (tmP rfl rfl)) ?_
   refine wl_v (x_assign (tmS rfl rfl)) ?_
   refine wl_v (x_assign (tmB rfl rfl)) ?_
   refine wl_nil ?_
   refine then_n (hK4 _ _ ?_); clear hK4 K4
   refine wp_seq_k ?_; intro K5 hK5
   refine wp_seq_k ?_; intro K6 hK6
   refine wlit ?_
   refine wl_v (x_move (tmB rfl rfl)) ?_
   refine wl_v (x_not (tmB rfl rfl)) ?_
   refine wl_nil ?_
   refine then_n (hK6 _ _ ?_); clear hK6 K6
   refine cnd (tm rfl) (fun hc1 => ?_) (fun hc1 => ?_)
   · exfalso
     simp at hc1
   try (exfalso; first | with_reducible exact absurd hc1 Bool.false_ne_true | with_reducible exact absurd hc1.symm Bool.false_ne_true | (simp only [nrm] at hc1; omega) | (simp at hc1; done))
   all_goals
    try simp only [nrm] at hc1
    refine wp_skip ?_
    refine then_n (hK5 _ _ ?_); clear hK5 K5
    refine wp_seq_k ?_; intro K7 hK7
    obtain ⟨p, z, v, has, hfv⟩ := findV_tup a (shp x4 x6 a.six)
    refine wlit ?_
    refine wl_v (x_move (tmP rfl rfl)) ?_
    refine wl_v (x_loadA (cs := [_, _, _]) Try.underlying25 rfl ts_25 (tmP rfl rfl) (rangeB hS.ok 1 rfl rfl)) ?_
    refine wl_e rfl ?_; intro K hK
    refine ow_call Try.func7 rfl rfl (evs_cons (tmP rfl rfl) <| evs_cons (tmA rfl rfl) <| evs_nil) (tfindt_c tb x4 x6 _ a p z v has hfv _ [] w0 _ (hS.perm perm2in) hla) ?_
    rintro e w ⟨rfl, hS⟩
    refine ⟨_, rfl, ?_⟩
    replace hS := hS.perm perm2in.symm
    refine hK _ _ ?_; clear hK K
    refine wl_v (x_move (tmT rfl rfl)) ?_
    refine wl_v (x_ext (tmT rfl rfl) rfl) ?_
    refine wl_v (x_ext (tmT rfl rfl) rfl) ?_
    refine wl_v (x_ext (tmT rfl rfl) rfl) ?_
    refine wl_e rfl ?_; intro K hK
    refine ow_alloc hS tz_32 rfl ?_
    clear hS; intro g6_7 w hg6_7 hS
    refine hK _ _ ?_; clear hK K
    refine wl_e rfl ?_; intro K hK
    refine ow_storeA hS 0 rfl ts_32 (tmP rfl rfl) (tmA rfl rfl) rfl rfl rfl ?_
    clear hS; intro w hS
    try replace hS := St.nm (M' := [.blk _ _ [_, _, _, _], .vw _ _, .blk _ _ [_, _, _], _]) hS rfl
    refine hK _ _ ?_; clear hK K
    refine wl_v (x_assign (tmI rfl rfl)) ?_
    refine wl_v (x_assign (tmB rfl rfl)) ?_
    refine wl_nil ?_
    refine then_n (hK7 _ _ ?_); clear hK7 K7
    refine wp_seq_k ?_; intro K8 hK8
    refine wlit ?_
    refine wl_v (x_move (tmS rfl rfl)) ?_
    refine wl_v (x_loadA (cs := [_, _, _]) Try.underlying25 rfl ts_25 (tmP rfl rfl) (rangeB hS.ok 2 rfl rfl)) ?_
    refine wl_e rfl ?_; intro K hK
    refine ow_call Try.func8 rfl rfl (evs_cons (tmS rfl rfl) <| evs_cons (tmA rfl rfl) <| evs_nil) (lrfind_c R nr cr r a _ (viewV hS.ok 1 rfl) hrl (by omega) hla hLT.rt) ?_
    rintro e w ⟨k, rfl, hF, hF2, hk⟩
    refine ⟨_, rfl, ?_⟩
    replace hS := hS.kept hk
    clear hk
    refine hK _ _ ?_; clear hK K
    refine wl_v (x_assign (tmI rfl rfl)) ?_
    refine wl_nil ?_
    refine then_n (hK8 _ _ ?_); clear hK8 K8
    refine wp_seq_k ?_; intro K9 hK9
    refine wp_seq_k ?_; intro K10 hK10
    refine wlit ?_
    refine wl_v (x_move (tmI rfl rfl)) ?_
    refine wl_v (x_lss (tmI rfl rfl) (ev_cN 0)) ?_
    refine wl_nil ?_
    refine then_n (hK10 _ _ ?_); clear hK10 K10
    refine cnd (tm rfl) (fun hc2 => ?_) (fun hc2 => ?_)
    · try (exfalso; first | with_reducible exact absurd hc2 Bool.false_ne_true | with_reducible exact absurd hc2.symm Bool.false_ne_true | (simp only [nrm] at hc2; omega) | (simp at hc2; done))
      all_goals
       try simp only [nrm] at hc2
       refine wp_seq_k ?_; intro K11 hK11
       have hq := tupV_inj (hfv.symm.trans (both_none hLT hla fun har j hj => by
         rcases hF har with ⟨_, h⟩ | ⟨b, h, _⟩
         · exact h j (by omega)
         · exfalso; omega))
       obtain ⟨rfl, rfl, rfl, rfl⟩ := hq
       refine wlit ?_
       refine wl_v (x_move (tmB rfl rfl)) ?_
       refine wl_v (x_not (tmB rfl rfl)) ?_
       refine wl_v (x_move (tmB rfl rfl)) ?_
       refine gs_wl (tm (t := 36) rfl) (fun hg9_2 => ?_) (fun hg9_2 => ?_)
       · have hg9_2' := hg9_2; (try simp only [nrm] at hg9_2'); try (exfalso; first | with_reducible exact absurd hg9_2 Bool.false_ne_true | with_reducible exact absurd hg9_2.symm Bool.false_ne_true | omega | (simp at hg9_2; done))
         all_goals
          refine wl_gv (want_y rfl rfl rfl rfl (by rw [hg9_2]; rfl)) (x_move (tmI rfl rfl)) ?_
          refine wl_gv (want_y rfl rfl rfl rfl (by rw [hg9_2]; rfl)) (x_eql (tmI rfl rfl) (ev_cN 0)) ?_
          refine wl_v (x_pickT (tmB rfl rfl) hg9_2 (tmB rfl rfl)) ?_
          refine wl_v (x_move (tmB rfl rfl)) ?_
          refine gs_wl (tm (t := 40) rfl) (fun hg9_6 => ?_) (fun hg9_6 => ?_)
          · have hg9_6' := hg9_6; (try simp only [nrm] at hg9_6'); try (exfalso; first | with_reducible exact absurd hg9_6 Bool.false_ne_true | with_reducible exact absurd hg9_6.symm Bool.false_ne_true | omega | (simp at hg9_6; done))
            all_goals
             refine wl_gv (want_y rfl rfl rfl rfl (by rw [hg9_6]; rfl)) (x_loadA (cs := [_, _, _, _]) Try.underlying32 rfl ts_32 (tmP rfl rfl) (rangeB hS.ok 0 rfl rfl)) ?_
             refine wl_gv (want_y rfl rfl rfl rfl (by rw [hg9_6]; rfl)) (x_build (bc_skipL [.bool false, .int .u64 0, .int .u64 0] <| bc_skip (.int .i64 0) <| bc_nil) (by kernel_rfl)) ?_
             refine wl_gv (want_y rfl rfl rfl rfl (by rw [hg9_6]; rfl)) (x_Aeql (by kernel_rfl) (tmA rfl rfl) (tmA rfl rfl) (eqv_A Try.underlying32 (by kernel_rfl) (fe_cons rfl (pt_A (cs := [_, _, _]) Try.underlying25 rfl ts_25 rfl) (pt_A (cs := [_, _, _]) Try.underlying25 rfl ts_25 rfl) (eqv_A Try.underlying25 (by kernel_rfl) (fe_cons rfl (pt_1 Try.underlying4 rfl rfl) (pt_1 Try.underlying4 rfl rfl) (eqv_b Try.underlying4) <| fe_cons rfl (pt_1 Try.underlying23 rfl rfl) (pt_1 Try.underlying23 rfl rfl) (eqv_i Try.underlying23) <| fe_cons rfl (pt_1 Try.underlying23 rfl rfl) (pt_1 Try.underlying23 rfl rfl) (eqv_i Try.underlying23) <| fe_nil)) <| fe_cons rfl (pt_1 Try.underlying3 rfl rfl) (pt_1 Try.underlying3 rfl rfl) (eqv_i Try.underlying3) <| fe_nil))) ?_
             refine wl_v (x_pickT (tmB rfl rfl) hg9_6 (tmB rfl rfl)) ?_
             refine wl_v (x_move (tmB rfl rfl)) ?_
             refine gs_wl (tm (t := 45) rfl) (fun hg9_11 => ?_) (fun hg9_11 => ?_)
             · have hg9_11' := hg9_11; (try simp only [nrm] at hg9_11'); try (exfalso; first | with_reducible exact absurd hg9_11 Bool.false_ne_true | with_reducible exact absurd hg9_11.symm Bool.false_ne_true | omega | (simp at hg9_11; done))
               all_goals
                refine wl_g (want_y rfl rfl rfl rfl (by rw [hg9_11]; rfl)) ?_; intro K hK
                refine ow_call Try.func5 rfl rfl (evs_nil) (lawake_c _) ?_
                rintro e w ⟨rfl, hk⟩
                refine ⟨_, rfl, ?_⟩
                replace hS := hS.kept hk
                clear hk
                refine hK _ _ ?_; clear hK K
                refine wl_v (x_pickT (tmB rfl rfl) hg9_11 (tmB rfl rfl)) ?_
                refine wl_v (x_assign (tmB rfl rfl)) ?_
                refine wl_nil ?_
                refine then_n (hK11 _ _ ?_); clear hK11 K11
                refine wp_ret ?_
                refine then_r ?_
                refine ret1 rfl (.tmp rfl (show _ = Value.bool _ from rfl)) ?_
                first
                  | exact ⟨rfl, hS.kp⟩
                  | exact ⟨by simp_all, hS.kp⟩
             have hg9_11' := hg9_11; (try simp only [nrm] at hg9_11'); try (exfalso; first | with_reducible exact absurd hg9_11 Bool.false_ne_true | with_reducible exact absurd hg9_11.symm Bool.false_ne_true | omega | (simp at hg9_11; done))
             all_goals
              refine wl_s rfl (want_n rfl rfl rfl rfl (by rw [hg9_11]; rfl)) ?_
              refine wl_v (x_pickF (tmB rfl rfl) hg9_11 ev_c) ?_
              refine wl_v (x_assign (tmB rfl rfl)) ?_
              refine wl_nil ?_
              refine then_n (hK11 _ _ ?_); clear hK11 K11
              refine wp_ret ?_
              refine then_r ?_
              refine ret1 rfl (.tmp rfl (show _ = Value.bool _ from rfl)) ?_
              first
                | exact ⟨rfl, hS.kp⟩
                | exact ⟨by simp_all, hS.kp⟩
          have hg9_6' := hg9_6; (try simp only [nrm] at hg9_6'); try (exfalso; first | with_reducible exact absurd hg9_6 Bool.false_ne_true | with_reducible exact absurd hg9_6.symm Bool.false_ne_true | omega | (simp at hg9_6; done))
          all_goals
           refine wl_s rfl (want_n rfl rfl rfl rfl (by rw [hg9_6]; rfl)) ?_
           refine wl_s rfl (want_n rfl rfl rfl rfl (by rw [hg9_6]; rfl)) ?_
           refine wl_s rfl (want_n rfl rfl rfl rfl (by rw [hg9_6]; rfl)) ?_
           refine wl_v (x_pickF (tmB rfl rfl) hg9_6 ev_c) ?_
           refine wl_v (x_move (tmB rfl rfl)) ?_
           refine wl_s rfl (want_n rfl rfl rfl rfl rfl) ?_
           refine wl_v (x_pickF (tmB rfl rfl) rfl ev_c) ?_
           refine wl_v (x_assign (tmB rfl rfl)) ?_
           refine wl_nil ?_
           refine then_n (hK11 _ _ ?_); clear hK11 K11
           refine wp_ret ?_
           refine then_r ?_
           refine ret1 rfl (.tmp rfl (show _ = Value.bool _ from rfl)) ?_
           first
             | exact ⟨rfl, hS.kp⟩
             | exact ⟨by simp_all, hS.kp⟩
       have hg9_2' := hg9_2; (try simp only [nrm] at hg9_2'); try (exfalso; first | with_reducible exact absurd hg9_2 Bool.false_ne_true | with_reducible exact absurd hg9_2.symm Bool.false_ne_true | omega | (simp at hg9_2; done))
       all_goals
        refine wl_s rfl (want_n rfl rfl rfl rfl (by rw [hg9_2]; rfl)) ?_
        refine wl_s rfl (want_n rfl rfl rfl rfl (by rw [hg9_2]; rfl)) ?_
        refine wl_v (x_pickF (tmB rfl rfl) hg9_2 ev_c) ?_
        refine wl_v (x_move (tmB rfl rfl)) ?_
        refine wl_s rfl (want_n rfl rfl rfl rfl rfl) ?_
        refine wl_s rfl (want_n rfl rfl rfl rfl rfl) ?_
        refine wl_s rfl (want_n rfl rfl rfl rfl rfl) ?_
        refine wl_v (x_pickF (tmB rfl rfl) rfl ev_c) ?_
        refine wl_v (x_move (tmB rfl rfl)) ?_
        refine wl_s rfl (want_n rfl rfl rfl rfl rfl) ?_
        refine wl_v (x_pickF (tmB rfl rfl) rfl ev_c) ?_
        refine wl_v (x_assign (tmB rfl rfl)) ?_
        refine wl_nil ?_
        refine then_n (hK11 _ _ ?_); clear hK11 K11
        refine wp_ret ?_
        refine then_r ?_
        refine ret1 rfl (.tmp rfl (show _ = Value.bool _ from rfl)) ?_
        first
          | exact ⟨rfl, hS.kp⟩
          | exact ⟨by simp_all, hS.kp⟩
    try (exfalso; first | with_reducible exact absurd hc2 Bool.false_ne_true | with_reducible exact absurd hc2.symm Bool.false_ne_true | (simp only [nrm] at hc2; omega) | (simp at hc2; done))
    all_goals
     try simp only [nrm] at hc2
     refine wp_skip ?_
     refine then_n (hK9 _ _ ?_); clear hK9 K9
     refine wp_seq_k ?_; intro K12 hK12
     have har : adRight a := Classical.byContradiction fun h => by have := hF2 h; omega
     obtain ⟨b, rfl, hbn, hbm, hbx⟩ : ∃ b : Nat, k = (b : Int) ∧ b < nr ∧ matchP (r.getD b default) a ∧ ∀ j, j < nr → matchP (r.getD j default) a → (r.getD j default).len ≤ (r.getD b default).len := by
       rcases hF har with ⟨h, _⟩ | h
       · exfalso; omega
       · exact h
     have hq := tupV_inj (hfv.symm.trans (both_some hLT hla har (by omega) hbm fun j hj => hbx j (by omega)))
     obtain ⟨rfl, rfl, rfl, rfl⟩ := hq
     obtain ⟨b4, o4, rfl⟩ := view_some (viewV hS.ok 1 rfl) (by rw [flat_length enV_len]; omega)
     refine rg_startk 0 hS mixed_ ?_
     clear hS; intro w hS
     refine rg_take 0 rfl rfl (by kernel_rfl) (by kernel_rfl) (by kernel_rfl) (want_0) (fun w hok => x_move (tmB rfl rfl)) ?_
     refine rg_take 1 rfl rfl (by kernel_rfl) (by kernel_rfl) (by kernel_rfl) (want_0) (fun w hok => x_move (tmB rfl rfl)) ?_
     refine gs_rg (tm (t := 49) rfl) (fun hg10_1 => ?_) (fun hg10_1 => ?_)
     · have hg10_1' := hg10_1; (try simp only [nrm] at hg10_1'); try (exfalso; first | with_reducible exact absurd hg10_1 Bool.false_ne_true | with_reducible exact absurd hg10_1.symm Bool.false_ne_true | omega | (simp at hg10_1; done))
       all_goals
        refine rg_take 2 rfl rfl (by kernel_rfl) (by kernel_rfl) (by kernel_rfl) (want_y rfl rfl rfl rfl (by rw [hg10_1]; rfl)) (fun w hok => x_move (tmI rfl rfl)) ?_
        refine rg_take 3 rfl rfl (by kernel_rfl) (by kernel_rfl) (by kernel_rfl) (want_y rfl rfl rfl rfl (by rw [hg10_1]; rfl)) (fun w hok => x_move (tmS rfl rfl)) ?_
        refine rg_take 4 rfl rfl (by kernel_rfl) (by kernel_rfl) (by kernel_rfl) (want_y rfl rfl rfl rfl (by rw [hg10_1]; rfl)) (fun w hok => x_move (tmI rfl rfl)) ?_
        refine rg_take 5 rfl rfl (by kernel_rfl) (by kernel_rfl) (by kernel_rfl) (want_y rfl rfl rfl rfl (by rw [hg10_1]; rfl)) (fun w hok => x_ixs Try.underlying28 ts_37 (tmS rfl rfl) (tmI rfl rfl) (by omega)) ?_
        refine rg_take 6 rfl rfl (by kernel_rfl) (by kernel_rfl) (by kernel_rfl) (want_y rfl rfl rfl rfl (by rw [hg10_1]; rfl)) (fun w hok => x_fa 4 Try.underlying37 rfl rfl ts_3 (tmP rfl rfl)) ?_
        first
         | refine rg_take 7 rfl rfl (by kernel_rfl) (by kernel_rfl) (by kernel_rfl) (want_y rfl rfl rfl rfl (by rw [hg10_1]; rfl)) (fun w hok => x_load Try.underlying3 rfl (tmP rfl rfl) (cellB hok 3 rfl rfl)) ?_
         | refine rg_take 7 rfl rfl (by kernel_rfl) (by kernel_rfl) (by kernel_rfl) (want_y rfl rfl rfl rfl (by rw [hg10_1]; rfl)) (fun w hok => x_load Try.underlying3 rfl (tmP rfl rfl) (cellV hok 1 rfl rfl)) ?_
         | refine rg_take 7 rfl rfl (by kernel_rfl) (by kernel_rfl) (by kernel_rfl) (want_y rfl rfl rfl rfl (by rw [hg10_1]; rfl)) (fun w hok => x_load Try.underlying3 rfl (tmP rfl rfl) (cellV hok 1 rfl (getm (by omega)))) ?_
         | refine rg_take 7 rfl rfl (by kernel_rfl) (by kernel_rfl) (by kernel_rfl) (want_y rfl rfl rfl rfl (by rw [hg10_1]; rfl)) (fun w hok => x_load Try.underlying3 rfl (tmP rfl rfl) (cellVs hok 1 rfl (fun _ => rfl) rfl (by omega) rfl)) ?_
        refine rg_take 8 rfl rfl (by kernel_rfl) (by kernel_rfl) (by kernel_rfl) (want_y rfl rfl rfl rfl (by rw [hg10_1]; rfl)) (fun w hok => x_eql (tmI rfl rfl) (tmI rfl rfl)) ?_
        refine rg_take 9 rfl rfl (by kernel_rfl) (by kernel_rfl) (by kernel_rfl) (want_0) (fun w hok => x_pickT (tmB rfl rfl) hg10_1 (tmB rfl rfl)) ?_
        refine rg_take 10 rfl rfl (by kernel_rfl) (by kernel_rfl) (by kernel_rfl) (want_0) (fun w hok => x_move (tmB rfl rfl)) ?_
        refine gs_rg (tm (t := 58) rfl) (fun hg10_10 => ?_) (fun hg10_10 => ?_)
        · have hg10_10' := hg10_10; (try simp only [nrm] at hg10_10'); try (exfalso; first | with_reducible exact absurd hg10_10 Bool.false_ne_true | with_reducible exact absurd hg10_10.symm Bool.false_ne_true | omega | (simp at hg10_10; done))
          all_goals
           refine rg_take 11 rfl rfl (by kernel_rfl) (by kernel_rfl) (by kernel_rfl) (want_y rfl rfl rfl rfl (by rw [hg10_10]; rfl)) (fun w hok => x_loadA (cs := [_, _, _, _]) Try.underlying32 rfl ts_32 (tmP rfl rfl) (rangeB hok 0 rfl rfl)) ?_
           refine rg_take 12 rfl rfl (by kernel_rfl) (by kernel_rfl) (by kernel_rfl) (want_y rfl rfl rfl rfl (by rw [hg10_10]; rfl)) (fun w hok => x_move (tmS rfl rfl)) ?_
           refine rg_take 13 rfl rfl (by kernel_rfl) (by kernel_rfl) (by kernel_rfl) (want_y rfl rfl rfl rfl (by rw [hg10_10]; rfl)) (fun w hok => x_move (tmI rfl rfl)) ?_
           refine rg_take 14 rfl rfl (by kernel_rfl) (by kernel_rfl) (by kernel_rfl) (want_y rfl rfl rfl rfl (by rw [hg10_10]; rfl)) (fun w hok => x_ixs Try.underlying28 ts_37 (tmS rfl rfl) (tmI rfl rfl) (by omega)) ?_
           first
            | refine rg_take 15 rfl rfl (by kernel_rfl) (by kernel_rfl) (by kernel_rfl) (want_y rfl rfl rfl rfl (by rw [hg10_10]; rfl)) (fun w hok => x_loadA (cs := [_, _, _, _, _]) Try.underlying37 rfl ts_37 (tmP rfl rfl) (rangeB hok 3 rfl rfl)) ?_
            | refine rg_take 15 rfl rfl (by kernel_rfl) (by kernel_rfl) (by kernel_rfl) (want_y rfl rfl rfl rfl (by rw [hg10_10]; rfl)) (fun w hok => x_loadA Try.underlying37 rfl (by exact ts_37) (tmP rfl rfl) (rangeVs hok 1 rfl (fun _ => rfl) (by omega))) ?_
           refine rg_step 16 rfl (by kernel_rfl) (want_y rfl rfl rfl rfl (by rw [hg10_10]; rfl)) (oks_drop hS 0 rfl) ?_; intro K hK
           refine ow_call Try.func9 rfl rfl (evs_cons (tmA rfl rfl) <| evs_nil) (lto_c _ _) ?_
           rintro e w ⟨rfl, hk2⟩
           refine ⟨_, rfl, ?_⟩
           replace hS := hS.kept hk2
           clear hk2
           refine hK _ _ ?_; clear hK K
           refine rg_take 17 rfl rfl (by kernel_rfl) (by kernel_rfl) (by kernel_rfl) (want_y rfl rfl rfl rfl (by rw [hg10_10]; rfl)) (fun w hok => x_Aeql (by kernel_rfl) (tmA rfl rfl) (tmA rfl rfl) (eqv_A Try.underlying32 (by kernel_rfl) (fe_cons rfl (pt_A (cs := [_, _, _]) Try.underlying25 rfl ts_25 rfl) (pt_A (cs := [_, _, _]) Try.underlying25 rfl ts_25 rfl) (eqv_A Try.underlying25 (by kernel_rfl) (fe_cons rfl (pt_1 Try.underlying4 rfl rfl) (pt_1 Try.underlying4 rfl rfl) (eqv_b Try.underlying4) <| fe_cons rfl (pt_1 Try.underlying23 rfl rfl) (pt_1 Try.underlying23 rfl rfl) (eqv_i Try.underlying23) <| fe_cons rfl (pt_1 Try.underlying23 rfl rfl) (pt_1 Try.underlying23 rfl rfl) (eqv_i Try.underlying23) <| fe_nil)) <| fe_cons rfl (pt_1 Try.underlying3 rfl rfl) (pt_1 Try.underlying3 rfl rfl) (eqv_i Try.underlying3) <| fe_nil))) ?_
           refine rg_take 18 rfl rfl (by kernel_rfl) (by kernel_rfl) (by kernel_rfl) (want_0) (fun w hok => x_pickT (tmB rfl rfl) hg10_10 (tmB rfl rfl)) ?_
           refine rg_take 19 rfl rfl (by kernel_rfl) (by kernel_rfl) (by kernel_rfl) (want_0) (fun w hok => x_move (tmB rfl rfl)) ?_
           refine gs_rg (tm (t := 67) rfl) (fun hg10_19 => ?_) (fun hg10_19 => ?_)
           · have hg10_19' := hg10_19; (try simp only [nrm] at hg10_19'); try (exfalso; first | with_reducible exact absurd hg10_19 Bool.false_ne_true | with_reducible exact absurd hg10_19.symm Bool.false_ne_true | omega | (simp at hg10_19; done))
             all_goals
              refine rg_step 20 rfl (by kernel_rfl) (want_y rfl rfl rfl rfl (by rw [hg10_19]; rfl)) (oks_drop hS 0 rfl) ?_; intro K hK
              refine ow_call Try.func5 rfl rfl (evs_nil) (lawake_c _) ?_
              rintro e w ⟨rfl, hk⟩
              refine ⟨_, rfl, ?_⟩
              replace hS := hS.kept hk
              clear hk
              refine hK _ _ ?_; clear hK K
              refine rg_take 21 rfl rfl (by kernel_rfl) (by kernel_rfl) (by kernel_rfl) (want_0) (fun w hok => x_pickT (tmB rfl rfl) hg10_19 (tmB rfl rfl)) ?_
              refine rg_take 22 rfl rfl (by kernel_rfl) (by kernel_rfl) (by kernel_rfl) (want_0) (fun w hok => x_assign (tmB rfl rfl)) ?_
              refine rg_done (oks_drop hS 0 rfl) (by kernel_rfl) ?_
              refine then_n (hK12 _ _ ?_); clear hK12 K12
              refine wp_ret ?_
              refine ret1 rfl (.tmp rfl (show _ = Value.bool _ from rfl)) ?_
              first
                | exact ⟨rfl, hS.kp⟩
                | exact ⟨by simp_all, hS.kp⟩
           have hg10_19' := hg10_19; (try simp only [nrm] at hg10_19'); try (exfalso; first | with_reducible exact absurd hg10_19 Bool.false_ne_true | with_reducible exact absurd hg10_19.symm Bool.false_ne_true | omega | (simp at hg10_19; done))
           all_goals
            refine rg_skip 20 rfl rfl (by kernel_rfl) (by kernel_rfl) (by kernel_rfl) (want_n rfl rfl rfl rfl (by rw [hg10_19]; rfl)) ?_
            refine rg_take 21 rfl rfl (by kernel_rfl) (by kernel_rfl) (by kernel_rfl) (want_0) (fun w hok => x_pickF (tmB rfl rfl) hg10_19 ev_c) ?_
            refine rg_take 22 rfl rfl (by kernel_rfl) (by kernel_rfl) (by kernel_rfl) (want_0) (fun w hok => x_assign (tmB rfl rfl)) ?_
            refine rg_done (oks_drop hS 0 rfl) (by kernel_rfl) ?_
            refine then_n (hK12 _ _ ?_); clear hK12 K12
            refine wp_ret ?_
            refine ret1 rfl (.tmp rfl (show _ = Value.bool _ from rfl)) ?_
            first
              | exact ⟨rfl, hS.kp⟩
              | exact ⟨by simp_all, hS.kp⟩
        have hg10_10' := hg10_10; (try simp only [nrm] at hg10_10'); try (exfalso; first | with_reducible exact absurd hg10_10 Bool.false_ne_true | with_reducible exact absurd hg10_10.symm Bool.false_ne_true | omega | (simp at hg10_10; done))
        all_goals
         refine rg_skip 11 rfl rfl (by kernel_rfl) (by kernel_rfl) (by kernel_rfl) (want_n rfl rfl rfl rfl (by rw [hg10_10]; rfl)) ?_
         refine rg_skip 12 rfl rfl (by kernel_rfl) (by kernel_rfl) (by kernel_rfl) (want_n rfl rfl rfl rfl (by rw [hg10_10]; rfl)) ?_
         refine rg_skip 13 rfl rfl (by kernel_rfl) (by kernel_rfl) (by kernel_rfl) (want_n rfl rfl rfl rfl (by rw [hg10_10]; rfl)) ?_
         refine rg_skip 14 rfl rfl (by kernel_rfl) (by kernel_rfl) (by kernel_rfl) (want_n rfl rfl rfl rfl (by rw [hg10_10]; rfl)) ?_
         refine rg_skip 15 rfl rfl (by kernel_rfl) (by kernel_rfl) (by kernel_rfl) (want_n rfl rfl rfl rfl (by rw [hg10_10]; rfl)) ?_
         refine rg_skip 16 rfl rfl (by kernel_rfl) (by kernel_rfl) (by kernel_rfl) (want_n rfl rfl rfl rfl (by rw [hg10_10]; rfl)) ?_
         refine rg_skip 17 rfl rfl (by kernel_rfl) (by kernel_rfl) (by kernel_rfl) (want_n rfl rfl rfl rfl (by rw [hg10_10]; rfl)) ?_
         refine rg_take 18 rfl rfl (by kernel_rfl) (by kernel_rfl) (by kernel_rfl) (want_0) (fun w hok => x_pickF (tmB rfl rfl) hg10_10 ev_c) ?_
         refine rg_take 19 rfl rfl (by kernel_rfl) (by kernel_rfl) (by kernel_rfl) (want_0) (fun w hok => x_move (tmB rfl rfl)) ?_
         refine rg_skip 20 rfl rfl (by kernel_rfl) (by kernel_rfl) (by kernel_rfl) (want_n rfl rfl rfl rfl rfl) ?_
         refine rg_take 21 rfl rfl (by kernel_rfl) (by kernel_rfl) (by kernel_rfl) (want_0) (fun w hok => x_pickF (tmB rfl rfl) rfl ev_c) ?_
         refine rg_take 22 rfl rfl (by kernel_rfl) (by kernel_rfl) (by kernel_rfl) (want_0) (fun w hok => x_assign (tmB rfl rfl)) ?_
         refine rg_done (oks_drop hS 0 rfl) (by kernel_rfl) ?_
         refine then_n (hK12 _ _ ?_); clear hK12 K12
         refine wp_ret ?_
         refine ret1 rfl (.tmp rfl (show _ = Value.bool _ from rfl)) ?_
         first
           | exact ⟨rfl, hS.kp⟩
           | exact ⟨by simp_all, hS.kp⟩
     have hg10_1' := hg10_1; (try simp only [nrm] at hg10_1'); try (exfalso; first | with_reducible exact absurd hg10_1 Bool.false_ne_true | with_reducible exact absurd hg10_1.symm Bool.false_ne_true | omega | (simp at hg10_1; done))
     all_goals
      refine rg_skip 2 rfl rfl (by kernel_rfl) (by kernel_rfl) (by kernel_rfl) (want_n rfl rfl rfl rfl (by rw [hg10_1]; rfl)) ?_
      refine rg_skip 3 rfl rfl (by kernel_rfl) (by kernel_rfl) (by kernel_rfl) (want_n rfl rfl rfl rfl (by rw [hg10_1]; rfl)) ?_
      refine rg_skip 4 rfl rfl (by kernel_rfl) (by kernel_rfl) (by kernel_rfl) (want_n rfl rfl rfl rfl (by rw [hg10_1]; rfl)) ?_
      refine rg_skip 5 rfl rfl (by kernel_rfl) (by kernel_rfl) (by kernel_rfl) (want_n rfl rfl rfl rfl (by rw [hg10_1]; rfl)) ?_
      refine rg_skip 6 rfl rfl (by kernel_rfl) (by kernel_rfl) (by kernel_rfl) (want_n rfl rfl rfl rfl (by rw [hg10_1]; rfl)) ?_
      refine rg_skip 7 rfl rfl (by kernel_rfl) (by kernel_rfl) (by kernel_rfl) (want_n rfl rfl rfl rfl (by rw [hg10_1]; rfl)) ?_
      refine rg_skip 8 rfl rfl (by kernel_rfl) (by kernel_rfl) (by kernel_rfl) (want_n rfl rfl rfl rfl (by rw [hg10_1]; rfl)) ?_
      refine rg_take 9 rfl rfl (by kernel_rfl) (by kernel_rfl) (by kernel_rfl) (want_0) (fun w hok => x_pickF (tmB rfl rfl) hg10_1 ev_c) ?_
      refine rg_take 10 rfl rfl (by kernel_rfl) (by kernel_rfl) (by kernel_rfl) (want_0) (fun w hok => x_move (tmB rfl rfl)) ?_
      refine rg_skip 11 rfl rfl (by kernel_rfl) (by kernel_rfl) (by kernel_rfl) (want_n rfl rfl rfl rfl rfl) ?_
      refine rg_skip 12 rfl rfl (by kernel_rfl) (by kernel_rfl) (by kernel_rfl) (want_n rfl rfl rfl rfl rfl) ?_
      refine rg_skip 13 rfl rfl (by kernel_rfl) (by kernel_rfl) (by kernel_rfl) (want_n rfl rfl rfl rfl rfl) ?_
      refine rg_skip 14 rfl rfl (by kernel_rfl) (by kernel_rfl) (by kernel_rfl) (want_n rfl rfl rfl rfl rfl) ?_
      refine rg_skip 15 rfl rfl (by kernel_rfl) (by kernel_rfl) (by kernel_rfl) (want_n rfl rfl rfl rfl rfl) ?_
      refine rg_skip 16 rfl rfl (by kernel_rfl) (by kernel_rfl) (by kernel_rfl) (want_n rfl rfl rfl rfl rfl) ?_
      refine rg_skip 17 rfl rfl (by kernel_rfl) (by kernel_rfl) (by kernel_rfl) (want_n rfl rfl rfl rfl rfl) ?_
      refine rg_take 18 rfl rfl (by kernel_rfl) (by kernel_rfl) (by kernel_rfl) (want_0) (fun w hok => x_pickF (tmB rfl rfl) rfl ev_c) ?_
      refine rg_take 19 rfl rfl (by kernel_rfl) (by kernel_rfl) (by kernel_rfl) (want_0) (fun w hok => x_move (tmB rfl rfl)) ?_
      refine rg_skip 20 rfl rfl (by kernel_rfl) (by kernel_rfl) (by kernel_rfl) (want_n rfl rfl rfl rfl rfl) ?_
      refine rg_take 21 rfl rfl (by kernel_rfl) (by kernel_rfl) (by kernel_rfl) (want_0) (fun w hok => x_pickF (tmB rfl rfl) rfl ev_c) ?_
      refine rg_take 22 rfl rfl (by kernel_rfl) (by kernel_rfl) (by kernel_rfl) (want_0) (fun w hok => x_assign (tmB rfl rfl)) ?_
      refine rg_done (oks_drop hS 0 rfl) (by kernel_rfl) ?_
      refine then_n (hK12 _ _ ?_); clear hK12 K12
      refine wp_ret ?_
      refine ret1 rfl (.tmp rfl (show _ = Value.bool _ from rfl)) ?_
      first
        | exact ⟨rfl, hS.kp⟩
        | exact ⟨by simp_all, hS.kp⟩
set_option maxRecDepth 100000 in
theorem walk (v0 v1 : Value) (w0 : World) {H : Type} {enc : TypeId × Value → H} {r : Reach} {b0 b1 : Nat} {d0 d1 : DataW H} {p0 p1 : List MemPlace}
    (hval0 : Value.okWide Try.prog w0 r b0 22 v0) (hd0 : DataW.Trod enc Try.prog w0 0 (fun _ => true) true 22 v0 d0 p0) (hlt0 : ∀ p ∈ p0, p.block < w0.heap.size)
    (hval1 : Value.okWide Try.prog w0 r b1 25 v1) (hd1 : DataW.Trod enc Try.prog w0 0 (fun _ => true) true 25 v1 d1 p1) (hlt1 : ∀ p ∈ p1, p.block < w0.heap.size) :
    Calls Try.prog 3 #[v0, v1] w0 fun e w' => e = .returned (.bool true) ∧ Below w0.heap.size w0 w' := by
  obtain ⟨A, n, c, l, rfl, hv, hl, hlim⟩ := open_acts hval0 hd0 hlt0
  obtain ⟨a, rfl, hs⟩ := Ad.open_a hval1 hd1 hlt1
  refine Calls.mono (finds_c A n c l a w0 hv hl hlim (ad_lim hs)) ?_
  rintro e w' ⟨rfl, hk⟩
  exact ⟨rfl, hk.below⟩
end LpmFinds
end Go.Proofs.Ytlpgedncnefaoaa
