
/- Proved: MaglevBuilds returns true for every input, and changes no memory that was there. Conditions: none. -/
import Derived.Test.YtofkhhklkcdggaaMagE
import Derived.Test.YtofkhhklkcdggaaArrO
import Derived.Test.YtofkhhklkcdggaaArgs
namespace Go.Proofs.Ytofkhhklkcdggaa
open Go.ChangeShapes Go.WideShapes Go.ChangeAt Go.RowKit
namespace MaglevBuilds
set_option maxRecDepth 100000 in
set_option maxHeartbeats 8000000 in
theorem walk_all (k : Nat → Nat) (z : Int) (A : Option Addr) (c : Nat) (l : List Int) (at_ : Int) (B : Option Addr) (nb cb : Nat) (lb : List Nat) (w0 : World) (hkb : Bytes (kL k)) (hz : -9223372036854775808 ≤ z ∧ z ≤ 9223372036854775807)
    (hv : View w0 w0.heap.size A (l.map i64v)) (hvb : View w0 w0.heap.size B (lb.map u8v)) (hlb : lb.length = nb) (hbb : Bytes lb) (hcb : nb ≤ cb) (hBn : B = none → cb = 0) :
    Calls Try.prog 3 #[.agg (kC k).toArray, .int .i64 z, .slice A l.length c, .int .i64 at_, .slice B nb cb] w0 fun e w' => e = .returned (.bool true) ∧ Below w0.heap.size w0 w' := by
  have hS := ((St.sv w0).vcons rfl hvb).vcons rfl hv
  obtain ⟨x, hx⟩ : ∃ x, sipF k lb = x := ⟨_, rfl⟩
  have hxl := sipF_lt k lb
  rw [hx] at hxl
  by_cases hV : V42 z l
  · obtain ⟨h1, h2, h3, h4, h5⟩ := id hV
    obtain ⟨n, rfl⟩ := Int.eq_ofNat_of_zero_le (a := z) (by omega)
    rw [Int.toNat_natCast] at h2
    have hbl := fun w hv hq => mbuild_z k n A c l w hkb hv hq hz
    have hrb := fun w hv hq => rmbuild_c k n A c l w hkb hv hq h2 (by omega) h3 h4 (by omega)
    have hTl := tabZ_len (k := k) hV
    have hTe := tabZ_yes (k := k) hV
    rw [Int.toNat_natCast] at hTl hTe
    rw [← hTe] at hrb
    have hn2 := h2.1
    generalize tabZ k n l = T at *
    rw [hTl] at hbl
    clear hTe
    have hpk := fun w G hv hvb hnb => mTpick_c k G n T B nb cb x lb w hkb hv (by omega) hvb hlb hbb hnb hcb hx
    have hrs := fun w hv (hnb : nb ≤ 100) => rsum_c k B nb cb lb w hkb hv hlb hbb (by omega) hcb hBn
    rw [hx] at hrs
    have hat := fun w G i hv => mTat_c G n T i w hv
    rw [hTl] at hat hpk
    have hmod := Nat.mod_lt x (show n > 0 by omega)
    clear hx
    refine ent (n := 131) Try.func3 rfl rfl ?_
    refine wp_seq_k ?_; intro K1 hK1
    refine wlit ?_
    refine wl_e rfl ?_; intro K hK
    refine ow_box hS (tmA rfl rfl) rfl ?_
    clear hS; intro g0_0 w hg0_0 hS
    refine hK _ _ ?_; clear hK K
    refine wl_v (x_assign ev_c) ?_
    refine wl_nil ?_
    refine then_n (hK1 _ _ ?_); clear hK1 K1
    refine wp_seq_k ?_; intro K2 hK2
    refine wp_seq_k ?_; intro K3 hK3
    refine cutc [16, 17, 18, 19, 20, 21, 22, 23, 24, 25, 26, 27, 28, 29, 30, 31] (fun g w => ∃ (b31 : Bool), g 31 = .bool b31 ∧ St [] w0 [.blk g0_0 22 (kC k), .vw A (l.map i64v), .vw B (lb.map u8v)] w ∧ (b31 = false → l.length ≤ 70 ∧ nb ≤ 100)) ?_ ?_
    · skip
      refine wlit ?_
      refine wl_v (x_move (tmS rfl rfl)) ?_
      refine wl_v (x_len Try.underlying23 (tmS rfl rfl)) ?_
      refine wl_v (x_gtr (tmI rfl rfl) (ev_cN 70)) ?_
      refine wl_v (x_move (tmB rfl rfl)) ?_
      refine gs_wl (tm (t := 19) rfl) (fun hg1_3 => ?_) (fun hg1_3 => ?_)
      · have hg1_3' := hg1_3; (try simp only [nrm] at hg1_3'); try (exfalso; first | with_reducible exact absurd hg1_3 Bool.false_ne_true | with_reducible exact absurd hg1_3.symm Bool.false_ne_true | omega | (simp at hg1_3; done))
        all_goals
         refine wl_s rfl (want_n rfl rfl rfl rfl (by rw [hg1_3]; rfl)) ?_
         refine wl_s rfl (want_n rfl rfl rfl rfl (by rw [hg1_3]; rfl)) ?_
         refine wl_s rfl (want_n rfl rfl rfl rfl (by rw [hg1_3]; rfl)) ?_
         refine wl_v (x_pickT (tmB rfl rfl) hg1_3 ev_c) ?_
         refine wl_v (x_move (tmB rfl rfl)) ?_
         refine wl_s rfl (want_n rfl rfl rfl rfl rfl) ?_
         refine wl_s rfl (want_n rfl rfl rfl rfl rfl) ?_
         refine wl_s rfl (want_n rfl rfl rfl rfl rfl) ?_
         refine wl_s rfl (want_u rfl rfl rfl rfl) ?_
         refine wl_s rfl (want_u rfl rfl rfl rfl) ?_
         refine wl_s rfl (want_n rfl rfl rfl rfl rfl) ?_
         refine wl_v (x_pickT (tmB rfl rfl) rfl ev_c) ?_
         refine wl_nil ?_
         exact then_n ⟨_, rfl, (by repeat (first | exact agree_self | exact agree_refl | refine agree_upd rfl ?_ | refine agree_mix rfl ?_)), _, (by first | rfl | go_num | exact congrArg (Value.int _) (by first | omega | (simp; done) | (simp; omega))), hS, (by first | (intro _; constructor <;> omega) | (intro h; simp at h; done) | (intro h; cases h))⟩
      have hg1_3' := hg1_3; (try simp only [nrm] at hg1_3'); try (exfalso; first | with_reducible exact absurd hg1_3 Bool.false_ne_true | with_reducible exact absurd hg1_3.symm Bool.false_ne_true | omega | (simp at hg1_3; done))
      all_goals
       refine wl_gv (want_y rfl rfl rfl rfl (by rw [hg1_3]; rfl)) (x_move (tmS rfl rfl)) ?_
       refine wl_gv (want_y rfl rfl rfl rfl (by rw [hg1_3]; rfl)) (x_len Try.underlying24 (tmS rfl rfl)) ?_
       refine wl_gv (want_y rfl rfl rfl rfl (by rw [hg1_3]; rfl)) (x_gtr (tmI rfl rfl) (ev_cN 100)) ?_
       refine wl_v (x_pickF (tmB rfl rfl) hg1_3 (tmB rfl rfl)) ?_
       refine wl_v (x_move (tmB rfl rfl)) ?_
       refine gs_wl (tm (t := 24) rfl) (fun hg1_8 => ?_) (fun hg1_8 => ?_)
       · have hg1_8' := hg1_8; (try simp only [nrm] at hg1_8'); try (exfalso; first | with_reducible exact absurd hg1_8 Bool.false_ne_true | with_reducible exact absurd hg1_8.symm Bool.false_ne_true | omega | (simp at hg1_8; done))
         all_goals
          refine wl_s rfl (want_n rfl rfl rfl rfl (by rw [hg1_8]; rfl)) ?_
          refine wl_s rfl (want_n rfl rfl rfl rfl (by rw [hg1_8]; rfl)) ?_
          refine wl_s rfl (want_n rfl rfl rfl rfl (by rw [hg1_8]; rfl)) ?_
          refine wl_s rfl (want_u rfl rfl rfl rfl) ?_
          refine wl_s rfl (want_u rfl rfl rfl rfl) ?_
          refine wl_s rfl (want_n rfl rfl rfl rfl (by rw [hg1_8]; rfl)) ?_
          refine wl_v (x_pickT (tmB rfl rfl) hg1_8 ev_c) ?_
          refine wl_nil ?_
          exact then_n ⟨_, rfl, (by repeat (first | exact agree_self | exact agree_refl | refine agree_upd rfl ?_ | refine agree_mix rfl ?_)), _, (by first | rfl | go_num | exact congrArg (Value.int _) (by first | omega | (simp; done) | (simp; omega))), hS, (by first | (intro _; constructor <;> omega) | (intro h; simp at h; done) | (intro h; cases h))⟩
       have hg1_8' := hg1_8; (try simp only [nrm] at hg1_8'); try (exfalso; first | with_reducible exact absurd hg1_8 Bool.false_ne_true | with_reducible exact absurd hg1_8.symm Bool.false_ne_true | omega | (simp at hg1_8; done))
       all_goals
        refine wl_gv (want_y rfl rfl rfl rfl (by rw [hg1_8]; rfl)) (x_move (tmI rfl rfl)) ?_
        refine wl_gv (want_y rfl rfl rfl rfl (by rw [hg1_8]; rfl)) (x_geq (tmI rfl rfl) (ev_cN 300)) ?_
        refine wl_gv (want_y rfl rfl rfl rfl (by rw [hg1_8]; rfl)) (x_move (tmB rfl rfl)) ?_
        refine gs_wl (tm (t := 27) rfl) (fun hg1_11 => ?_) (fun hg1_11 => ?_)
        · have hg1_11' := hg1_11; (try simp only [nrm] at hg1_11'); try (exfalso; first | with_reducible exact absurd hg1_11 Bool.false_ne_true | with_reducible exact absurd hg1_11.symm Bool.false_ne_true | omega | (simp at hg1_11; done))
          all_goals
           refine wl_gv (want_y rfl rfl rfl rfl (by rw [hg1_11]; rfl)) (x_move (tmI rfl rfl)) ?_
           refine wl_gv (want_y rfl rfl rfl rfl (by rw [hg1_11]; rfl)) (x_leq (tmI rfl rfl) (ev_cN 2048)) ?_
           refine wl_gv (want_y rfl rfl rfl rfl (by rw [hg1_8]; rfl)) (x_pickT (tmB rfl rfl) hg1_11 (tmB rfl rfl)) ?_
           refine wl_v (x_pickF (tmB rfl rfl) hg1_8 (tmB rfl rfl)) ?_
           refine wl_nil ?_
           exact then_n ⟨_, rfl, (by repeat (first | exact agree_self | exact agree_refl | refine agree_upd rfl ?_ | refine agree_mix rfl ?_)), _, (by first | rfl | go_num | exact congrArg (Value.int _) (by first | omega | (simp; done) | (simp; omega))), hS, (by first | (intro _; constructor <;> omega) | (intro h; simp at h; done) | (intro h; cases h))⟩
        have hg1_11' := hg1_11; (try simp only [nrm] at hg1_11'); try (exfalso; first | with_reducible exact absurd hg1_11 Bool.false_ne_true | with_reducible exact absurd hg1_11.symm Bool.false_ne_true | omega | (simp at hg1_11; done))
        all_goals
         refine wl_s rfl (want_n rfl rfl rfl rfl (by rw [hg1_11]; rfl)) ?_
         refine wl_s rfl (want_n rfl rfl rfl rfl (by rw [hg1_11]; rfl)) ?_
         refine wl_gv (want_y rfl rfl rfl rfl (by rw [hg1_8]; rfl)) (x_pickF (tmB rfl rfl) hg1_11 ev_c) ?_
         refine wl_v (x_pickF (tmB rfl rfl) hg1_8 (tmB rfl rfl)) ?_
         refine wl_nil ?_
         exact then_n ⟨_, rfl, (by repeat (first | exact agree_self | exact agree_refl | refine agree_upd rfl ?_ | refine agree_mix rfl ?_)), _, (by first | rfl | go_num | exact congrArg (Value.int _) (by first | omega | (simp; done) | (simp; omega))), hS, (by first | (intro _; constructor <;> omega) | (intro h; simp at h; done) | (intro h; cases h))⟩
    · clear hS; intro g w hI
      obtain ⟨b31, hs31, hS, hb31⟩ := hI
      refine fr_knowQ (d := 31) hs31 ?_; clear hs31
      refine then_n (hK3 _ _ ?_); clear hK3 K3
      refine cnd (tm rfl) (fun hc0 => ?_) (fun hc0 => ?_)
      · try (exfalso; first | with_reducible exact absurd hc0 Bool.false_ne_true | with_reducible exact absurd hc0.symm Bool.false_ne_true | (simp only [nrm] at hc0; omega) | (simp at hc0; done))
        all_goals
         try simp only [nrm] at hc0
         refine wp_seq_k ?_; intro K5 hK5
         refine wlit ?_
         refine wl_e rfl ?_; intro K hK
         refine ow_call Try.func5 rfl rfl (evs_nil) (law42_awake_c _) ?_
         rintro e w ⟨rfl, hk⟩
         refine ⟨_, rfl, ?_⟩
         replace hS := hS.kept hk
         clear hk
         refine hK _ _ ?_; clear hK K
         refine wl_v (x_assign (tmB rfl rfl)) ?_
         refine wl_nil ?_
         refine then_n (hK5 _ _ ?_); clear hK5 K5
         refine wp_ret ?_
         refine then_r ?_
         refine ret1 rfl (.tmp rfl (show _ = Value.bool _ from rfl)) ?_
         exact ⟨by simp, hS.kp.below⟩
      try (exfalso; first | with_reducible exact absurd hc0 Bool.false_ne_true | with_reducible exact absurd hc0.symm Bool.false_ne_true | (simp only [nrm] at hc0; omega) | (simp at hc0; done))
      all_goals
       try simp only [nrm] at hc0
       obtain ⟨hq, hb100⟩ := hb31 (by simpa using hc0)
       refine wp_skip ?_
       refine then_n (hK2 _ _ ?_); clear hK2 K2
       refine wp_seq_k ?_; intro K6 hK6
       refine wlit ?_
       refine wl_v (x_loadA (cs := [_, _, _, _, _, _, _, _, _, _, _, _, _, _, _, _]) Try.underlying22 rfl ts_22 (tmP rfl rfl) (rangeB hS.ok 0 rfl rfl)) ?_
       refine wl_v (x_move (tmI rfl rfl)) ?_
       refine wl_v (x_move (tmS rfl rfl)) ?_
       refine wl_e rfl ?_; intro K hK
       refine ow_call Try.func6 rfl rfl (evs_cons (tmA rfl rfl) <| evs_cons (tmI rfl rfl) <| evs_cons (tmS rfl rfl) <| evs_nil) (hbl _ (viewV hS.ok 1 rfl) hq) ?_
       rintro e w ⟨G, E, rfl, hE, hn, hk⟩
       refine ⟨_, rfl, ?_⟩
       replace hS := hS.addn hk hn -- +vt
       clear hn hk
       obtain rfl : E = 0 := by rcases hE with ⟨_, h⟩ | ⟨h, _⟩; exact h; exact absurd hV h
       refine hK _ _ ?_; clear hK K
       refine wl_v (x_move (tmT rfl rfl)) ?_
       refine wl_v (x_ext (tmT rfl rfl) rfl) ?_
       refine wl_v (x_ext (tmT rfl rfl) rfl) ?_
       refine wl_e rfl ?_; intro K hK
       refine ow_alloc hS tz_27 rfl ?_
       clear hS; intro g3_7 w hg3_7 hS
       refine hK _ _ ?_; clear hK K
       refine wl_e rfl ?_; intro K hK
       refine ow_storeA hS 0 rfl ts_27 (tmP rfl rfl) (tmA rfl rfl) rfl rfl rfl ?_
       clear hS; intro w hS
       refine hK _ _ ?_; clear hK K
       refine wl_v (x_assign (tmI rfl rfl)) ?_
       refine wl_nil ?_
       refine then_n (hK6 _ _ ?_); clear hK6 K6
       refine wp_seq_k ?_; intro K7 hK7
       refine wp_seq_k ?_; intro K8 hK8
       refine wlit ?_
       refine wl_v (x_move (tmI rfl rfl)) ?_
       refine wl_v (x_move (tmS rfl rfl)) ?_
       refine wl_e rfl ?_; intro K hK
       refine ow_call Try.func7 rfl rfl (evs_cons (tmI rfl rfl) <| evs_cons (tmS rfl rfl) <| evs_nil) (rright_z A c l n _ (viewV hS.ok 3 rfl) hq (by omega)) ?_
       rintro e w ⟨br, rfl, hbr, hk⟩
       refine ⟨_, rfl, ?_⟩
       replace hS := hS.kept hk
       clear hk
       obtain rfl : br = true := hbr.2 hV
       refine hK _ _ ?_; clear hK K
       refine wl_v (x_not (tmB rfl rfl)) ?_
       refine wl_nil ?_
       refine then_n (hK8 _ _ ?_); clear hK8 K8
       refine cnd (tm rfl) (fun hc1 => ?_) (fun hc1 => ?_)
       · exfalso
         simp at hc1
       try (exfalso; first | with_reducible exact absurd hc1 Bool.false_ne_true | with_reducible exact absurd hc1.symm Bool.false_ne_true | (simp only [nrm] at hc1; omega) | (simp at hc1; done))
       all_goals
        try simp only [nrm] at hc1
        refine wp_skip ?_
        refine then_n (hK7 _ _ ?_); clear hK7 K7
        refine wp_seq_k ?_; intro K9 hK9
        refine wlit ?_
        refine wl_v (x_loadA (cs := [_, _, _, _, _, _, _, _, _, _, _, _, _, _, _, _]) Try.underlying22 rfl ts_22 (tmP rfl rfl) (rangeB hS.ok 2 rfl rfl)) ?_
        refine wl_v (x_move (tmI rfl rfl)) ?_
        refine wl_v (x_move (tmS rfl rfl)) ?_
        refine wl_e rfl ?_; intro K hK
        refine ow_call Try.func11 rfl rfl (evs_cons (tmA rfl rfl) <| evs_cons (tmI rfl rfl) <| evs_cons (tmS rfl rfl) <| evs_nil) (hrb _ (viewV hS.ok 3 rfl) hq) ?_
        rintro e w ⟨gr, rfl, hn, hk⟩
        refine ⟨_, rfl, ?_⟩
        replace hS := hS.add hk hn -- +rowr
        clear hn hk
        refine hK _ _ ?_; clear hK K
        refine wl_v (x_assign (tmS rfl rfl)) ?_
        refine wl_nil ?_
        refine then_n (hK9 _ _ ?_); clear hK9 K9
        refine wp_seq_k ?_; intro K10 hK10
        refine wp_seq_k ?_; intro K11 hK11
        refine wlit ?_
        refine wl_v (x_assign (ev_cN 0)) ?_
        refine wl_nil ?_
        refine then_n (hK11 _ _ ?_); clear hK11 K11
        refine wp_block ?_
        refine lp [10, 14, 71, 72, 73, 74, 75, 76, 77, 78, 79, 80, 81, 82, 83, 84] (fun mz g w => ∃ (j : Nat), mz = n - j ∧ g 14 = .int .i64 (j : Int) ∧ St [] w0 [.row (.slice (some ⟨gr, 0, none⟩) n n) 3 1 n (T.map i64v), .blk g3_7 27 [.slice G n n], .vw G (T.map i64v), .blk g0_0 22 (kC k), .vw A (l.map i64v), .vw B (lb.map u8v)] w ∧ (j ≤ n)) ?_ ?_
        · exact ⟨_, 0, rfl, (by first | rfl | go_num | exact congrArg (Value.int _) (by first | omega | (simp; done) | (simp; omega))), hS, (by omega)⟩
        · clear hS; intro mz g w hI
          obtain ⟨j, rfl, hs14, hS, hj⟩ := hI
          refine fr_know (d := 14) hs14 ?_; clear hs14
          refine wp_seq_k ?_; intro K12 hK12
          refine wp_seq_k ?_; intro K13 hK13
          refine wlit ?_
          refine wl_v (x_move (tmI rfl rfl)) ?_
          refine wl_v (x_move (tmS rfl rfl)) ?_
          refine wl_v (x_len Try.underlying23 (tmS rfl rfl)) ?_
          refine wl_v (x_lss (tmI rfl rfl) (tmI rfl rfl)) ?_
          refine wl_nil ?_
          refine then_n (hK13 _ _ ?_); clear hK13 K13
          refine cnd (tm rfl) (fun hc2 => ?_) (fun hc2 => ?_)
          · try (exfalso; first | with_reducible exact absurd hc2 Bool.false_ne_true | with_reducible exact absurd hc2.symm Bool.false_ne_true | (simp only [nrm] at hc2; omega) | (simp at hc2; done))
            all_goals
             try simp only [nrm] at hc2
             have hgj : (T.map i64v)[j]? = some (.int .i64 (T.getD j 0)) := getm (by omega)
             refine wp_skip ?_
             refine then_n (hK12 _ _ ?_); clear hK12 K12
             refine wp_seq_k ?_; intro K14 hK14
             refine wp_block ?_
             refine wp_seq_k ?_; intro K15 hK15
             refine rg_startk 0 hS mixed_ ?_
             clear hS; intro w hS
             refine rg_take 0 rfl rfl (by kernel_rfl) (by kernel_rfl) (by kernel_rfl) (want_0) (fun w hok => x_loadA (cs := [_]) Try.underlying27 rfl ts_27 (tmP rfl rfl) (rangeB hok 1 rfl rfl)) ?_
             refine rg_take 1 rfl rfl (by kernel_rfl) (by kernel_rfl) (by kernel_rfl) (want_0) (fun w hok => x_move (tmI rfl rfl)) ?_
             refine rg_take 3 rfl rfl (by kernel_rfl) (by kernel_rfl) (by kernel_rfl) (want_0) (fun w hok => x_move (tmS rfl rfl)) ?_
             refine rg_take 4 rfl rfl (by kernel_rfl) (by kernel_rfl) (by kernel_rfl) (want_0) (fun w hok => x_move (tmI rfl rfl)) ?_
             refine rg_take 5 rfl rfl (by kernel_rfl) (by kernel_rfl) (by kernel_rfl) (want_0) (fun w hok => x_ixs1 Try.underlying23 ts_3 (tmS rfl rfl) (tmI rfl rfl) (by omega)) ?_
             refine rg_take 6 rfl rfl (by kernel_rfl) (by kernel_rfl) (by kernel_rfl) (want_0) (fun w hok => x_load (v := .int .i64 (T.getD j 0)) Try.underlying3 rfl (tmP rfl rfl) (cellR hok 0 rfl hgj)) ?_
             refine rg_step 2 rfl (by kernel_rfl) (want_0) (oks_drop hS 0 rfl) ?_; intro K hK
             refine ow_call Try.func9 rfl rfl (evs_cons (tmA rfl rfl) <| evs_cons (tmI rfl rfl) <| evs_nil) (hat _ G j (viewV hS.ok 2 rfl)) ?_
             rintro e w ⟨rfl, hk⟩
             refine ⟨_, rfl, ?_⟩
             replace hS := hS.kept hk
             clear hk
             refine hK _ _ ?_; clear hK K
             refine rg_take 7 rfl rfl (by kernel_rfl) (by kernel_rfl) (by kernel_rfl) (want_0) (fun w hok => x_neq (tmI rfl rfl) (tmI rfl rfl)) ?_
             refine rg_done (oks_drop hS 0 rfl) (by kernel_rfl) ?_
             refine then_n (hK15 _ _ ?_); clear hK15 K15
             refine cnd (tm rfl) (fun hc3 => ?_) (fun hc3 => ?_)
             · exfalso
               rw [atI_nat (by omega)] at hc3
               simp at hc3
             try (exfalso; first | with_reducible exact absurd hc3 Bool.false_ne_true | with_reducible exact absurd hc3.symm Bool.false_ne_true | (simp only [nrm] at hc3; omega) | (simp at hc3; done))
             all_goals
              try simp only [nrm] at hc3
              refine wp_skip ?_
              refine inb_n ?_
              refine then_n (hK14 _ _ ?_); clear hK14 K14
              refine wlit ?_
              refine wl_v (x_move (tmI rfl rfl)) ?_
              first
               | refine wl_v (x_addN (tmI rfl rfl) (ev_cN 1) (fit_i64 (by omega))) ?_
               | refine wl_v (x_addI (tmI rfl rfl) (ev_cN 1) (IntWalk.i64_in _ (by omega))) ?_
               | refine wl_v (x_add (tmI rfl rfl) (ev_cN 1)) ?_
              refine wl_v (x_assign (tmI rfl rfl)) ?_
              refine wl_nil ?_
              exact then_n ⟨_, _, rfl, (by show _ < _; omega), (by repeat (first | exact agree_self | exact agree_refl | refine agree_upd rfl ?_ | refine agree_mix rfl ?_)), j + 1, rfl, (by first | rfl | go_num | exact congrArg (Value.int _) (by first | omega | (simp; done) | (simp; omega))), hS, (by omega)⟩
          try (exfalso; first | with_reducible exact absurd hc2 Bool.false_ne_true | with_reducible exact absurd hc2.symm Bool.false_ne_true | (simp only [nrm] at hc2; omega) | (simp at hc2; done))
          all_goals
           try simp only [nrm] at hc2
           refine wp_exit ?_
           refine then_x ?_; clear hK12 K12
           refine then_x ?_
           refine inb_x ?_
           refine then_n (hK10 _ _ ?_); clear hK10 K10
           refine wp_seq_k ?_; intro K16 hK16
           refine wlit ?_
           refine wl_v (x_assign (ev_cN 0)) ?_
           refine wl_nil ?_
           refine then_n (hK16 _ _ ?_); clear hK16 K16
           refine wp_seq_k ?_; intro K17 hK17
           refine wp_seq_k ?_; intro K18 hK18
           refine wlit ?_
           refine wl_v (x_move (tmI rfl rfl)) ?_
           refine wl_v (x_geq (tmI rfl rfl) (ev_cN 0)) ?_
           refine wl_v (x_move (tmB rfl rfl)) ?_
           refine gs_wl (tm (t := 87) rfl) (fun hg13_2 => ?_) (fun hg13_2 => ?_)
           · have hg13_2' := hg13_2; (try simp only [nrm] at hg13_2'); try (exfalso; first | with_reducible exact absurd hg13_2 Bool.false_ne_true | with_reducible exact absurd hg13_2.symm Bool.false_ne_true | omega | (simp at hg13_2; done))
             all_goals
              refine wl_gv (want_y rfl rfl rfl rfl (by rw [hg13_2]; rfl)) (x_move (tmI rfl rfl)) ?_
              refine wl_gv (want_y rfl rfl rfl rfl (by rw [hg13_2]; rfl)) (x_move (tmI rfl rfl)) ?_
              refine wl_gv (want_y rfl rfl rfl rfl (by rw [hg13_2]; rfl)) (x_lss (tmI rfl rfl) (tmI rfl rfl)) ?_
              refine wl_v (x_pickT (tmB rfl rfl) hg13_2 (tmB rfl rfl)) ?_
              refine wl_nil ?_
              refine then_n (hK18 _ _ ?_); clear hK18 K18
              refine cutc [15, 92, 93, 94, 95] (fun g w => g 15 = .int .i64 (atI T at_) ∧ St [] w0 [.row (.slice (some ⟨gr, 0, none⟩) n n) 3 1 n (T.map i64v), .blk g3_7 27 [.slice G n n], .vw G (T.map i64v), .blk g0_0 22 (kC k), .vw A (l.map i64v), .vw B (lb.map u8v)] w) ?_ ?_
              · skip
                refine cnd (tm rfl) (fun hc4 => ?_) (fun hc4 => ?_)
                · try (exfalso; first | with_reducible exact absurd hc4 Bool.false_ne_true | with_reducible exact absurd hc4.symm Bool.false_ne_true | (simp only [nrm] at hc4; omega) | (simp at hc4; done))
                  all_goals
                   try simp only [nrm] at hc4
                   obtain ⟨i, rfl⟩ := Int.eq_ofNat_of_zero_le (a := at_) (by omega)
                   have hgi : (T.map i64v)[i]? = some (.int .i64 (T.getD i 0)) := getm (by omega)
                   refine wlit ?_
                   refine wl_v (x_move (tmS rfl rfl)) ?_
                   refine wl_v (x_move (tmI rfl rfl)) ?_
                   refine wl_v (x_ixs1 Try.underlying23 ts_3 (tmS rfl rfl) (tmI rfl rfl) (by omega)) ?_
                   refine wl_v (x_load (v := .int .i64 (T.getD i 0)) Try.underlying3 rfl (tmP rfl rfl) (cellR hS.ok 0 rfl hgi)) ?_
                   refine wl_v (x_assign (tmI rfl rfl)) ?_
                   refine wl_nil ?_
                   exact then_n ⟨_, rfl, (by repeat (first | exact agree_self | exact agree_refl | refine agree_upd rfl ?_ | refine agree_mix rfl ?_)), (by first | rfl | (first | (exact congrArg (Value.int .i64) (atI_nat (by omega)).symm) | (exact congrArg (Value.int .i64) (atI_out (by omega)).symm); done) | (first | (exact congrArg (Value.int .i64) (atI_nat (by omega)).symm) | (exact congrArg (Value.int .i64) (atI_out (by omega)).symm); rfl) | (first | (exact congrArg (Value.int .i64) (atI_nat (by omega)).symm) | (exact congrArg (Value.int .i64) (atI_out (by omega)).symm); go_num)), hS⟩
                try (exfalso; first | with_reducible exact absurd hc4 Bool.false_ne_true | with_reducible exact absurd hc4.symm Bool.false_ne_true | (simp only [nrm] at hc4; omega) | (simp at hc4; done))
                all_goals
                 try simp only [nrm] at hc4
                 refine wp_skip ?_
                 exact then_n ⟨_, rfl, (by repeat (first | exact agree_self | exact agree_refl | refine agree_upd rfl ?_ | refine agree_mix rfl ?_)), (by first | rfl | (first | (exact congrArg (Value.int .i64) (atI_nat (by omega)).symm) | (exact congrArg (Value.int .i64) (atI_out (by omega)).symm); done) | (first | (exact congrArg (Value.int .i64) (atI_nat (by omega)).symm) | (exact congrArg (Value.int .i64) (atI_out (by omega)).symm); rfl) | (first | (exact congrArg (Value.int .i64) (atI_nat (by omega)).symm) | (exact congrArg (Value.int .i64) (atI_out (by omega)).symm); go_num)), hS⟩
              · clear hS; intro g w hI
                obtain ⟨hs15, hS⟩ := hI
                refine fr_knowQ (d := 15) hs15 ?_; clear hs15
                refine then_n (hK17 _ _ ?_); clear hK17 K17
                refine wp_seq_k ?_; intro K20 hK20
                refine rg_startk 0 hS mixed_ ?_
                clear hS; intro w hS
                refine rg_take 0 rfl rfl (by kernel_rfl) (by kernel_rfl) (by kernel_rfl) (want_0) (fun w hok => x_move (tmI rfl rfl)) ?_
                refine rg_take 1 rfl rfl (by kernel_rfl) (by kernel_rfl) (by kernel_rfl) (want_0) (fun w hok => x_eql (tmI rfl rfl) (ev_cN 0)) ?_
                refine rg_take 2 rfl rfl (by kernel_rfl) (by kernel_rfl) (by kernel_rfl) (want_0) (fun w hok => x_move (tmB rfl rfl)) ?_
                refine gs_rg (tm (t := 98) rfl) (fun hg15_2 => ?_) (fun hg15_2 => ?_)
                · have hg15_2' := hg15_2; (try simp only [nrm] at hg15_2'); try (exfalso; first | with_reducible exact absurd hg15_2 Bool.false_ne_true | with_reducible exact absurd hg15_2.symm Bool.false_ne_true | omega | (simp at hg15_2; done))
                  all_goals
                   refine rg_take 3 rfl rfl (by kernel_rfl) (by kernel_rfl) (by kernel_rfl) (want_y rfl rfl rfl rfl (by rw [hg15_2]; rfl)) (fun w hok => x_loadA (cs := [_]) Try.underlying27 rfl ts_27 (tmP rfl rfl) (rangeB hok 1 rfl rfl)) ?_
                   refine rg_take 5 rfl rfl (by kernel_rfl) (by kernel_rfl) (by kernel_rfl) (want_y rfl rfl rfl rfl (by rw [hg15_2]; rfl)) (fun w hok => x_move (tmI rfl rfl)) ?_
                   refine rg_step 4 rfl (by kernel_rfl) (want_y rfl rfl rfl rfl (by rw [hg15_2]; rfl)) (oks_drop hS 0 rfl) ?_; intro K hK
                   refine ow_call Try.func8 rfl rfl (evs_cons (tmA rfl rfl) <| evs_nil) (mTlen_c G n n _) ?_
                   rintro e w ⟨rfl, hk⟩
                   refine ⟨_, rfl, ?_⟩
                   replace hS := hS.kept hk
                   clear hk
                   refine hK _ _ ?_; clear hK K
                   refine rg_take 6 rfl rfl (by kernel_rfl) (by kernel_rfl) (by kernel_rfl) (want_y rfl rfl rfl rfl (by rw [hg15_2]; rfl)) (fun w hok => x_eql (tmI rfl rfl) (tmI rfl rfl)) ?_
                   refine rg_take 7 rfl rfl (by kernel_rfl) (by kernel_rfl) (by kernel_rfl) (want_0) (fun w hok => x_pickT (tmB rfl rfl) hg15_2 (tmB rfl rfl)) ?_
                   refine rg_take 8 rfl rfl (by kernel_rfl) (by kernel_rfl) (by kernel_rfl) (want_0) (fun w hok => x_move (tmB rfl rfl)) ?_
                   refine gs_rg (tm (t := 104) rfl) (fun hg15_8 => ?_) (fun hg15_8 => ?_)
                   · have hg15_8' := hg15_8; (try simp only [nrm] at hg15_8'); try (exfalso; first | with_reducible exact absurd hg15_8 Bool.false_ne_true | with_reducible exact absurd hg15_8.symm Bool.false_ne_true | omega | (simp at hg15_8; done))
                     all_goals
                      refine rg_take 9 rfl rfl (by kernel_rfl) (by kernel_rfl) (by kernel_rfl) (want_y rfl rfl rfl rfl (by rw [hg15_8]; rfl)) (fun w hok => x_loadA (cs := [_]) Try.underlying27 rfl ts_27 (tmP rfl rfl) (rangeB hok 1 rfl rfl)) ?_
                      refine rg_take 10 rfl rfl (by kernel_rfl) (by kernel_rfl) (by kernel_rfl) (want_y rfl rfl rfl rfl (by rw [hg15_8]; rfl)) (fun w hok => x_move (tmI rfl rfl)) ?_
                      refine rg_take 12 rfl rfl (by kernel_rfl) (by kernel_rfl) (by kernel_rfl) (want_y rfl rfl rfl rfl (by rw [hg15_8]; rfl)) (fun w hok => x_move (tmI rfl rfl)) ?_
                      refine rg_step 11 rfl (by kernel_rfl) (want_y rfl rfl rfl rfl (by rw [hg15_8]; rfl)) (oks_drop hS 0 rfl) ?_; intro K hK
                      refine ow_call Try.func9 rfl rfl (evs_cons (tmA rfl rfl) <| evs_cons (tmI rfl rfl) <| evs_nil) (hat _ G at_ (viewV hS.ok 2 rfl)) ?_
                      rintro e w ⟨rfl, hk⟩
                      refine ⟨_, rfl, ?_⟩
                      replace hS := hS.kept hk
                      clear hk
                      refine hK _ _ ?_; clear hK K
                      refine rg_take 13 rfl rfl (by kernel_rfl) (by kernel_rfl) (by kernel_rfl) (want_y rfl rfl rfl rfl (by rw [hg15_8]; rfl)) (fun w hok => x_eql (tmI rfl rfl) (tmI rfl rfl)) ?_
                      refine rg_take 14 rfl rfl (by kernel_rfl) (by kernel_rfl) (by kernel_rfl) (want_0) (fun w hok => x_pickT (tmB rfl rfl) hg15_8 (tmB rfl rfl)) ?_
                      refine rg_take 15 rfl rfl (by kernel_rfl) (by kernel_rfl) (by kernel_rfl) (want_0) (fun w hok => x_move (tmB rfl rfl)) ?_
                      refine gs_rg (tm (t := 111) rfl) (fun hg15_15 => ?_) (fun hg15_15 => ?_)
                      · have hg15_15' := hg15_15; (try simp only [nrm] at hg15_15'); try (exfalso; first | with_reducible exact absurd hg15_15 Bool.false_ne_true | with_reducible exact absurd hg15_15.symm Bool.false_ne_true | omega | (simp at hg15_15; done))
                        all_goals
                         refine rg_take 16 rfl rfl (by kernel_rfl) (by kernel_rfl) (by kernel_rfl) (want_y rfl rfl rfl rfl (by rw [hg15_15]; rfl)) (fun w hok => x_loadA (cs := [_]) Try.underlying27 rfl ts_27 (tmP rfl rfl) (rangeB hok 1 rfl rfl)) ?_
                         refine rg_take 17 rfl rfl (by kernel_rfl) (by kernel_rfl) (by kernel_rfl) (want_y rfl rfl rfl rfl (by rw [hg15_15]; rfl)) (fun w hok => x_loadA (cs := [_, _, _, _, _, _, _, _, _, _, _, _, _, _, _, _]) Try.underlying22 rfl ts_22 (tmP rfl rfl) (rangeB hok 3 rfl rfl)) ?_
                         refine rg_take 18 rfl rfl (by kernel_rfl) (by kernel_rfl) (by kernel_rfl) (want_y rfl rfl rfl rfl (by rw [hg15_15]; rfl)) (fun w hok => x_move (tmS rfl rfl)) ?_
                         refine rg_take 20 rfl rfl (by kernel_rfl) (by kernel_rfl) (by kernel_rfl) (want_y rfl rfl rfl rfl (by rw [hg15_15]; rfl)) (fun w hok => x_move (tmS rfl rfl)) ?_
                         refine rg_take 21 rfl rfl (by kernel_rfl) (by kernel_rfl) (by kernel_rfl) (want_y rfl rfl rfl rfl (by rw [hg15_15]; rfl)) (fun w hok => x_loadA (cs := [_, _, _, _, _, _, _, _, _, _, _, _, _, _, _, _]) Try.underlying22 rfl ts_22 (tmP rfl rfl) (rangeB hok 3 rfl rfl)) ?_
                         refine rg_take 22 rfl rfl (by kernel_rfl) (by kernel_rfl) (by kernel_rfl) (want_y rfl rfl rfl rfl (by rw [hg15_15]; rfl)) (fun w hok => x_move (tmS rfl rfl)) ?_
                         refine rg_take 24 rfl rfl (by kernel_rfl) (by kernel_rfl) (by kernel_rfl) (want_y rfl rfl rfl rfl (by rw [hg15_15]; rfl)) (fun w hok => x_move (tmI rfl rfl)) ?_
                         first
                          | refine rg_take 25 rfl rfl (by kernel_rfl) (by kernel_rfl) (by kernel_rfl) (want_y rfl rfl rfl rfl (by rw [hg15_15]; rfl)) (fun w hok => x_convN Try.underlying3 Try.underlying36 (tmI rfl rfl) (fit_u64 (by omega))) ?_
                          | refine rg_take 25 rfl rfl (by kernel_rfl) (by kernel_rfl) (by kernel_rfl) (want_y rfl rfl rfl rfl (by rw [hg15_15]; rfl)) (fun w hok => x_convU Try.underlying3 Try.underlying36 (tmI rfl rfl) rfl) ?_
                          | refine rg_take 25 rfl rfl (by kernel_rfl) (by kernel_rfl) (by kernel_rfl) (want_y rfl rfl rfl rfl (by rw [hg15_15]; rfl)) (fun w hok => x_conv Try.underlying3 Try.underlying36 (tmI rfl rfl)) ?_
                         refine rg_step 19 rfl (by kernel_rfl) (want_y rfl rfl rfl rfl (by rw [hg15_15]; rfl)) (oks_drop hS 0 rfl) ?_; intro K hK
                         refine ow_call Try.func10 rfl rfl (evs_cons (tmA rfl rfl) <| evs_cons (tmA rfl rfl) <| evs_cons (tmS rfl rfl) <| evs_nil) (hpk _ G (viewV hS.ok 2 rfl) (viewV hS.ok 5 rfl) (by omega)) ?_
                         rintro e w ⟨rfl, hk⟩
                         refine ⟨_, rfl, ?_⟩
                         replace hS := hS.kept hk
                         clear hk
                         refine hK _ _ ?_; clear hK K
                         refine rg_step 23 rfl (by kernel_rfl) (want_y rfl rfl rfl rfl (by rw [hg15_15]; rfl)) (oks_drop hS 0 rfl) ?_; intro K hK
                         refine ow_call Try.func12 rfl rfl (evs_cons (tmA rfl rfl) <| evs_cons (tmS rfl rfl) <| evs_nil) (hrs _ (viewV hS.ok 5 rfl) hb100) ?_
                         rintro e w ⟨rfl, hk⟩
                         refine ⟨_, rfl, ?_⟩
                         replace hS := hS.kept hk
                         clear hk
                         refine hK _ _ ?_; clear hK K
                         first
                          | refine rg_take 26 rfl rfl (by kernel_rfl) (by kernel_rfl) (by kernel_rfl) (want_y rfl rfl rfl rfl (by rw [hg15_15]; rfl)) (fun w hok => x_remN (tmI rfl rfl) (tmI rfl rfl) (by omega)) ?_
                          | refine rg_take 26 rfl rfl (by kernel_rfl) (by kernel_rfl) (by kernel_rfl) (want_y rfl rfl rfl rfl (by rw [hg15_15]; rfl)) (fun w hok => x_rem (tmI rfl rfl) (tmI rfl rfl) (by omega)) ?_
                         first
                          | refine rg_take 27 rfl rfl (by kernel_rfl) (by kernel_rfl) (by kernel_rfl) (want_y rfl rfl rfl rfl (by rw [hg15_15]; rfl)) (fun w hok => x_convN Try.underlying36 Try.underlying3 (tmI rfl rfl) (fit_i64 (by omega))) ?_
                          | refine rg_take 27 rfl rfl (by kernel_rfl) (by kernel_rfl) (by kernel_rfl) (want_y rfl rfl rfl rfl (by rw [hg15_15]; rfl)) (fun w hok => x_conv Try.underlying36 Try.underlying3 (tmI rfl rfl)) ?_
                         refine rg_take 28 rfl rfl (by kernel_rfl) (by kernel_rfl) (by kernel_rfl) (want_y rfl rfl rfl rfl (by rw [hg15_15]; rfl)) (fun w hok => x_ixs1 Try.underlying23 ts_3 (tmS rfl rfl) (tmI rfl rfl) (by omega)) ?_
                         refine rg_take 29 rfl rfl (by kernel_rfl) (by kernel_rfl) (by kernel_rfl) (want_y rfl rfl rfl rfl (by rw [hg15_15]; rfl)) (fun w hok => x_load (v := .int .i64 (T.getD (x % n) 0)) Try.underlying3 rfl (tmP rfl rfl) (cellR hok 0 rfl (getm (by omega)))) ?_
                         refine rg_take 30 rfl rfl (by kernel_rfl) (by kernel_rfl) (by kernel_rfl) (want_y rfl rfl rfl rfl (by rw [hg15_15]; rfl)) (fun w hok => x_eql (tmI rfl rfl) (tmI rfl rfl)) ?_
                         refine rg_take 31 rfl rfl (by kernel_rfl) (by kernel_rfl) (by kernel_rfl) (want_0) (fun w hok => x_pickT (tmB rfl rfl) hg15_15 (tmB rfl rfl)) ?_
                         refine rg_take 32 rfl rfl (by kernel_rfl) (by kernel_rfl) (by kernel_rfl) (want_0) (fun w hok => x_move (tmB rfl rfl)) ?_
                         refine gs_rg (tm (t := 128) rfl) (fun hg15_32 => ?_) (fun hg15_32 => ?_)
                         · have hg15_32' := hg15_32; (try simp only [nrm] at hg15_32'); try (exfalso; first | with_reducible exact absurd hg15_32 Bool.false_ne_true | with_reducible exact absurd hg15_32.symm Bool.false_ne_true | omega | (simp at hg15_32; done))
                           all_goals
                            refine rg_step 33 rfl (by kernel_rfl) (want_y rfl rfl rfl rfl (by rw [hg15_32]; rfl)) (oks_drop hS 0 rfl) ?_; intro K hK
                            refine ow_call Try.func5 rfl rfl (evs_nil) (law42_awake_c _) ?_
                            rintro e w ⟨rfl, hk⟩
                            refine ⟨_, rfl, ?_⟩
                            replace hS := hS.kept hk
                            clear hk
                            refine hK _ _ ?_; clear hK K
                            refine rg_take 34 rfl rfl (by kernel_rfl) (by kernel_rfl) (by kernel_rfl) (want_0) (fun w hok => x_pickT (tmB rfl rfl) hg15_32 (tmB rfl rfl)) ?_
                            refine rg_take 35 rfl rfl (by kernel_rfl) (by kernel_rfl) (by kernel_rfl) (want_0) (fun w hok => x_assign (tmB rfl rfl)) ?_
                            refine rg_done (oks_drop hS 0 rfl) (by kernel_rfl) ?_
                            refine then_n (hK20 _ _ ?_); clear hK20 K20
                            refine wp_ret ?_
                            refine ret1 rfl (.tmp rfl (show _ = Value.bool _ from rfl)) ?_
                            exact ⟨by simp, hS.kp.below⟩
                         have hg15_32' := hg15_32; (try simp only [nrm] at hg15_32'); try (exfalso; first | with_reducible exact absurd hg15_32 Bool.false_ne_true | with_reducible exact absurd hg15_32.symm Bool.false_ne_true | omega | (simp at hg15_32; done))
                         all_goals
                          refine rg_skip 33 rfl rfl (by kernel_rfl) (by kernel_rfl) (by kernel_rfl) (want_n rfl rfl rfl rfl (by rw [hg15_32]; rfl)) ?_
                          refine rg_take 34 rfl rfl (by kernel_rfl) (by kernel_rfl) (by kernel_rfl) (want_0) (fun w hok => x_pickF (tmB rfl rfl) hg15_32 ev_c) ?_
                          refine rg_take 35 rfl rfl (by kernel_rfl) (by kernel_rfl) (by kernel_rfl) (want_0) (fun w hok => x_assign (tmB rfl rfl)) ?_
                          refine rg_done (oks_drop hS 0 rfl) (by kernel_rfl) ?_
                          refine then_n (hK20 _ _ ?_); clear hK20 K20
                          refine wp_ret ?_
                          refine ret1 rfl (.tmp rfl (show _ = Value.bool _ from rfl)) ?_
                          exact ⟨by simp, hS.kp.below⟩
                      have hg15_15' := hg15_15; (try simp only [nrm] at hg15_15'); try (exfalso; first | with_reducible exact absurd hg15_15 Bool.false_ne_true | with_reducible exact absurd hg15_15.symm Bool.false_ne_true | omega | (simp at hg15_15; done))
                      all_goals
                       refine rg_skip 16 rfl rfl (by kernel_rfl) (by kernel_rfl) (by kernel_rfl) (want_n rfl rfl rfl rfl (by rw [hg15_15]; rfl)) ?_
                       refine rg_skip 17 rfl rfl (by kernel_rfl) (by kernel_rfl) (by kernel_rfl) (want_n rfl rfl rfl rfl (by rw [hg15_15]; rfl)) ?_
                       refine rg_skip 18 rfl rfl (by kernel_rfl) (by kernel_rfl) (by kernel_rfl) (want_n rfl rfl rfl rfl (by rw [hg15_15]; rfl)) ?_
                       refine rg_skip 19 rfl rfl (by kernel_rfl) (by kernel_rfl) (by kernel_rfl) (want_n rfl rfl rfl rfl (by rw [hg15_15]; rfl)) ?_
                       refine rg_skip 20 rfl rfl (by kernel_rfl) (by kernel_rfl) (by kernel_rfl) (want_n rfl rfl rfl rfl (by rw [hg15_15]; rfl)) ?_
                       refine rg_skip 21 rfl rfl (by kernel_rfl) (by kernel_rfl) (by kernel_rfl) (want_n rfl rfl rfl rfl (by rw [hg15_15]; rfl)) ?_
                       refine rg_skip 22 rfl rfl (by kernel_rfl) (by kernel_rfl) (by kernel_rfl) (want_n rfl rfl rfl rfl (by rw [hg15_15]; rfl)) ?_
                       refine rg_skip 23 rfl rfl (by kernel_rfl) (by kernel_rfl) (by kernel_rfl) (want_n rfl rfl rfl rfl (by rw [hg15_15]; rfl)) ?_
                       refine rg_skip 24 rfl rfl (by kernel_rfl) (by kernel_rfl) (by kernel_rfl) (want_n rfl rfl rfl rfl (by rw [hg15_15]; rfl)) ?_
                       refine rg_skip 25 rfl rfl (by kernel_rfl) (by kernel_rfl) (by kernel_rfl) (want_n rfl rfl rfl rfl (by rw [hg15_15]; rfl)) ?_
                       refine rg_skip 26 rfl rfl (by kernel_rfl) (by kernel_rfl) (by kernel_rfl) (want_n rfl rfl rfl rfl (by rw [hg15_15]; rfl)) ?_
                       refine rg_skip 27 rfl rfl (by kernel_rfl) (by kernel_rfl) (by kernel_rfl) (want_n rfl rfl rfl rfl (by rw [hg15_15]; rfl)) ?_
                       refine rg_skip 28 rfl rfl (by kernel_rfl) (by kernel_rfl) (by kernel_rfl) (want_n rfl rfl rfl rfl (by rw [hg15_15]; rfl)) ?_
                       refine rg_skip 29 rfl rfl (by kernel_rfl) (by kernel_rfl) (by kernel_rfl) (want_n rfl rfl rfl rfl (by rw [hg15_15]; rfl)) ?_
                       refine rg_skip 30 rfl rfl (by kernel_rfl) (by kernel_rfl) (by kernel_rfl) (want_n rfl rfl rfl rfl (by rw [hg15_15]; rfl)) ?_
                       refine rg_take 31 rfl rfl (by kernel_rfl) (by kernel_rfl) (by kernel_rfl) (want_0) (fun w hok => x_pickF (tmB rfl rfl) hg15_15 ev_c) ?_
                       refine rg_take 32 rfl rfl (by kernel_rfl) (by kernel_rfl) (by kernel_rfl) (want_0) (fun w hok => x_move (tmB rfl rfl)) ?_
                       refine rg_skip 33 rfl rfl (by kernel_rfl) (by kernel_rfl) (by kernel_rfl) (want_n rfl rfl rfl rfl rfl) ?_
                       refine rg_take 34 rfl rfl (by kernel_rfl) (by kernel_rfl) (by kernel_rfl) (want_0) (fun w hok => x_pickF (tmB rfl rfl) rfl ev_c) ?_
                       refine rg_take 35 rfl rfl (by kernel_rfl) (by kernel_rfl) (by kernel_rfl) (want_0) (fun w hok => x_assign (tmB rfl rfl)) ?_
                       refine rg_done (oks_drop hS 0 rfl) (by kernel_rfl) ?_
                       refine then_n (hK20 _ _ ?_); clear hK20 K20
                       refine wp_ret ?_
                       refine ret1 rfl (.tmp rfl (show _ = Value.bool _ from rfl)) ?_
                       exact ⟨by simp, hS.kp.below⟩
                   have hg15_8' := hg15_8; (try simp only [nrm] at hg15_8'); try (exfalso; first | with_reducible exact absurd hg15_8 Bool.false_ne_true | with_reducible exact absurd hg15_8.symm Bool.false_ne_true | omega | (simp at hg15_8; done))
                   all_goals
                    refine rg_skip 9 rfl rfl (by kernel_rfl) (by kernel_rfl) (by kernel_rfl) (want_n rfl rfl rfl rfl (by rw [hg15_8]; rfl)) ?_
                    refine rg_skip 10 rfl rfl (by kernel_rfl) (by kernel_rfl) (by kernel_rfl) (want_n rfl rfl rfl rfl (by rw [hg15_8]; rfl)) ?_
                    refine rg_skip 11 rfl rfl (by kernel_rfl) (by kernel_rfl) (by kernel_rfl) (want_n rfl rfl rfl rfl (by rw [hg15_8]; rfl)) ?_
                    refine rg_skip 12 rfl rfl (by kernel_rfl) (by kernel_rfl) (by kernel_rfl) (want_n rfl rfl rfl rfl (by rw [hg15_8]; rfl)) ?_
                    refine rg_skip 13 rfl rfl (by kernel_rfl) (by kernel_rfl) (by kernel_rfl) (want_n rfl rfl rfl rfl (by rw [hg15_8]; rfl)) ?_
                    refine rg_take 14 rfl rfl (by kernel_rfl) (by kernel_rfl) (by kernel_rfl) (want_0) (fun w hok => x_pickF (tmB rfl rfl) hg15_8 ev_c) ?_
                    refine rg_take 15 rfl rfl (by kernel_rfl) (by kernel_rfl) (by kernel_rfl) (want_0) (fun w hok => x_move (tmB rfl rfl)) ?_
                    refine rg_skip 16 rfl rfl (by kernel_rfl) (by kernel_rfl) (by kernel_rfl) (want_n rfl rfl rfl rfl rfl) ?_
                    refine rg_skip 17 rfl rfl (by kernel_rfl) (by kernel_rfl) (by kernel_rfl) (want_n rfl rfl rfl rfl rfl) ?_
                    refine rg_skip 18 rfl rfl (by kernel_rfl) (by kernel_rfl) (by kernel_rfl) (want_n rfl rfl rfl rfl rfl) ?_
                    refine rg_skip 19 rfl rfl (by kernel_rfl) (by kernel_rfl) (by kernel_rfl) (want_n rfl rfl rfl rfl rfl) ?_
                    refine rg_skip 20 rfl rfl (by kernel_rfl) (by kernel_rfl) (by kernel_rfl) (want_n rfl rfl rfl rfl rfl) ?_
                    refine rg_skip 21 rfl rfl (by kernel_rfl) (by kernel_rfl) (by kernel_rfl) (want_n rfl rfl rfl rfl rfl) ?_
                    refine rg_skip 22 rfl rfl (by kernel_rfl) (by kernel_rfl) (by kernel_rfl) (want_n rfl rfl rfl rfl rfl) ?_
                    refine rg_skip 23 rfl rfl (by kernel_rfl) (by kernel_rfl) (by kernel_rfl) (want_n rfl rfl rfl rfl rfl) ?_
                    refine rg_skip 24 rfl rfl (by kernel_rfl) (by kernel_rfl) (by kernel_rfl) (want_n rfl rfl rfl rfl rfl) ?_
                    refine rg_skip 25 rfl rfl (by kernel_rfl) (by kernel_rfl) (by kernel_rfl) (want_n rfl rfl rfl rfl rfl) ?_
                    refine rg_skip 26 rfl rfl (by kernel_rfl) (by kernel_rfl) (by kernel_rfl) (want_n rfl rfl rfl rfl rfl) ?_
                    refine rg_skip 27 rfl rfl (by kernel_rfl) (by kernel_rfl) (by kernel_rfl) (want_n rfl rfl rfl rfl rfl) ?_
                    refine rg_skip 28 rfl rfl (by kernel_rfl) (by kernel_rfl) (by kernel_rfl) (want_n rfl rfl rfl rfl rfl) ?_
                    refine rg_skip 29 rfl rfl (by kernel_rfl) (by kernel_rfl) (by kernel_rfl) (want_n rfl rfl rfl rfl rfl) ?_
                    refine rg_skip 30 rfl rfl (by kernel_rfl) (by kernel_rfl) (by kernel_rfl) (want_n rfl rfl rfl rfl rfl) ?_
                    refine rg_take 31 rfl rfl (by kernel_rfl) (by kernel_rfl) (by kernel_rfl) (want_0) (fun w hok => x_pickF (tmB rfl rfl) rfl ev_c) ?_
                    refine rg_take 32 rfl rfl (by kernel_rfl) (by kernel_rfl) (by kernel_rfl) (want_0) (fun w hok => x_move (tmB rfl rfl)) ?_
                    refine rg_skip 33 rfl rfl (by kernel_rfl) (by kernel_rfl) (by kernel_rfl) (want_n rfl rfl rfl rfl rfl) ?_
                    refine rg_take 34 rfl rfl (by kernel_rfl) (by kernel_rfl) (by kernel_rfl) (want_0) (fun w hok => x_pickF (tmB rfl rfl) rfl ev_c) ?_
                    refine rg_take 35 rfl rfl (by kernel_rfl) (by kernel_rfl) (by kernel_rfl) (want_0) (fun w hok => x_assign (tmB rfl rfl)) ?_
                    refine rg_done (oks_drop hS 0 rfl) (by kernel_rfl) ?_
                    refine then_n (hK20 _ _ ?_); clear hK20 K20
                    refine wp_ret ?_
                    refine ret1 rfl (.tmp rfl (show _ = Value.bool _ from rfl)) ?_
                    exact ⟨by simp, hS.kp.below⟩
                have hg15_2' := hg15_2; (try simp only [nrm] at hg15_2'); try (exfalso; first | with_reducible exact absurd hg15_2 Bool.false_ne_true | with_reducible exact absurd hg15_2.symm Bool.false_ne_true | omega | (simp at hg15_2; done))
                all_goals
                 refine rg_skip 3 rfl rfl (by kernel_rfl) (by kernel_rfl) (by kernel_rfl) (want_n rfl rfl rfl rfl (by rw [hg15_2]; rfl)) ?_
                 refine rg_skip 4 rfl rfl (by kernel_rfl) (by kernel_rfl) (by kernel_rfl) (want_n rfl rfl rfl rfl (by rw [hg15_2]; rfl)) ?_
                 refine rg_skip 5 rfl rfl (by kernel_rfl) (by kernel_rfl) (by kernel_rfl) (want_n rfl rfl rfl rfl (by rw [hg15_2]; rfl)) ?_
                 refine rg_skip 6 rfl rfl (by kernel_rfl) (by kernel_rfl) (by kernel_rfl) (want_n rfl rfl rfl rfl (by rw [hg15_2]; rfl)) ?_
                 refine rg_take 7 rfl rfl (by kernel_rfl) (by kernel_rfl) (by kernel_rfl) (want_0) (fun w hok => x_pickF (tmB rfl rfl) hg15_2 ev_c) ?_
                 refine rg_take 8 rfl rfl (by kernel_rfl) (by kernel_rfl) (by kernel_rfl) (want_0) (fun w hok => x_move (tmB rfl rfl)) ?_
                 refine rg_skip 9 rfl rfl (by kernel_rfl) (by kernel_rfl) (by kernel_rfl) (want_n rfl rfl rfl rfl rfl) ?_
                 refine rg_skip 10 rfl rfl (by kernel_rfl) (by kernel_rfl) (by kernel_rfl) (want_n rfl rfl rfl rfl rfl) ?_
                 refine rg_skip 11 rfl rfl (by kernel_rfl) (by kernel_rfl) (by kernel_rfl) (want_n rfl rfl rfl rfl rfl) ?_
                 refine rg_skip 12 rfl rfl (by kernel_rfl) (by kernel_rfl) (by kernel_rfl) (want_n rfl rfl rfl rfl rfl) ?_
                 refine rg_skip 13 rfl rfl (by kernel_rfl) (by kernel_rfl) (by kernel_rfl) (want_n rfl rfl rfl rfl rfl) ?_
                 refine rg_take 14 rfl rfl (by kernel_rfl) (by kernel_rfl) (by kernel_rfl) (want_0) (fun w hok => x_pickF (tmB rfl rfl) rfl ev_c) ?_
                 refine rg_take 15 rfl rfl (by kernel_rfl) (by kernel_rfl) (by kernel_rfl) (want_0) (fun w hok => x_move (tmB rfl rfl)) ?_
                 refine rg_skip 16 rfl rfl (by kernel_rfl) (by kernel_rfl) (by kernel_rfl) (want_n rfl rfl rfl rfl rfl) ?_
                 refine rg_skip 17 rfl rfl (by kernel_rfl) (by kernel_rfl) (by kernel_rfl) (want_n rfl rfl rfl rfl rfl) ?_
                 refine rg_skip 18 rfl rfl (by kernel_rfl) (by kernel_rfl) (by kernel_rfl) (want_n rfl rfl rfl rfl rfl) ?_
                 refine rg_skip 19 rfl rfl (by kernel_rfl) (by kernel_rfl) (by kernel_rfl) (want_n rfl rfl rfl rfl rfl) ?_
                 refine rg_skip 20 rfl rfl (by kernel_rfl) (by kernel_rfl) (by kernel_rfl) (want_n rfl rfl rfl rfl rfl) ?_
                 refine rg_skip 21 rfl rfl (by kernel_rfl) (by kernel_rfl) (by kernel_rfl) (want_n rfl rfl rfl rfl rfl) ?_
                 refine rg_skip 22 rfl rfl (by kernel_rfl) (by kernel_rfl) (by kernel_rfl) (want_n rfl rfl rfl rfl rfl) ?_
                 refine rg_skip 23 rfl rfl (by kernel_rfl) (by kernel_rfl) (by kernel_rfl) (want_n rfl rfl rfl rfl rfl) ?_
                 refine rg_skip 24 rfl rfl (by kernel_rfl) (by kernel_rfl) (by kernel_rfl) (want_n rfl rfl rfl rfl rfl) ?_
                 refine rg_skip 25 rfl rfl (by kernel_rfl) (by kernel_rfl) (by kernel_rfl) (want_n rfl rfl rfl rfl rfl) ?_
                 refine rg_skip 26 rfl rfl (by kernel_rfl) (by kernel_rfl) (by kernel_rfl) (want_n rfl rfl rfl rfl rfl) ?_
                 refine rg_skip 27 rfl rfl (by kernel_rfl) (by kernel_rfl) (by kernel_rfl) (want_n rfl rfl rfl rfl rfl) ?_
                 refine rg_skip 28 rfl rfl (by kernel_rfl) (by kernel_rfl) (by kernel_rfl) (want_n rfl rfl rfl rfl rfl) ?_
                 refine rg_skip 29 rfl rfl (by kernel_rfl) (by kernel_rfl) (by kernel_rfl) (want_n rfl rfl rfl rfl rfl) ?_
                 refine rg_skip 30 rfl rfl (by kernel_rfl) (by kernel_rfl) (by kernel_rfl) (want_n rfl rfl rfl rfl rfl) ?_
                 refine rg_take 31 rfl rfl (by kernel_rfl) (by kernel_rfl) (by kernel_rfl) (want_0) (fun w hok => x_pickF (tmB rfl rfl) rfl ev_c) ?_
                 refine rg_take 32 rfl rfl (by kernel_rfl) (by kernel_rfl) (by kernel_rfl) (want_0) (fun w hok => x_move (tmB rfl rfl)) ?_
                 refine rg_skip 33 rfl rfl (by kernel_rfl) (by kernel_rfl) (by kernel_rfl) (want_n rfl rfl rfl rfl rfl) ?_
                 refine rg_take 34 rfl rfl (by kernel_rfl) (by kernel_rfl) (by kernel_rfl) (want_0) (fun w hok => x_pickF (tmB rfl rfl) rfl ev_c) ?_
                 refine rg_take 35 rfl rfl (by kernel_rfl) (by kernel_rfl) (by kernel_rfl) (want_0) (fun w hok => x_assign (tmB rfl rfl)) ?_
                 refine rg_done (oks_drop hS 0 rfl) (by kernel_rfl) ?_
                 refine then_n (hK20 _ _ ?_); clear hK20 K20
                 refine wp_ret ?_
                 refine ret1 rfl (.tmp rfl (show _ = Value.bool _ from rfl)) ?_
                 exact ⟨by simp, hS.kp.below⟩
           have hg13_2' := hg13_2; (try simp only [nrm] at hg13_2'); try (exfalso; first | with_reducible exact absurd hg13_2 Bool.false_ne_true | with_reducible exact absurd hg13_2.symm Bool.false_ne_true | omega | (simp at hg13_2; done))
           all_goals
            refine wl_s rfl (want_n rfl rfl rfl rfl (by rw [hg13_2]; rfl)) ?_
            refine wl_s rfl (want_n rfl rfl rfl rfl (by rw [hg13_2]; rfl)) ?_
            refine wl_s rfl (want_n rfl rfl rfl rfl (by rw [hg13_2]; rfl)) ?_
            refine wl_v (x_pickF (tmB rfl rfl) hg13_2 ev_c) ?_
            refine wl_nil ?_
            refine then_n (hK18 _ _ ?_); clear hK18 K18
            refine cutc [15, 92, 93, 94, 95] (fun g w => g 15 = .int .i64 (atI T at_) ∧ St [] w0 [.row (.slice (some ⟨gr, 0, none⟩) n n) 3 1 n (T.map i64v), .blk g3_7 27 [.slice G n n], .vw G (T.map i64v), .blk g0_0 22 (kC k), .vw A (l.map i64v), .vw B (lb.map u8v)] w) ?_ ?_
            · skip
              refine cnd_f (tmB rfl rfl) rfl ?_
              refine wp_skip ?_
              exact then_n ⟨_, rfl, (by repeat (first | exact agree_self | exact agree_refl | refine agree_upd rfl ?_ | refine agree_mix rfl ?_)), (by first | rfl | (first | (exact congrArg (Value.int .i64) (atI_nat (by omega)).symm) | (exact congrArg (Value.int .i64) (atI_out (by omega)).symm); done) | (first | (exact congrArg (Value.int .i64) (atI_nat (by omega)).symm) | (exact congrArg (Value.int .i64) (atI_out (by omega)).symm); rfl) | (first | (exact congrArg (Value.int .i64) (atI_nat (by omega)).symm) | (exact congrArg (Value.int .i64) (atI_out (by omega)).symm); go_num)), hS⟩
            · clear hS; intro g w hI
              obtain ⟨hs15, hS⟩ := hI
              refine fr_knowQ (d := 15) hs15 ?_; clear hs15
              refine then_n (hK17 _ _ ?_); clear hK17 K17
              refine wp_seq_k ?_; intro K22 hK22
              refine rg_startk 0 hS mixed_ ?_
              clear hS; intro w hS
              refine rg_take 0 rfl rfl (by kernel_rfl) (by kernel_rfl) (by kernel_rfl) (want_0) (fun w hok => x_move (tmI rfl rfl)) ?_
              refine rg_take 1 rfl rfl (by kernel_rfl) (by kernel_rfl) (by kernel_rfl) (want_0) (fun w hok => x_eql (tmI rfl rfl) (ev_cN 0)) ?_
              refine rg_take 2 rfl rfl (by kernel_rfl) (by kernel_rfl) (by kernel_rfl) (want_0) (fun w hok => x_move (tmB rfl rfl)) ?_
              refine gs_rg (tm (t := 98) rfl) (fun hg15_2 => ?_) (fun hg15_2 => ?_)
              · have hg15_2' := hg15_2; (try simp only [nrm] at hg15_2'); try (exfalso; first | with_reducible exact absurd hg15_2 Bool.false_ne_true | with_reducible exact absurd hg15_2.symm Bool.false_ne_true | omega | (simp at hg15_2; done))
                all_goals
                 refine rg_take 3 rfl rfl (by kernel_rfl) (by kernel_rfl) (by kernel_rfl) (want_y rfl rfl rfl rfl (by rw [hg15_2]; rfl)) (fun w hok => x_loadA (cs := [_]) Try.underlying27 rfl ts_27 (tmP rfl rfl) (rangeB hok 1 rfl rfl)) ?_
                 refine rg_take 5 rfl rfl (by kernel_rfl) (by kernel_rfl) (by kernel_rfl) (want_y rfl rfl rfl rfl (by rw [hg15_2]; rfl)) (fun w hok => x_move (tmI rfl rfl)) ?_
                 refine rg_step 4 rfl (by kernel_rfl) (want_y rfl rfl rfl rfl (by rw [hg15_2]; rfl)) (oks_drop hS 0 rfl) ?_; intro K hK
                 refine ow_call Try.func8 rfl rfl (evs_cons (tmA rfl rfl) <| evs_nil) (mTlen_c G n n _) ?_
                 rintro e w ⟨rfl, hk⟩
                 refine ⟨_, rfl, ?_⟩
                 replace hS := hS.kept hk
                 clear hk
                 refine hK _ _ ?_; clear hK K
                 refine rg_take 6 rfl rfl (by kernel_rfl) (by kernel_rfl) (by kernel_rfl) (want_y rfl rfl rfl rfl (by rw [hg15_2]; rfl)) (fun w hok => x_eql (tmI rfl rfl) (tmI rfl rfl)) ?_
                 refine rg_take 7 rfl rfl (by kernel_rfl) (by kernel_rfl) (by kernel_rfl) (want_0) (fun w hok => x_pickT (tmB rfl rfl) hg15_2 (tmB rfl rfl)) ?_
                 refine rg_take 8 rfl rfl (by kernel_rfl) (by kernel_rfl) (by kernel_rfl) (want_0) (fun w hok => x_move (tmB rfl rfl)) ?_
                 refine gs_rg (tm (t := 104) rfl) (fun hg15_8 => ?_) (fun hg15_8 => ?_)
                 · have hg15_8' := hg15_8; (try simp only [nrm] at hg15_8'); try (exfalso; first | with_reducible exact absurd hg15_8 Bool.false_ne_true | with_reducible exact absurd hg15_8.symm Bool.false_ne_true | omega | (simp at hg15_8; done))
                   all_goals
                    refine rg_take 9 rfl rfl (by kernel_rfl) (by kernel_rfl) (by kernel_rfl) (want_y rfl rfl rfl rfl (by rw [hg15_8]; rfl)) (fun w hok => x_loadA (cs := [_]) Try.underlying27 rfl ts_27 (tmP rfl rfl) (rangeB hok 1 rfl rfl)) ?_
                    refine rg_take 10 rfl rfl (by kernel_rfl) (by kernel_rfl) (by kernel_rfl) (want_y rfl rfl rfl rfl (by rw [hg15_8]; rfl)) (fun w hok => x_move (tmI rfl rfl)) ?_
                    refine rg_take 12 rfl rfl (by kernel_rfl) (by kernel_rfl) (by kernel_rfl) (want_y rfl rfl rfl rfl (by rw [hg15_8]; rfl)) (fun w hok => x_move (tmI rfl rfl)) ?_
                    refine rg_step 11 rfl (by kernel_rfl) (want_y rfl rfl rfl rfl (by rw [hg15_8]; rfl)) (oks_drop hS 0 rfl) ?_; intro K hK
                    refine ow_call Try.func9 rfl rfl (evs_cons (tmA rfl rfl) <| evs_cons (tmI rfl rfl) <| evs_nil) (hat _ G at_ (viewV hS.ok 2 rfl)) ?_
                    rintro e w ⟨rfl, hk⟩
                    refine ⟨_, rfl, ?_⟩
                    replace hS := hS.kept hk
                    clear hk
                    refine hK _ _ ?_; clear hK K
                    refine rg_take 13 rfl rfl (by kernel_rfl) (by kernel_rfl) (by kernel_rfl) (want_y rfl rfl rfl rfl (by rw [hg15_8]; rfl)) (fun w hok => x_eql (tmI rfl rfl) (tmI rfl rfl)) ?_
                    refine rg_take 14 rfl rfl (by kernel_rfl) (by kernel_rfl) (by kernel_rfl) (want_0) (fun w hok => x_pickT (tmB rfl rfl) hg15_8 (tmB rfl rfl)) ?_
                    refine rg_take 15 rfl rfl (by kernel_rfl) (by kernel_rfl) (by kernel_rfl) (want_0) (fun w hok => x_move (tmB rfl rfl)) ?_
                    refine gs_rg (tm (t := 111) rfl) (fun hg15_15 => ?_) (fun hg15_15 => ?_)
                    · have hg15_15' := hg15_15; (try simp only [nrm] at hg15_15'); try (exfalso; first | with_reducible exact absurd hg15_15 Bool.false_ne_true | with_reducible exact absurd hg15_15.symm Bool.false_ne_true | omega | (simp at hg15_15; done))
                      all_goals
                       refine rg_take 16 rfl rfl (by kernel_rfl) (by kernel_rfl) (by kernel_rfl) (want_y rfl rfl rfl rfl (by rw [hg15_15]; rfl)) (fun w hok => x_loadA (cs := [_]) Try.underlying27 rfl ts_27 (tmP rfl rfl) (rangeB hok 1 rfl rfl)) ?_
                       refine rg_take 17 rfl rfl (by kernel_rfl) (by kernel_rfl) (by kernel_rfl) (want_y rfl rfl rfl rfl (by rw [hg15_15]; rfl)) (fun w hok => x_loadA (cs := [_, _, _, _, _, _, _, _, _, _, _, _, _, _, _, _]) Try.underlying22 rfl ts_22 (tmP rfl rfl) (rangeB hok 3 rfl rfl)) ?_
                       refine rg_take 18 rfl rfl (by kernel_rfl) (by kernel_rfl) (by kernel_rfl) (want_y rfl rfl rfl rfl (by rw [hg15_15]; rfl)) (fun w hok => x_move (tmS rfl rfl)) ?_
                       refine rg_take 20 rfl rfl (by kernel_rfl) (by kernel_rfl) (by kernel_rfl) (want_y rfl rfl rfl rfl (by rw [hg15_15]; rfl)) (fun w hok => x_move (tmS rfl rfl)) ?_
                       refine rg_take 21 rfl rfl (by kernel_rfl) (by kernel_rfl) (by kernel_rfl) (want_y rfl rfl rfl rfl (by rw [hg15_15]; rfl)) (fun w hok => x_loadA (cs := [_, _, _, _, _, _, _, _, _, _, _, _, _, _, _, _]) Try.underlying22 rfl ts_22 (tmP rfl rfl) (rangeB hok 3 rfl rfl)) ?_
                       refine rg_take 22 rfl rfl (by kernel_rfl) (by kernel_rfl) (by kernel_rfl) (want_y rfl rfl rfl rfl (by rw [hg15_15]; rfl)) (fun w hok => x_move (tmS rfl rfl)) ?_
                       refine rg_take 24 rfl rfl (by kernel_rfl) (by kernel_rfl) (by kernel_rfl) (want_y rfl rfl rfl rfl (by rw [hg15_15]; rfl)) (fun w hok => x_move (tmI rfl rfl)) ?_
                       first
                        | refine rg_take 25 rfl rfl (by kernel_rfl) (by kernel_rfl) (by kernel_rfl) (want_y rfl rfl rfl rfl (by rw [hg15_15]; rfl)) (fun w hok => x_convN Try.underlying3 Try.underlying36 (tmI rfl rfl) (fit_u64 (by omega))) ?_
                        | refine rg_take 25 rfl rfl (by kernel_rfl) (by kernel_rfl) (by kernel_rfl) (want_y rfl rfl rfl rfl (by rw [hg15_15]; rfl)) (fun w hok => x_convU Try.underlying3 Try.underlying36 (tmI rfl rfl) rfl) ?_
                        | refine rg_take 25 rfl rfl (by kernel_rfl) (by kernel_rfl) (by kernel_rfl) (want_y rfl rfl rfl rfl (by rw [hg15_15]; rfl)) (fun w hok => x_conv Try.underlying3 Try.underlying36 (tmI rfl rfl)) ?_
                       refine rg_step 19 rfl (by kernel_rfl) (want_y rfl rfl rfl rfl (by rw [hg15_15]; rfl)) (oks_drop hS 0 rfl) ?_; intro K hK
                       refine ow_call Try.func10 rfl rfl (evs_cons (tmA rfl rfl) <| evs_cons (tmA rfl rfl) <| evs_cons (tmS rfl rfl) <| evs_nil) (hpk _ G (viewV hS.ok 2 rfl) (viewV hS.ok 5 rfl) (by omega)) ?_
                       rintro e w ⟨rfl, hk⟩
                       refine ⟨_, rfl, ?_⟩
                       replace hS := hS.kept hk
                       clear hk
                       refine hK _ _ ?_; clear hK K
                       refine rg_step 23 rfl (by kernel_rfl) (want_y rfl rfl rfl rfl (by rw [hg15_15]; rfl)) (oks_drop hS 0 rfl) ?_; intro K hK
                       refine ow_call Try.func12 rfl rfl (evs_cons (tmA rfl rfl) <| evs_cons (tmS rfl rfl) <| evs_nil) (hrs _ (viewV hS.ok 5 rfl) hb100) ?_
                       rintro e w ⟨rfl, hk⟩
                       refine ⟨_, rfl, ?_⟩
                       replace hS := hS.kept hk
                       clear hk
                       refine hK _ _ ?_; clear hK K
                       first
                        | refine rg_take 26 rfl rfl (by kernel_rfl) (by kernel_rfl) (by kernel_rfl) (want_y rfl rfl rfl rfl (by rw [hg15_15]; rfl)) (fun w hok => x_remN (tmI rfl rfl) (tmI rfl rfl) (by omega)) ?_
                        | refine rg_take 26 rfl rfl (by kernel_rfl) (by kernel_rfl) (by kernel_rfl) (want_y rfl rfl rfl rfl (by rw [hg15_15]; rfl)) (fun w hok => x_rem (tmI rfl rfl) (tmI rfl rfl) (by omega)) ?_
                       first
                        | refine rg_take 27 rfl rfl (by kernel_rfl) (by kernel_rfl) (by kernel_rfl) (want_y rfl rfl rfl rfl (by rw [hg15_15]; rfl)) (fun w hok => x_convN Try.underlying36 Try.underlying3 (tmI rfl rfl) (fit_i64 (by omega))) ?_
                        | refine rg_take 27 rfl rfl (by kernel_rfl) (by kernel_rfl) (by kernel_rfl) (want_y rfl rfl rfl rfl (by rw [hg15_15]; rfl)) (fun w hok => x_conv Try.underlying36 Try.underlying3 (tmI rfl rfl)) ?_
                       refine rg_take 28 rfl rfl (by kernel_rfl) (by kernel_rfl) (by kernel_rfl) (want_y rfl rfl rfl rfl (by rw [hg15_15]; rfl)) (fun w hok => x_ixs1 Try.underlying23 ts_3 (tmS rfl rfl) (tmI rfl rfl) (by omega)) ?_
                       refine rg_take 29 rfl rfl (by kernel_rfl) (by kernel_rfl) (by kernel_rfl) (want_y rfl rfl rfl rfl (by rw [hg15_15]; rfl)) (fun w hok => x_load (v := .int .i64 (T.getD (x % n) 0)) Try.underlying3 rfl (tmP rfl rfl) (cellR hok 0 rfl (getm (by omega)))) ?_
                       refine rg_take 30 rfl rfl (by kernel_rfl) (by kernel_rfl) (by kernel_rfl) (want_y rfl rfl rfl rfl (by rw [hg15_15]; rfl)) (fun w hok => x_eql (tmI rfl rfl) (tmI rfl rfl)) ?_
                       refine rg_take 31 rfl rfl (by kernel_rfl) (by kernel_rfl) (by kernel_rfl) (want_0) (fun w hok => x_pickT (tmB rfl rfl) hg15_15 (tmB rfl rfl)) ?_
                       refine rg_take 32 rfl rfl (by kernel_rfl) (by kernel_rfl) (by kernel_rfl) (want_0) (fun w hok => x_move (tmB rfl rfl)) ?_
                       refine gs_rg (tm (t := 128) rfl) (fun hg15_32 => ?_) (fun hg15_32 => ?_)
                       · have hg15_32' := hg15_32; (try simp only [nrm] at hg15_32'); try (exfalso; first | with_reducible exact absurd hg15_32 Bool.false_ne_true | with_reducible exact absurd hg15_32.symm Bool.false_ne_true | omega | (simp at hg15_32; done))
                         all_goals
                          refine rg_step 33 rfl (by kernel_rfl) (want_y rfl rfl rfl rfl (by rw [hg15_32]; rfl)) (oks_drop hS 0 rfl) ?_; intro K hK
                          refine ow_call Try.func5 rfl rfl (evs_nil) (law42_awake_c _) ?_
                          rintro e w ⟨rfl, hk⟩
                          refine ⟨_, rfl, ?_⟩
                          replace hS := hS.kept hk
                          clear hk
                          refine hK _ _ ?_; clear hK K
                          refine rg_take 34 rfl rfl (by kernel_rfl) (by kernel_rfl) (by kernel_rfl) (want_0) (fun w hok => x_pickT (tmB rfl rfl) hg15_32 (tmB rfl rfl)) ?_
                          refine rg_take 35 rfl rfl (by kernel_rfl) (by kernel_rfl) (by kernel_rfl) (want_0) (fun w hok => x_assign (tmB rfl rfl)) ?_
                          refine rg_done (oks_drop hS 0 rfl) (by kernel_rfl) ?_
                          refine then_n (hK22 _ _ ?_); clear hK22 K22
                          refine wp_ret ?_
                          refine ret1 rfl (.tmp rfl (show _ = Value.bool _ from rfl)) ?_
                          exact ⟨by simp, hS.kp.below⟩
                       have hg15_32' := hg15_32; (try simp only [nrm] at hg15_32'); try (exfalso; first | with_reducible exact absurd hg15_32 Bool.false_ne_true | with_reducible exact absurd hg15_32.symm Bool.false_ne_true | omega | (simp at hg15_32; done))
                       all_goals
                        refine rg_skip 33 rfl rfl (by kernel_rfl) (by kernel_rfl) (by kernel_rfl) (want_n rfl rfl rfl rfl (by rw [hg15_32]; rfl)) ?_
                        refine rg_take 34 rfl rfl (by kernel_rfl) (by kernel_rfl) (by kernel_rfl) (want_0) (fun w hok => x_pickF (tmB rfl rfl) hg15_32 ev_c) ?_
                        refine rg_take 35 rfl rfl (by kernel_rfl) (by kernel_rfl) (by kernel_rfl) (want_0) (fun w hok => x_assign (tmB rfl rfl)) ?_
                        refine rg_done (oks_drop hS 0 rfl) (by kernel_rfl) ?_
                        refine then_n (hK22 _ _ ?_); clear hK22 K22
                        refine wp_ret ?_
                        refine ret1 rfl (.tmp rfl (show _ = Value.bool _ from rfl)) ?_
                        exact ⟨by simp, hS.kp.below⟩
                    have hg15_15' := hg15_15; (try simp only [nrm] at hg15_15'); try (exfalso; first | with_reducible exact absurd hg15_15 Bool.false_ne_true | with_reducible exact absurd hg15_15.symm Bool.false_ne_true | omega | (simp at hg15_15; done))
                    all_goals
                     refine rg_skip 16 rfl rfl (by kernel_rfl) (by kernel_rfl) (by kernel_rfl) (want_n rfl rfl rfl rfl (by rw [hg15_15]; rfl)) ?_
                     refine rg_skip 17 rfl rfl (by kernel_rfl) (by kernel_rfl) (by kernel_rfl) (want_n rfl rfl rfl rfl (by rw [hg15_15]; rfl)) ?_
                     refine rg_skip 18 rfl rfl (by kernel_rfl) (by kernel_rfl) (by kernel_rfl) (want_n rfl rfl rfl rfl (by rw [hg15_15]; rfl)) ?_
                     refine rg_skip 19 rfl rfl (by kernel_rfl) (by kernel_rfl) (by kernel_rfl) (want_n rfl rfl rfl rfl (by rw [hg15_15]; rfl)) ?_
                     refine rg_skip 20 rfl rfl (by kernel_rfl) (by kernel_rfl) (by kernel_rfl) (want_n rfl rfl rfl rfl (by rw [hg15_15]; rfl)) ?_
                     refine rg_skip 21 rfl rfl (by kernel_rfl) (by kernel_rfl) (by kernel_rfl) (want_n rfl rfl rfl rfl (by rw [hg15_15]; rfl)) ?_
                     refine rg_skip 22 rfl rfl (by kernel_rfl) (by kernel_rfl) (by kernel_rfl) (want_n rfl rfl rfl rfl (by rw [hg15_15]; rfl)) ?_
                     refine rg_skip 23 rfl rfl (by kernel_rfl) (by kernel_rfl) (by kernel_rfl) (want_n rfl rfl rfl rfl (by rw [hg15_15]; rfl)) ?_
                     refine rg_skip 24 rfl rfl (by kernel_rfl) (by kernel_rfl) (by kernel_rfl) (want_n rfl rfl rfl rfl (by rw [hg15_15]; rfl)) ?_
                     refine rg_skip 25 rfl rfl (by kernel_rfl) (by kernel_rfl) (by kernel_rfl) (want_n rfl rfl rfl rfl (by rw [hg15_15]; rfl)) ?_
                     refine rg_skip 26 rfl rfl (by kernel_rfl) (by kernel_rfl) (by kernel_rfl) (want_n rfl rfl rfl rfl (by rw [hg15_15]; rfl)) ?_
                     refine rg_skip 27 rfl rfl (by kernel_rfl) (by kernel_rfl) (by kernel_rfl) (want_n rfl rfl rfl rfl (by rw [hg15_15]; rfl)) ?_
                     refine rg_skip 28 rfl rfl (by kernel_rfl) (by kernel_rfl) (by kernel_rfl) (want_n rfl rfl rfl rfl (by rw [hg15_15]; rfl)) ?_
                     refine rg_skip 29 rfl rfl (by kernel_rfl) (by kernel_rfl) (by kernel_rfl) (want_n rfl rfl rfl rfl (by rw [hg15_15]; rfl)) ?_
                     refine rg_skip 30 rfl rfl (by kernel_rfl) (by kernel_rfl) (by kernel_rfl) (want_n rfl rfl rfl rfl (by rw [hg15_15]; rfl)) ?_
                     refine rg_take 31 rfl rfl (by kernel_rfl) (by kernel_rfl) (by kernel_rfl) (want_0) (fun w hok => x_pickF (tmB rfl rfl) hg15_15 ev_c) ?_
                     refine rg_take 32 rfl rfl (by kernel_rfl) (by kernel_rfl) (by kernel_rfl) (want_0) (fun w hok => x_move (tmB rfl rfl)) ?_
                     refine rg_skip 33 rfl rfl (by kernel_rfl) (by kernel_rfl) (by kernel_rfl) (want_n rfl rfl rfl rfl rfl) ?_
                     refine rg_take 34 rfl rfl (by kernel_rfl) (by kernel_rfl) (by kernel_rfl) (want_0) (fun w hok => x_pickF (tmB rfl rfl) rfl ev_c) ?_
                     refine rg_take 35 rfl rfl (by kernel_rfl) (by kernel_rfl) (by kernel_rfl) (want_0) (fun w hok => x_assign (tmB rfl rfl)) ?_
                     refine rg_done (oks_drop hS 0 rfl) (by kernel_rfl) ?_
                     refine then_n (hK22 _ _ ?_); clear hK22 K22
                     refine wp_ret ?_
                     refine ret1 rfl (.tmp rfl (show _ = Value.bool _ from rfl)) ?_
                     exact ⟨by simp, hS.kp.below⟩
                 have hg15_8' := hg15_8; (try simp only [nrm] at hg15_8'); try (exfalso; first | with_reducible exact absurd hg15_8 Bool.false_ne_true | with_reducible exact absurd hg15_8.symm Bool.false_ne_true | omega | (simp at hg15_8; done))
                 all_goals
                  refine rg_skip 9 rfl rfl (by kernel_rfl) (by kernel_rfl) (by kernel_rfl) (want_n rfl rfl rfl rfl (by rw [hg15_8]; rfl)) ?_
                  refine rg_skip 10 rfl rfl (by kernel_rfl) (by kernel_rfl) (by kernel_rfl) (want_n rfl rfl rfl rfl (by rw [hg15_8]; rfl)) ?_
                  refine rg_skip 11 rfl rfl (by kernel_rfl) (by kernel_rfl) (by kernel_rfl) (want_n rfl rfl rfl rfl (by rw [hg15_8]; rfl)) ?_
                  refine rg_skip 12 rfl rfl (by kernel_rfl) (by kernel_rfl) (by kernel_rfl) (want_n rfl rfl rfl rfl (by rw [hg15_8]; rfl)) ?_
                  refine rg_skip 13 rfl rfl (by kernel_rfl) (by kernel_rfl) (by kernel_rfl) (want_n rfl rfl rfl rfl (by rw [hg15_8]; rfl)) ?_
                  refine rg_take 14 rfl rfl (by kernel_rfl) (by kernel_rfl) (by kernel_rfl) (want_0) (fun w hok => x_pickF (tmB rfl rfl) hg15_8 ev_c) ?_
                  refine rg_take 15 rfl rfl (by kernel_rfl) (by kernel_rfl) (by kernel_rfl) (want_0) (fun w hok => x_move (tmB rfl rfl)) ?_
                  refine rg_skip 16 rfl rfl (by kernel_rfl) (by kernel_rfl) (by kernel_rfl) (want_n rfl rfl rfl rfl rfl) ?_
                  refine rg_skip 17 rfl rfl (by kernel_rfl) (by kernel_rfl) (by kernel_rfl) (want_n rfl rfl rfl rfl rfl) ?_
                  refine rg_skip 18 rfl rfl (by kernel_rfl) (by kernel_rfl) (by kernel_rfl) (want_n rfl rfl rfl rfl rfl) ?_
                  refine rg_skip 19 rfl rfl (by kernel_rfl) (by kernel_rfl) (by kernel_rfl) (want_n rfl rfl rfl rfl rfl) ?_
                  refine rg_skip 20 rfl rfl (by kernel_rfl) (by kernel_rfl) (by kernel_rfl) (want_n rfl rfl rfl rfl rfl) ?_
                  refine rg_skip 21 rfl rfl (by kernel_rfl) (by kernel_rfl) (by kernel_rfl) (want_n rfl rfl rfl rfl rfl) ?_
                  refine rg_skip 22 rfl rfl (by kernel_rfl) (by kernel_rfl) (by kernel_rfl) (want_n rfl rfl rfl rfl rfl) ?_
                  refine rg_skip 23 rfl rfl (by kernel_rfl) (by kernel_rfl) (by kernel_rfl) (want_n rfl rfl rfl rfl rfl) ?_
                  refine rg_skip 24 rfl rfl (by kernel_rfl) (by kernel_rfl) (by kernel_rfl) (want_n rfl rfl rfl rfl rfl) ?_
                  refine rg_skip 25 rfl rfl (by kernel_rfl) (by kernel_rfl) (by kernel_rfl) (want_n rfl rfl rfl rfl rfl) ?_
                  refine rg_skip 26 rfl rfl (by kernel_rfl) (by kernel_rfl) (by kernel_rfl) (want_n rfl rfl rfl rfl rfl) ?_
                  refine rg_skip 27 rfl rfl (by kernel_rfl) (by kernel_rfl) (by kernel_rfl) (want_n rfl rfl rfl rfl rfl) ?_
                  refine rg_skip 28 rfl rfl (by kernel_rfl) (by kernel_rfl) (by kernel_rfl) (want_n rfl rfl rfl rfl rfl) ?_
                  refine rg_skip 29 rfl rfl (by kernel_rfl) (by kernel_rfl) (by kernel_rfl) (want_n rfl rfl rfl rfl rfl) ?_
                  refine rg_skip 30 rfl rfl (by kernel_rfl) (by kernel_rfl) (by kernel_rfl) (want_n rfl rfl rfl rfl rfl) ?_
                  refine rg_take 31 rfl rfl (by kernel_rfl) (by kernel_rfl) (by kernel_rfl) (want_0) (fun w hok => x_pickF (tmB rfl rfl) rfl ev_c) ?_
                  refine rg_take 32 rfl rfl (by kernel_rfl) (by kernel_rfl) (by kernel_rfl) (want_0) (fun w hok => x_move (tmB rfl rfl)) ?_
                  refine rg_skip 33 rfl rfl (by kernel_rfl) (by kernel_rfl) (by kernel_rfl) (want_n rfl rfl rfl rfl rfl) ?_
                  refine rg_take 34 rfl rfl (by kernel_rfl) (by kernel_rfl) (by kernel_rfl) (want_0) (fun w hok => x_pickF (tmB rfl rfl) rfl ev_c) ?_
                  refine rg_take 35 rfl rfl (by kernel_rfl) (by kernel_rfl) (by kernel_rfl) (want_0) (fun w hok => x_assign (tmB rfl rfl)) ?_
                  refine rg_done (oks_drop hS 0 rfl) (by kernel_rfl) ?_
                  refine then_n (hK22 _ _ ?_); clear hK22 K22
                  refine wp_ret ?_
                  refine ret1 rfl (.tmp rfl (show _ = Value.bool _ from rfl)) ?_
                  exact ⟨by simp, hS.kp.below⟩
              have hg15_2' := hg15_2; (try simp only [nrm] at hg15_2'); try (exfalso; first | with_reducible exact absurd hg15_2 Bool.false_ne_true | with_reducible exact absurd hg15_2.symm Bool.false_ne_true | omega | (simp at hg15_2; done))
              all_goals
               refine rg_skip 3 rfl rfl (by kernel_rfl) (by kernel_rfl) (by kernel_rfl) (want_n rfl rfl rfl rfl (by rw [hg15_2]; rfl)) ?_
               refine rg_skip 4 rfl rfl (by kernel_rfl) (by kernel_rfl) (by kernel_rfl) (want_n rfl rfl rfl rfl (by rw [hg15_2]; rfl)) ?_
               refine rg_skip 5 rfl rfl (by kernel_rfl) (by kernel_rfl) (by kernel_rfl) (want_n rfl rfl rfl rfl (by rw [hg15_2]; rfl)) ?_
               refine rg_skip 6 rfl rfl (by kernel_rfl) (by kernel_rfl) (by kernel_rfl) (want_n rfl rfl rfl rfl (by rw [hg15_2]; rfl)) ?_
               refine rg_take 7 rfl rfl (by kernel_rfl) (by kernel_rfl) (by kernel_rfl) (want_0) (fun w hok => x_pickF (tmB rfl rfl) hg15_2 ev_c) ?_
               refine rg_take 8 rfl rfl (by kernel_rfl) (by kernel_rfl) (by kernel_rfl) (want_0) (fun w hok => x_move (tmB rfl rfl)) ?_
               refine rg_skip 9 rfl rfl (by kernel_rfl) (by kernel_rfl) (by kernel_rfl) (want_n rfl rfl rfl rfl rfl) ?_
               refine rg_skip 10 rfl rfl (by kernel_rfl) (by kernel_rfl) (by kernel_rfl) (want_n rfl rfl rfl rfl rfl) ?_
               refine rg_skip 11 rfl rfl (by kernel_rfl) (by kernel_rfl) (by kernel_rfl) (want_n rfl rfl rfl rfl rfl) ?_
               refine rg_skip 12 rfl rfl (by kernel_rfl) (by kernel_rfl) (by kernel_rfl) (want_n rfl rfl rfl rfl rfl) ?_
               refine rg_skip 13 rfl rfl (by kernel_rfl) (by kernel_rfl) (by kernel_rfl) (want_n rfl rfl rfl rfl rfl) ?_
               refine rg_take 14 rfl rfl (by kernel_rfl) (by kernel_rfl) (by kernel_rfl) (want_0) (fun w hok => x_pickF (tmB rfl rfl) rfl ev_c) ?_
               refine rg_take 15 rfl rfl (by kernel_rfl) (by kernel_rfl) (by kernel_rfl) (want_0) (fun w hok => x_move (tmB rfl rfl)) ?_
               refine rg_skip 16 rfl rfl (by kernel_rfl) (by kernel_rfl) (by kernel_rfl) (want_n rfl rfl rfl rfl rfl) ?_
               refine rg_skip 17 rfl rfl (by kernel_rfl) (by kernel_rfl) (by kernel_rfl) (want_n rfl rfl rfl rfl rfl) ?_
               refine rg_skip 18 rfl rfl (by kernel_rfl) (by kernel_rfl) (by kernel_rfl) (want_n rfl rfl rfl rfl rfl) ?_
               refine rg_skip 19 rfl rfl (by kernel_rfl) (by kernel_rfl) (by kernel_rfl) (want_n rfl rfl rfl rfl rfl) ?_
               refine rg_skip 20 rfl rfl (by kernel_rfl) (by kernel_rfl) (by kernel_rfl) (want_n rfl rfl rfl rfl rfl) ?_
               refine rg_skip 21 rfl rfl (by kernel_rfl) (by kernel_rfl) (by kernel_rfl) (want_n rfl rfl rfl rfl rfl) ?_
               refine rg_skip 22 rfl rfl (by kernel_rfl) (by kernel_rfl) (by kernel_rfl) (want_n rfl rfl rfl rfl rfl) ?_
               refine rg_skip 23 rfl rfl (by kernel_rfl) (by kernel_rfl) (by kernel_rfl) (want_n rfl rfl rfl rfl rfl) ?_
               refine rg_skip 24 rfl rfl (by kernel_rfl) (by kernel_rfl) (by kernel_rfl) (want_n rfl rfl rfl rfl rfl) ?_
               refine rg_skip 25 rfl rfl (by kernel_rfl) (by kernel_rfl) (by kernel_rfl) (want_n rfl rfl rfl rfl rfl) ?_
               refine rg_skip 26 rfl rfl (by kernel_rfl) (by kernel_rfl) (by kernel_rfl) (want_n rfl rfl rfl rfl rfl) ?_
               refine rg_skip 27 rfl rfl (by kernel_rfl) (by kernel_rfl) (by kernel_rfl) (want_n rfl rfl rfl rfl rfl) ?_
               refine rg_skip 28 rfl rfl (by kernel_rfl) (by kernel_rfl) (by kernel_rfl) (want_n rfl rfl rfl rfl rfl) ?_
               refine rg_skip 29 rfl rfl (by kernel_rfl) (by kernel_rfl) (by kernel_rfl) (want_n rfl rfl rfl rfl rfl) ?_
               refine rg_skip 30 rfl rfl (by kernel_rfl) (by kernel_rfl) (by kernel_rfl) (want_n rfl rfl rfl rfl rfl) ?_
               refine rg_take 31 rfl rfl (by kernel_rfl) (by kernel_rfl) (by kernel_rfl) (want_0) (fun w hok => x_pickF (tmB rfl rfl) rfl ev_c) ?_
               refine rg_take 32 rfl rfl (by kernel_rfl) (by kernel_rfl) (by kernel_rfl) (want_0) (fun w hok => x_move (tmB rfl rfl)) ?_
               refine rg_skip 33 rfl rfl (by kernel_rfl) (by kernel_rfl) (by kernel_rfl) (want_n rfl rfl rfl rfl rfl) ?_
               refine rg_take 34 rfl rfl (by kernel_rfl) (by kernel_rfl) (by kernel_rfl) (want_0) (fun w hok => x_pickF (tmB rfl rfl) rfl ev_c) ?_
               refine rg_take 35 rfl rfl (by kernel_rfl) (by kernel_rfl) (by kernel_rfl) (want_0) (fun w hok => x_assign (tmB rfl rfl)) ?_
               refine rg_done (oks_drop hS 0 rfl) (by kernel_rfl) ?_
               refine then_n (hK22 _ _ ?_); clear hK22 K22
               refine wp_ret ?_
               refine ret1 rfl (.tmp rfl (show _ = Value.bool _ from rfl)) ?_
               exact ⟨by simp, hS.kp.below⟩
  · have hbl := fun w hv hq => mbuild_z k z A c l w hkb hv hq hz
    have hTe := tabZ_no (k := k) hV
    rw [hTe] at hbl
    have hpk := fun w G hv hvb hnb => mTpick_c k G 0 [] B nb cb x lb w hkb hv (by simp) hvb hlb hbb hnb hcb hx
    have hat := fun w G i hv => mTat_c G 0 [] i w hv
    have hat0 : atI [] at_ = 0 := atI_out (by rw [List.length_nil]; omega)
    clear hx
    refine ent (n := 131) Try.func3 rfl rfl ?_
    refine wp_seq_k ?_; intro K1 hK1
    refine wlit ?_
    refine wl_e rfl ?_; intro K hK
    refine ow_box hS (tmA rfl rfl) rfl ?_
    clear hS; intro g0_0 w hg0_0 hS
    refine hK _ _ ?_; clear hK K
    refine wl_v (x_assign ev_c) ?_
    refine wl_nil ?_
    refine then_n (hK1 _ _ ?_); clear hK1 K1
    refine wp_seq_k ?_; intro K2 hK2
    refine wp_seq_k ?_; intro K3 hK3
    refine cutc [16, 17, 18, 19, 20, 21, 22, 23, 24, 25, 26, 27, 28, 29, 30, 31] (fun g w => ∃ (b31 : Bool), g 31 = .bool b31 ∧ St [] w0 [.blk g0_0 22 (kC k), .vw A (l.map i64v), .vw B (lb.map u8v)] w ∧ (b31 = false → l.length ≤ 70 ∧ nb ≤ 100)) ?_ ?_
    · skip
      refine wlit ?_
      refine wl_v (x_move (tmS rfl rfl)) ?_
      refine wl_v (x_len Try.underlying23 (tmS rfl rfl)) ?_
      refine wl_v (x_gtr (tmI rfl rfl) (ev_cN 70)) ?_
      refine wl_v (x_move (tmB rfl rfl)) ?_
      refine gs_wl (tm (t := 19) rfl) (fun hg1_3 => ?_) (fun hg1_3 => ?_)
      · have hg1_3' := hg1_3; (try simp only [nrm] at hg1_3'); try (exfalso; first | with_reducible exact absurd hg1_3 Bool.false_ne_true | with_reducible exact absurd hg1_3.symm Bool.false_ne_true | omega | (simp at hg1_3; done))
        all_goals
         refine wl_s rfl (want_n rfl rfl rfl rfl (by rw [hg1_3]; rfl)) ?_
         refine wl_s rfl (want_n rfl rfl rfl rfl (by rw [hg1_3]; rfl)) ?_
         refine wl_s rfl (want_n rfl rfl rfl rfl (by rw [hg1_3]; rfl)) ?_
         refine wl_v (x_pickT (tmB rfl rfl) hg1_3 ev_c) ?_
         refine wl_v (x_move (tmB rfl rfl)) ?_
         refine wl_s rfl (want_n rfl rfl rfl rfl rfl) ?_
         refine wl_s rfl (want_n rfl rfl rfl rfl rfl) ?_
         refine wl_s rfl (want_n rfl rfl rfl rfl rfl) ?_
         refine wl_s rfl (want_u rfl rfl rfl rfl) ?_
         refine wl_s rfl (want_u rfl rfl rfl rfl) ?_
         refine wl_s rfl (want_n rfl rfl rfl rfl rfl) ?_
         refine wl_v (x_pickT (tmB rfl rfl) rfl ev_c) ?_
         refine wl_nil ?_
         exact then_n ⟨_, rfl, (by repeat (first | exact agree_self | exact agree_refl | refine agree_upd rfl ?_ | refine agree_mix rfl ?_)), _, (by first | rfl | go_num | exact congrArg (Value.int _) (by first | omega | (simp; done) | (simp; omega))), hS, (by first | (intro _; constructor <;> omega) | (intro h; simp at h; done) | (intro h; cases h))⟩
      have hg1_3' := hg1_3; (try simp only [nrm] at hg1_3'); try (exfalso; first | with_reducible exact absurd hg1_3 Bool.false_ne_true | with_reducible exact absurd hg1_3.symm Bool.false_ne_true | omega | (simp at hg1_3; done))
      all_goals
       refine wl_gv (want_y rfl rfl rfl rfl (by rw [hg1_3]; rfl)) (x_move (tmS rfl rfl)) ?_
       refine wl_gv (want_y rfl rfl rfl rfl (by rw [hg1_3]; rfl)) (x_len Try.underlying24 (tmS rfl rfl)) ?_
       refine wl_gv (want_y rfl rfl rfl rfl (by rw [hg1_3]; rfl)) (x_gtr (tmI rfl rfl) (ev_cN 100)) ?_
       refine wl_v (x_pickF (tmB rfl rfl) hg1_3 (tmB rfl rfl)) ?_
       refine wl_v (x_move (tmB rfl rfl)) ?_
       refine gs_wl (tm (t := 24) rfl) (fun hg1_8 => ?_) (fun hg1_8 => ?_)
       · have hg1_8' := hg1_8; (try simp only [nrm] at hg1_8'); try (exfalso; first | with_reducible exact absurd hg1_8 Bool.false_ne_true | with_reducible exact absurd hg1_8.symm Bool.false_ne_true | omega | (simp at hg1_8; done))
         all_goals
          refine wl_s rfl (want_n rfl rfl rfl rfl (by rw [hg1_8]; rfl)) ?_
          refine wl_s rfl (want_n rfl rfl rfl rfl (by rw [hg1_8]; rfl)) ?_
          refine wl_s rfl (want_n rfl rfl rfl rfl (by rw [hg1_8]; rfl)) ?_
          refine wl_s rfl (want_u rfl rfl rfl rfl) ?_
          refine wl_s rfl (want_u rfl rfl rfl rfl) ?_
          refine wl_s rfl (want_n rfl rfl rfl rfl (by rw [hg1_8]; rfl)) ?_
          refine wl_v (x_pickT (tmB rfl rfl) hg1_8 ev_c) ?_
          refine wl_nil ?_
          exact then_n ⟨_, rfl, (by repeat (first | exact agree_self | exact agree_refl | refine agree_upd rfl ?_ | refine agree_mix rfl ?_)), _, (by first | rfl | go_num | exact congrArg (Value.int _) (by first | omega | (simp; done) | (simp; omega))), hS, (by first | (intro _; constructor <;> omega) | (intro h; simp at h; done) | (intro h; cases h))⟩
       have hg1_8' := hg1_8; (try simp only [nrm] at hg1_8'); try (exfalso; first | with_reducible exact absurd hg1_8 Bool.false_ne_true | with_reducible exact absurd hg1_8.symm Bool.false_ne_true | omega | (simp at hg1_8; done))
       all_goals
        refine wl_gv (want_y rfl rfl rfl rfl (by rw [hg1_8]; rfl)) (x_move (tmI rfl rfl)) ?_
        refine wl_gv (want_y rfl rfl rfl rfl (by rw [hg1_8]; rfl)) (x_geq (tmI rfl rfl) (ev_cN 300)) ?_
        refine wl_gv (want_y rfl rfl rfl rfl (by rw [hg1_8]; rfl)) (x_move (tmB rfl rfl)) ?_
        refine gs_wl (tm (t := 27) rfl) (fun hg1_11 => ?_) (fun hg1_11 => ?_)
        · have hg1_11' := hg1_11; (try simp only [nrm] at hg1_11'); try (exfalso; first | with_reducible exact absurd hg1_11 Bool.false_ne_true | with_reducible exact absurd hg1_11.symm Bool.false_ne_true | omega | (simp at hg1_11; done))
          all_goals
           refine wl_gv (want_y rfl rfl rfl rfl (by rw [hg1_11]; rfl)) (x_move (tmI rfl rfl)) ?_
           refine wl_gv (want_y rfl rfl rfl rfl (by rw [hg1_11]; rfl)) (x_leq (tmI rfl rfl) (ev_cN 2048)) ?_
           refine wl_gv (want_y rfl rfl rfl rfl (by rw [hg1_8]; rfl)) (x_pickT (tmB rfl rfl) hg1_11 (tmB rfl rfl)) ?_
           refine wl_v (x_pickF (tmB rfl rfl) hg1_8 (tmB rfl rfl)) ?_
           refine wl_nil ?_
           exact then_n ⟨_, rfl, (by repeat (first | exact agree_self | exact agree_refl | refine agree_upd rfl ?_ | refine agree_mix rfl ?_)), _, (by first | rfl | go_num | exact congrArg (Value.int _) (by first | omega | (simp; done) | (simp; omega))), hS, (by first | (intro _; constructor <;> omega) | (intro h; simp at h; done) | (intro h; cases h))⟩
        have hg1_11' := hg1_11; (try simp only [nrm] at hg1_11'); try (exfalso; first | with_reducible exact absurd hg1_11 Bool.false_ne_true | with_reducible exact absurd hg1_11.symm Bool.false_ne_true | omega | (simp at hg1_11; done))
        all_goals
         refine wl_s rfl (want_n rfl rfl rfl rfl (by rw [hg1_11]; rfl)) ?_
         refine wl_s rfl (want_n rfl rfl rfl rfl (by rw [hg1_11]; rfl)) ?_
         refine wl_gv (want_y rfl rfl rfl rfl (by rw [hg1_8]; rfl)) (x_pickF (tmB rfl rfl) hg1_11 ev_c) ?_
         refine wl_v (x_pickF (tmB rfl rfl) hg1_8 (tmB rfl rfl)) ?_
         refine wl_nil ?_
         exact then_n ⟨_, rfl, (by repeat (first | exact agree_self | exact agree_refl | refine agree_upd rfl ?_ | refine agree_mix rfl ?_)), _, (by first | rfl | go_num | exact congrArg (Value.int _) (by first | omega | (simp; done) | (simp; omega))), hS, (by first | (intro _; constructor <;> omega) | (intro h; simp at h; done) | (intro h; cases h))⟩
    · clear hS; intro g w hI
      obtain ⟨b31, hs31, hS, hb31⟩ := hI
      refine fr_knowQ (d := 31) hs31 ?_; clear hs31
      refine then_n (hK3 _ _ ?_); clear hK3 K3
      refine cnd (tm rfl) (fun hc0 => ?_) (fun hc0 => ?_)
      · try (exfalso; first | with_reducible exact absurd hc0 Bool.false_ne_true | with_reducible exact absurd hc0.symm Bool.false_ne_true | (simp only [nrm] at hc0; omega) | (simp at hc0; done))
        all_goals
         try simp only [nrm] at hc0
         refine wp_seq_k ?_; intro K5 hK5
         refine wlit ?_
         refine wl_e rfl ?_; intro K hK
         refine ow_call Try.func5 rfl rfl (evs_nil) (law42_awake_c _) ?_
         rintro e w ⟨rfl, hk⟩
         refine ⟨_, rfl, ?_⟩
         replace hS := hS.kept hk
         clear hk
         refine hK _ _ ?_; clear hK K
         refine wl_v (x_assign (tmB rfl rfl)) ?_
         refine wl_nil ?_
         refine then_n (hK5 _ _ ?_); clear hK5 K5
         refine wp_ret ?_
         refine then_r ?_
         refine ret1 rfl (.tmp rfl (show _ = Value.bool _ from rfl)) ?_
         exact ⟨rfl, hS.kp.below⟩
      try (exfalso; first | with_reducible exact absurd hc0 Bool.false_ne_true | with_reducible exact absurd hc0.symm Bool.false_ne_true | (simp only [nrm] at hc0; omega) | (simp at hc0; done))
      all_goals
       try simp only [nrm] at hc0
       obtain ⟨hq, hb100⟩ := hb31 (by simpa using hc0)
       refine wp_skip ?_
       refine then_n (hK2 _ _ ?_); clear hK2 K2
       refine wp_seq_k ?_; intro K6 hK6
       refine wlit ?_
       refine wl_v (x_loadA (cs := [_, _, _, _, _, _, _, _, _, _, _, _, _, _, _, _]) Try.underlying22 rfl ts_22 (tmP rfl rfl) (rangeB hS.ok 0 rfl rfl)) ?_
       refine wl_v (x_move (tmI rfl rfl)) ?_
       refine wl_v (x_move (tmS rfl rfl)) ?_
       refine wl_e rfl ?_; intro K hK
       refine ow_call Try.func6 rfl rfl (evs_cons (tmA rfl rfl) <| evs_cons (tmI rfl rfl) <| evs_cons (tmS rfl rfl) <| evs_nil) (hbl _ (viewV hS.ok 1 rfl) hq) ?_
       rintro e w ⟨G, E, rfl, hE, hn, hk⟩
       refine ⟨_, rfl, ?_⟩
       replace hS := hS.addn hk hn -- +vt
       clear hn hk
       obtain rfl : E = 1 := by rcases hE with ⟨h, _⟩ | ⟨_, h⟩; exact absurd h hV; exact h
       refine hK _ _ ?_; clear hK K
       refine wl_v (x_move (tmT rfl rfl)) ?_
       refine wl_v (x_ext (tmT rfl rfl) rfl) ?_
       refine wl_v (x_ext (tmT rfl rfl) rfl) ?_
       refine wl_e rfl ?_; intro K hK
       refine ow_alloc hS tz_27 rfl ?_
       clear hS; intro g3_7 w hg3_7 hS
       refine hK _ _ ?_; clear hK K
       refine wl_e rfl ?_; intro K hK
       refine ow_storeA hS 0 rfl ts_27 (tmP rfl rfl) (tmA rfl rfl) rfl rfl rfl ?_
       clear hS; intro w hS
       refine hK _ _ ?_; clear hK K
       refine wl_v (x_assign (tmI rfl rfl)) ?_
       refine wl_nil ?_
       refine then_n (hK6 _ _ ?_); clear hK6 K6
       refine wp_seq_k ?_; intro K7 hK7
       refine wp_seq_k ?_; intro K8 hK8
       refine wlit ?_
       refine wl_v (x_move (tmI rfl rfl)) ?_
       refine wl_v (x_move (tmS rfl rfl)) ?_
       refine wl_e rfl ?_; intro K hK
       refine ow_call Try.func7 rfl rfl (evs_cons (tmI rfl rfl) <| evs_cons (tmS rfl rfl) <| evs_nil) (rright_z A c l z _ (viewV hS.ok 3 rfl) hq (by omega)) ?_
       rintro e w ⟨br, rfl, hbr, hk⟩
       refine ⟨_, rfl, ?_⟩
       replace hS := hS.kept hk
       clear hk
       obtain rfl : br = false := by
         cases hbq : br with
         | false => rfl
         | true => exact absurd (hbr.1 hbq) hV
       refine hK _ _ ?_; clear hK K
       refine wl_v (x_not (tmB rfl rfl)) ?_
       refine wl_nil ?_
       refine then_n (hK8 _ _ ?_); clear hK8 K8
       refine cnds (tm rfl) (fun hc1 => ?_) (fun hc1 => ?_)
       · exfalso
         simp at hc1
       try (exfalso; first | with_reducible exact absurd hc1 Bool.false_ne_true | with_reducible exact absurd hc1.symm Bool.false_ne_true | (simp only [nrm] at hc1; omega) | (simp at hc1; done))
       all_goals
        try simp only [nrm] at hc1
        refine wp_seq_k ?_; intro K9 hK9
        refine wlit ?_
        refine wl_v (x_move (tmI rfl rfl)) ?_
        refine wl_v (x_eql (tmI rfl rfl) (ev_cN 1)) ?_
        refine wl_v (x_move (tmB rfl rfl)) ?_
        refine gs_wl (tm (t := 46) rfl) (fun hg5_2 => ?_) (fun hg5_2 => ?_)
        · have hg5_2' := hg5_2; (try simp only [nrm] at hg5_2'); try (exfalso; first | with_reducible exact absurd hg5_2 Bool.false_ne_true | with_reducible exact absurd hg5_2.symm Bool.false_ne_true | omega | (simp at hg5_2; done))
          all_goals
           refine wl_gv (want_y rfl rfl rfl rfl (by rw [hg5_2]; rfl)) (x_loadA (cs := [_]) Try.underlying27 rfl ts_27 (tmP rfl rfl) (rangeB hS.ok 0 rfl rfl)) ?_
           refine wl_g (want_y rfl rfl rfl rfl (by rw [hg5_2]; rfl)) ?_; intro K hK
           refine ow_call Try.func8 rfl rfl (evs_cons (tmA rfl rfl) <| evs_nil) (mTlen_c G 0 0 _) ?_
           rintro e w ⟨rfl, hk⟩
           refine ⟨_, rfl, ?_⟩
           replace hS := hS.kept hk
           clear hk
           refine hK _ _ ?_; clear hK K
           refine wl_gv (want_y rfl rfl rfl rfl (by rw [hg5_2]; rfl)) (x_eql (tmI rfl rfl) (ev_cN 0)) ?_
           refine wl_v (x_pickT (tmB rfl rfl) hg5_2 (tmB rfl rfl)) ?_
           refine wl_v (x_move (tmB rfl rfl)) ?_
           refine gs_wl (tm (t := 51) rfl) (fun hg5_7 => ?_) (fun hg5_7 => ?_)
           · have hg5_7' := hg5_7; (try simp only [nrm] at hg5_7'); try (exfalso; first | with_reducible exact absurd hg5_7 Bool.false_ne_true | with_reducible exact absurd hg5_7.symm Bool.false_ne_true | omega | (simp at hg5_7; done))
             all_goals
              refine wl_gv (want_y rfl rfl rfl rfl (by rw [hg5_7]; rfl)) (x_loadA (cs := [_]) Try.underlying27 rfl ts_27 (tmP rfl rfl) (rangeB hS.ok 0 rfl rfl)) ?_
              refine wl_gv (want_y rfl rfl rfl rfl (by rw [hg5_7]; rfl)) (x_move (tmI rfl rfl)) ?_
              refine wl_g (want_y rfl rfl rfl rfl (by rw [hg5_7]; rfl)) ?_; intro K hK
              refine ow_call Try.func9 rfl rfl (evs_cons (tmA rfl rfl) <| evs_cons (tmI rfl rfl) <| evs_nil) (hat _ G at_ (viewV hS.ok 1 rfl)) ?_
              rintro e w ⟨rfl, hk⟩
              refine ⟨_, rfl, ?_⟩
              rw [hat0]
              replace hS := hS.kept hk
              clear hk
              refine hK _ _ ?_; clear hK K
              refine wl_gv (want_y rfl rfl rfl rfl (by rw [hg5_7]; rfl)) (x_eql (tmI rfl rfl) (ev_cN 0)) ?_
              refine wl_v (x_pickT (tmB rfl rfl) hg5_7 (tmB rfl rfl)) ?_
              refine wl_v (x_move (tmB rfl rfl)) ?_
              refine gs_wl (tm (t := 57) rfl) (fun hg5_13 => ?_) (fun hg5_13 => ?_)
              · have hg5_13' := hg5_13; (try simp only [nrm] at hg5_13'); try (exfalso; first | with_reducible exact absurd hg5_13 Bool.false_ne_true | with_reducible exact absurd hg5_13.symm Bool.false_ne_true | omega | (simp at hg5_13; done))
                all_goals
                 refine wl_gv (want_y rfl rfl rfl rfl (by rw [hg5_13]; rfl)) (x_loadA (cs := [_]) Try.underlying27 rfl ts_27 (tmP rfl rfl) (rangeB hS.ok 0 rfl rfl)) ?_
                 refine wl_gv (want_y rfl rfl rfl rfl (by rw [hg5_13]; rfl)) (x_loadA (cs := [_, _, _, _, _, _, _, _, _, _, _, _, _, _, _, _]) Try.underlying22 rfl ts_22 (tmP rfl rfl) (rangeB hS.ok 2 rfl rfl)) ?_
                 refine wl_gv (want_y rfl rfl rfl rfl (by rw [hg5_13]; rfl)) (x_move (tmS rfl rfl)) ?_
                 refine wl_g (want_y rfl rfl rfl rfl (by rw [hg5_13]; rfl)) ?_; intro K hK
                 refine ow_call Try.func10 rfl rfl (evs_cons (tmA rfl rfl) <| evs_cons (tmA rfl rfl) <| evs_cons (tmS rfl rfl) <| evs_nil) (hpk _ G (viewV hS.ok 1 rfl) (viewV hS.ok 4 rfl) (by omega)) ?_
                 rintro e w ⟨rfl, hk⟩
                 refine ⟨_, rfl, ?_⟩
                 replace hS := hS.kept hk
                 clear hk
                 refine hK _ _ ?_; clear hK K
                 refine wl_gv (want_y rfl rfl rfl rfl (by rw [hg5_13]; rfl)) (x_eql (tmI rfl rfl) (ev_cN 0)) ?_
                 refine wl_v (x_pickT (tmB rfl rfl) hg5_13 (tmB rfl rfl)) ?_
                 refine wl_v (x_move (tmB rfl rfl)) ?_
                 refine gs_wl (tm (t := 64) rfl) (fun hg5_20 => ?_) (fun hg5_20 => ?_)
                 · have hg5_20' := hg5_20; (try simp only [nrm] at hg5_20'); try (exfalso; first | with_reducible exact absurd hg5_20 Bool.false_ne_true | with_reducible exact absurd hg5_20.symm Bool.false_ne_true | omega | (simp at hg5_20; done))
                   all_goals
                    refine wl_g (want_y rfl rfl rfl rfl (by rw [hg5_20]; rfl)) ?_; intro K hK
                    refine ow_call Try.func5 rfl rfl (evs_nil) (law42_awake_c _) ?_
                    rintro e w ⟨rfl, hk⟩
                    refine ⟨_, rfl, ?_⟩
                    replace hS := hS.kept hk
                    clear hk
                    refine hK _ _ ?_; clear hK K
                    refine wl_v (x_pickT (tmB rfl rfl) hg5_20 (tmB rfl rfl)) ?_
                    refine wl_v (x_assign (tmB rfl rfl)) ?_
                    refine wl_nil ?_
                    refine then_n (hK9 _ _ ?_); clear hK9 K9
                    refine wp_ret ?_
                    refine then_r ?_
                    refine ret1 rfl (.tmp rfl (show _ = Value.bool _ from rfl)) ?_
                    exact ⟨rfl, hS.kp.below⟩
                 have hg5_20' := hg5_20; (try simp only [nrm] at hg5_20'); try (exfalso; first | with_reducible exact absurd hg5_20 Bool.false_ne_true | with_reducible exact absurd hg5_20.symm Bool.false_ne_true | omega | (simp at hg5_20; done))
                 all_goals
                  refine wl_s rfl (want_n rfl rfl rfl rfl (by rw [hg5_20]; rfl)) ?_
                  refine wl_v (x_pickF (tmB rfl rfl) hg5_20 ev_c) ?_
                  refine wl_v (x_assign (tmB rfl rfl)) ?_
                  refine wl_nil ?_
                  refine then_n (hK9 _ _ ?_); clear hK9 K9
                  refine wp_ret ?_
                  refine then_r ?_
                  refine ret1 rfl (.tmp rfl (show _ = Value.bool _ from rfl)) ?_
                  exact ⟨rfl, hS.kp.below⟩
              have hg5_13' := hg5_13; (try simp only [nrm] at hg5_13'); try (exfalso; first | with_reducible exact absurd hg5_13 Bool.false_ne_true | with_reducible exact absurd hg5_13.symm Bool.false_ne_true | omega | (simp at hg5_13; done))
              all_goals
               refine wl_s rfl (want_n rfl rfl rfl rfl (by rw [hg5_13]; rfl)) ?_
               refine wl_s rfl (want_n rfl rfl rfl rfl (by rw [hg5_13]; rfl)) ?_
               refine wl_s rfl (want_n rfl rfl rfl rfl (by rw [hg5_13]; rfl)) ?_
               refine wl_s rfl (want_n rfl rfl rfl rfl (by rw [hg5_13]; rfl)) ?_
               refine wl_s rfl (want_n rfl rfl rfl rfl (by rw [hg5_13]; rfl)) ?_
               refine wl_v (x_pickF (tmB rfl rfl) hg5_13 ev_c) ?_
               refine wl_v (x_move (tmB rfl rfl)) ?_
               refine wl_s rfl (want_n rfl rfl rfl rfl rfl) ?_
               refine wl_v (x_pickF (tmB rfl rfl) rfl ev_c) ?_
               refine wl_v (x_assign (tmB rfl rfl)) ?_
               refine wl_nil ?_
               refine then_n (hK9 _ _ ?_); clear hK9 K9
               refine wp_ret ?_
               refine then_r ?_
               refine ret1 rfl (.tmp rfl (show _ = Value.bool _ from rfl)) ?_
               exact ⟨rfl, hS.kp.below⟩
           have hg5_7' := hg5_7; (try simp only [nrm] at hg5_7'); try (exfalso; first | with_reducible exact absurd hg5_7 Bool.false_ne_true | with_reducible exact absurd hg5_7.symm Bool.false_ne_true | omega | (simp at hg5_7; done))
           all_goals
            refine wl_s rfl (want_n rfl rfl rfl rfl (by rw [hg5_7]; rfl)) ?_
            refine wl_s rfl (want_n rfl rfl rfl rfl (by rw [hg5_7]; rfl)) ?_
            refine wl_s rfl (want_n rfl rfl rfl rfl (by rw [hg5_7]; rfl)) ?_
            refine wl_s rfl (want_n rfl rfl rfl rfl (by rw [hg5_7]; rfl)) ?_
            refine wl_v (x_pickF (tmB rfl rfl) hg5_7 ev_c) ?_
            refine wl_v (x_move (tmB rfl rfl)) ?_
            refine wl_s rfl (want_n rfl rfl rfl rfl rfl) ?_
            refine wl_s rfl (want_n rfl rfl rfl rfl rfl) ?_
            refine wl_s rfl (want_n rfl rfl rfl rfl rfl) ?_
            refine wl_s rfl (want_n rfl rfl rfl rfl rfl) ?_
            refine wl_s rfl (want_n rfl rfl rfl rfl rfl) ?_
            refine wl_v (x_pickF (tmB rfl rfl) rfl ev_c) ?_
            refine wl_v (x_move (tmB rfl rfl)) ?_
            refine wl_s rfl (want_n rfl rfl rfl rfl rfl) ?_
            refine wl_v (x_pickF (tmB rfl rfl) rfl ev_c) ?_
            refine wl_v (x_assign (tmB rfl rfl)) ?_
            refine wl_nil ?_
            refine then_n (hK9 _ _ ?_); clear hK9 K9
            refine wp_ret ?_
            refine then_r ?_
            refine ret1 rfl (.tmp rfl (show _ = Value.bool _ from rfl)) ?_
            exact ⟨rfl, hS.kp.below⟩
        have hg5_2' := hg5_2; (try simp only [nrm] at hg5_2'); try (exfalso; first | with_reducible exact absurd hg5_2 Bool.false_ne_true | with_reducible exact absurd hg5_2.symm Bool.false_ne_true | omega | (simp at hg5_2; done))
        all_goals
         refine wl_s rfl (want_n rfl rfl rfl rfl (by rw [hg5_2]; rfl)) ?_
         refine wl_s rfl (want_n rfl rfl rfl rfl (by rw [hg5_2]; rfl)) ?_
         refine wl_s rfl (want_n rfl rfl rfl rfl (by rw [hg5_2]; rfl)) ?_
         refine wl_v (x_pickF (tmB rfl rfl) hg5_2 ev_c) ?_
         refine wl_v (x_move (tmB rfl rfl)) ?_
         refine wl_s rfl (want_n rfl rfl rfl rfl rfl) ?_
         refine wl_s rfl (want_n rfl rfl rfl rfl rfl) ?_
         refine wl_s rfl (want_n rfl rfl rfl rfl rfl) ?_
         refine wl_s rfl (want_n rfl rfl rfl rfl rfl) ?_
         refine wl_v (x_pickF (tmB rfl rfl) rfl ev_c) ?_
         refine wl_v (x_move (tmB rfl rfl)) ?_
         refine wl_s rfl (want_n rfl rfl rfl rfl rfl) ?_
         refine wl_s rfl (want_n rfl rfl rfl rfl rfl) ?_
         refine wl_s rfl (want_n rfl rfl rfl rfl rfl) ?_
         refine wl_s rfl (want_n rfl rfl rfl rfl rfl) ?_
         refine wl_s rfl (want_n rfl rfl rfl rfl rfl) ?_
         refine wl_v (x_pickF (tmB rfl rfl) rfl ev_c) ?_
         refine wl_v (x_move (tmB rfl rfl)) ?_
         refine wl_s rfl (want_n rfl rfl rfl rfl rfl) ?_
         refine wl_v (x_pickF (tmB rfl rfl) rfl ev_c) ?_
         refine wl_v (x_assign (tmB rfl rfl)) ?_
         refine wl_nil ?_
         refine then_n (hK9 _ _ ?_); clear hK9 K9
         refine wp_ret ?_
         refine then_r ?_
         refine ret1 rfl (.tmp rfl (show _ = Value.bool _ from rfl)) ?_
         exact ⟨rfl, hS.kp.below⟩
set_option maxRecDepth 100000 in
theorem walk (v : Value) (z : Int) (A : Option Addr) (q c : Nat) (l : List Int) (at_ : Int) (B : Option Addr) (nb cb : Nat) (lb : List Nat) (w0 : World) {H : Type} {enc : TypeId × Value → H} {r : Reach} {b0 : Nat} {d : DataW H} {ps : List MemPlace}
    (hval : Value.okWide Try.prog w0 r b0 22 v) (hd : DataW.Trod enc Try.prog w0 0 (fun _ => true) true 22 v d ps) (hz : -9223372036854775808 ≤ z ∧ z ≤ 9223372036854775807)
    (r2 : l.length = q ∧ (A = none → c = 0) ∧ (∀ x ∈ l, I64 x) ∧ View w0 w0.heap.size A (l.map i64v) ∧ q ≤ c) (_ha : -9223372036854775808 ≤ at_ ∧ at_ ≤ 9223372036854775807) (r4 : lb.length = nb ∧ (B = none → cb = 0) ∧ BView w0 w0.heap.size B lb ∧ nb ≤ cb) :
    Calls Try.prog 3 #[v, .int .i64 z, .slice A q c, .int .i64 at_, .slice B nb cb] w0 fun e w' => e = .returned (.bool true) ∧ Below w0.heap.size w0 w' := by
  obtain ⟨k, rfl, hkb⟩ := arg_k16 Try.underlying22 Try.underlying5 (by kernel_rfl) (by kernel_rfl) hval hd
  obtain ⟨rfl, _, _, hv, _⟩ := r2
  obtain ⟨hlb, hBn, ⟨hbb, hvb⟩, hcb⟩ := r4
  exact walk_all k z A c l at_ B nb cb lb w0 hkb hz hv hvb hlb hbb hcb hBn
end MaglevBuilds
end Go.Proofs.Ytofkhhklkcdggaa
