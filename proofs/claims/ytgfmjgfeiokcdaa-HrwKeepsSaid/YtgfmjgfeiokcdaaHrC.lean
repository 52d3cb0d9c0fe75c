
/- hrw.Score and the reference's, by contract. Conditions: none but bounds. -/
import Derived.Test.YtgfmjgfeiokcdaaHrB
import Derived.Test.YtgfmjgfeiokcdaaSipN
import Derived.Test.YtgfmjgfeiokcdaaJoin
namespace Go.Proofs.Ytgfmjgfeiokcdaa
open Go.RowKit
def txt (m i : Nat) (b : List Nat) : List Nat := ([5] ++ be m 4) ++ be i 2 ++ b
theorem txt_len (m i : Nat) (b : List Nat) : (txt m i b).length = 7 + b.length := by simp [txt, be_length]; omega
theorem txt_bytes {m i : Nat} {b : List Nat} (h : Bytes b) : Bytes (txt m i b) :=
  ((Bytes.append (fun x hx => by rw [List.mem_singleton.1 hx]; decide) (be_bytes _ _)).append (be_bytes _ _)).append h
def scF (k : Nat → Nat) (b : List Nat) (m : Nat) : Nat → Nat
  | 0 => 0
  | i + 1 => max (scF k b m i) (sipF k (txt m i b))
theorem scF_lt (k : Nat → Nat) (b : List Nat) (m : Nat) : ∀ i, scF k b m i < 18446744073709551616
  | 0 => by unfold scF; omega
  | i + 1 => by
    have h1 := scF_lt k b m i
    have h2 := sipF_lt k (txt m i b)
    show max _ _ < _
    omega
set_option maxRecDepth 100000 in
set_option maxHeartbeats 4000000 in
theorem score_c (k : Nat → Nat) (m : Nat) (v : Int) (B : Option Addr) (nb cb : Nat) (b : List Nat) (w0 : World) (hkb : Bytes (kL k)) (hv : View w0 w0.heap.size B (b.map u8v)) (hl : b.length = nb) (hb : Bytes b) (hn4 : nb ≤ 1000) (hm : m < 64) (hv7 : v ≤ 7) (hv0 : -1000 ≤ v) :
    Calls Try.prog 10 #[.agg (kC k).toArray, .agg (mv ((m : Int), v)).toArray, .slice B nb cb] w0 fun e w' => e = .returned (.int .u64 ((scF k b m v.toNat : Nat) : Int)) ∧ Kp [] w0 w' := by
  have hS := (St.sv w0).vcons rfl hv
  have hsl := scF_lt k b m
  have hsum := fun i w A (n c : Nat) hv h1 h2 h3 => sum_c k A n c (txt m i b) w hkb hv h1 (txt_bytes hb) h2 h3
  have hstep : ∀ i, scF k b m (i + 1) = max (scF k b m i) (sipF k (txt m i b)) := fun i => rfl
  have hte : ∀ i, ([5] ++ be m 4) ++ be i 2 ++ b = txt m i b := fun i => rfl
  have htl := fun i => txt_len m i b
  have hsp := fun i => sipF_lt k (txt m i b)
  have h00 : scF k b m 0 = 0 := rfl
  generalize scF k b m = sc at *
  obtain ⟨sp, hse⟩ : ∃ sp : Nat → Nat, ∀ i, sipF k (txt m i b) = sp i := ⟨_, fun _ => rfl⟩
  simp only [hse] at hsum hstep hsp
  clear hse
  refine ent (n := 35) Try.func10 rfl rfl ?_
  refine wp_seq_k ?_; intro K1 hK1
  refine wlit ?_
  refine wl_e rfl ?_; intro K hK
  refine ow_box hS (tmA rfl rfl) rfl ?_
  clear hS; intro g0_0 w hg0_0 hS
  refine hK _ _ ?_; clear hK K
  refine wl_e rfl ?_; intro K hK
  refine ow_box hS (tmA rfl rfl) rfl ?_
  clear hS; intro g0_1 w hg0_1 hS
  refine hK _ _ ?_; clear hK K
  refine wl_v (x_assign (ev_cN 0)) ?_
  refine wl_nil ?_
  refine then_n (hK1 _ _ ?_); clear hK1 K1
  refine wp_seq_k ?_; intro K2 hK2
  refine wlit ?_
  refine wl_e rfl ?_; intro K hK
  refine ow_build hS Try.underlying24 tz_5 (bc_take (ev_cN 5) <| bc_nil) rfl rfl (by kernel_rfl) ?_
  clear hS; intro g1_0 w hg1_0 hS
  refine hK _ _ ?_; clear hK K
  refine wl_v (x_fa 0 Try.underlying35 rfl rfl ts_3 (tmP rfl rfl)) ?_
  first
   | refine wl_v (x_load Try.underlying3 rfl (tmP rfl rfl) (cellB hS.ok 1 rfl rfl)) ?_
   | refine wl_v (x_load Try.underlying3 rfl (tmP rfl rfl) (cellB hS.ok 1 rfl (getm (by omega)))) ?_
  first
   | refine wl_v (x_convN Try.underlying3 Try.underlying32 (tmI rfl rfl) (fit_u64 (by omega))) ?_
   | refine wl_v (x_convU Try.underlying3 Try.underlying32 (tmI rfl rfl) rfl) ?_
   | refine wl_v (x_conv Try.underlying3 Try.underlying32 (tmI rfl rfl)) ?_
  refine wl_e rfl ?_; intro K hK
  refine ow_call Try.func15 rfl rfl (evs_cons (tmS rfl rfl) <| evs_cons (tmI rfl rfl) <| evs_cons (ev_cN 4) <| evs_nil) (put_c 1 (some ⟨g1_0, 0, none⟩) 1 [5] m 4 _ (viewB hS.ok 0 rfl) rfl (by omega) (by omega) (by omega)) ?_
  rintro e w ⟨gp, rfl, hn1, hk⟩
  refine ⟨_, rfl, ?_⟩
  replace hS := hS.add hk hn1 -- +rowp
  clear hn1 hk
  refine hK _ _ ?_; clear hK K
  refine wl_v (x_assign (tmS rfl rfl)) ?_
  refine wl_nil ?_
  refine then_n (hK2 _ _ ?_); clear hK2 K2
  refine wp_seq_k ?_; intro K3 hK3
  refine wlit ?_
  refine wl_v (x_assign (ev_cN 0)) ?_
  refine wl_nil ?_
  refine then_n (hK3 _ _ ?_); clear hK3 K3
  refine wp_seq_k ?_; intro K4 hK4
  refine wp_seq_k ?_; intro K5 hK5
  refine wlit ?_
  refine wl_v (x_fa 1 Try.underlying35 rfl rfl ts_3 (tmP rfl rfl)) ?_
  first
   | refine wl_v (x_load Try.underlying3 rfl (tmP rfl rfl) (cellB hS.ok 2 rfl rfl)) ?_
   | refine wl_v (x_load Try.underlying3 rfl (tmP rfl rfl) (cellB hS.ok 2 rfl (getm (by omega)))) ?_
  refine wl_v (x_minI (tmI rfl rfl) (ev_cN 65536)) ?_
  refine wl_v (x_move (ev_cN 0)) ?_
  refine wl_nil ?_
  refine then_n (hK5 _ _ ?_); clear hK5 K5
  refine wp_block ?_
  have hS := hS.pick [0, 2, 3, 4] rfl rfl
  refine lp [8, 9, 10, 19, 20, 21, 22, 23, 24, 25, 26, 27, 28, 29, 30, 31, 32, 33] (fun mz g w => ∃ (i : Nat), mz = 10 - i ∧ g 19 = .int .i64 (i : Int) ∧ g 8 = .int .u64 ((sc i : Nat) : Int) ∧ St [] w0 [.row (.slice (some ⟨gp, 0, none⟩) (1 + 4) (1 + 4)) 5 1 (1 + 4) (([5] ++ be m 4).map u8v), .blk g0_1 35 (mv ((m : Int), v)), .blk g0_0 43 (kC k), .vw B (b.map u8v)] w ∧ ((i : Int) ≤ max v 0)) ?_ ?_
  · exact ⟨_, 0, rfl, (by first | rfl | go_num | exact congrArg (Value.int _) (by first | omega | (simp; done) | (simp; omega))), (by first | rfl | go_num | exact congrArg (Value.int _) (by first | omega | (simp; done) | (simp; omega))), hS, (by omega)⟩
  · clear hS; intro mz g w hI
    obtain ⟨i, rfl, hs19, hs8, hS, hi⟩ := hI
    refine fr_know (d := 19) hs19 ?_; clear hs19
    refine fr_know (d := 8) hs8 ?_; clear hs8
    refine wp_seq_k ?_; intro K6 hK6
    refine wlit ?_
    refine wl_v (x_lss (tmI rfl rfl) (tmI rfl rfl)) ?_
    refine wl_nil ?_
    refine then_n (hK6 _ _ ?_); clear hK6 K6
    refine wp_seq_k ?_; intro K7 hK7
    refine cnd (tm rfl) (fun hc0 => ?_) (fun hc0 => ?_)
    · try (exfalso; first | with_reducible exact absurd hc0 Bool.false_ne_true | with_reducible exact absurd hc0.symm Bool.false_ne_true | (simp only [nrm] at hc0; omega) | (simp at hc0; done))
      all_goals
       try simp only [nrm] at hc0
       refine wp_skip ?_
       refine then_n (hK7 _ _ ?_); clear hK7 K7
       refine wp_seq_k ?_; intro K8 hK8
       refine wp_block ?_
       refine wp_seq_k ?_; intro K9 hK9
       refine wlit ?_
       refine wl_v (x_move (tmI rfl rfl)) ?_
       refine wl_v (x_assign (tmI rfl rfl)) ?_
       refine wl_nil ?_
       refine then_n (hK9 _ _ ?_); clear hK9 K9
       refine wp_seq_k ?_; intro K10 hK10
       refine wlit ?_
       refine wl_v (x_move (tmS rfl rfl)) ?_
       refine wl_v (x_move (tmI rfl rfl)) ?_
       first
        | refine wl_v (x_convN Try.underlying3 Try.underlying32 (tmI rfl rfl) (fit_u64 (by omega))) ?_
        | refine wl_v (x_convU Try.underlying3 Try.underlying32 (tmI rfl rfl) rfl) ?_
        | refine wl_v (x_conv Try.underlying3 Try.underlying32 (tmI rfl rfl)) ?_
       refine wl_e rfl ?_; intro K hK
       refine ow_call Try.func15 rfl rfl (evs_cons (tmS rfl rfl) <| evs_cons (tmI rfl rfl) <| evs_cons (ev_cN 2) <| evs_nil) (put_c 5 _ _ ([5] ++ be m 4) i 2 _ (viewR hS.ok 0 rfl) (by simp [be_length]) (by omega) (by omega) (by omega)) ?_
       rintro e w ⟨gq, rfl, hn1, hk⟩
       refine ⟨_, rfl, ?_⟩
       replace hS := hS.add hk hn1 -- +rowq
       clear hn1 hk
       refine hK _ _ ?_; clear hK K
       refine wl_v (x_move (tmS rfl rfl)) ?_
       refine wl_e rfl ?_; intro K hK
       first
        | (refine ow_append hS 0 1 rfl rfl Try.underlying24 tz_5 rfl (tmS rfl rfl) (tmS rfl rfl) rfl ⟨by decide, by decide, rfl⟩ (by simp only [maxLen]; omega) (by omega) ?_; clear hS; intro g6_5 cg6_5 w hS)
        | (refine ow_append hS 0 2 rfl rfl Try.underlying24 tz_5 rfl (tmS rfl rfl) (tmS rfl rfl) rfl ⟨by decide, by decide, rfl⟩ (by simp only [maxLen]; omega) (by omega) ?_; clear hS; intro g6_5 cg6_5 w hS)
        | (refine ow_append hS 0 3 rfl rfl Try.underlying24 tz_5 rfl (tmS rfl rfl) (tmS rfl rfl) rfl ⟨by decide, by decide, rfl⟩ (by simp only [maxLen]; omega) (by omega) ?_; clear hS; intro g6_5 cg6_5 w hS)
        | (refine ow_append hS 0 4 rfl rfl Try.underlying24 tz_5 rfl (tmS rfl rfl) (tmS rfl rfl) rfl ⟨by decide, by decide, rfl⟩ (by simp only [maxLen]; omega) (by omega) ?_; clear hS; intro g6_5 cg6_5 w hS)
        | (refine ow_append hS 1 0 rfl rfl Try.underlying24 tz_5 rfl (tmS rfl rfl) (tmS rfl rfl) rfl ⟨by decide, by decide, rfl⟩ (by simp only [maxLen]; omega) (by omega) ?_; clear hS; intro g6_5 cg6_5 w hS)
        | (refine ow_append hS 1 2 rfl rfl Try.underlying24 tz_5 rfl (tmS rfl rfl) (tmS rfl rfl) rfl ⟨by decide, by decide, rfl⟩ (by simp only [maxLen]; omega) (by omega) ?_; clear hS; intro g6_5 cg6_5 w hS)
        | (refine ow_append hS 1 3 rfl rfl Try.underlying24 tz_5 rfl (tmS rfl rfl) (tmS rfl rfl) rfl ⟨by decide, by decide, rfl⟩ (by simp only [maxLen]; omega) (by omega) ?_; clear hS; intro g6_5 cg6_5 w hS)
        | (refine ow_append hS 1 4 rfl rfl Try.underlying24 tz_5 rfl (tmS rfl rfl) (tmS rfl rfl) rfl ⟨by decide, by decide, rfl⟩ (by simp only [maxLen]; omega) (by omega) ?_; clear hS; intro g6_5 cg6_5 w hS)
        | (refine ow_appendV hS 0 rfl (viewR hS.ok 0 rfl) Try.underlying24 tz_5 rfl (tmS rfl rfl) (tmS rfl rfl) (by first | exact u8v_one _ | (intro u hu; simp at hu; first | (rcases hu with rfl | rfl <;> rfl) | (obtain ⟨_, _, rfl⟩ := hu; rfl))) ⟨by decide, by first | rfl | (simp; done) | (simp; omega)⟩ (by simp only [maxLen]; omega) (by omega) ?_; clear hS; intro g6_5 cg6_5 w hAg6_5 hCg6_5 hS)
        | (refine ow_appendV hS 0 rfl (viewR hS.ok 1 rfl) Try.underlying24 tz_5 rfl (tmS rfl rfl) (tmS rfl rfl) (by first | exact u8v_one _ | (intro u hu; simp at hu; first | (rcases hu with rfl | rfl <;> rfl) | (obtain ⟨_, _, rfl⟩ := hu; rfl))) ⟨by decide, by first | rfl | (simp; done) | (simp; omega)⟩ (by simp only [maxLen]; omega) (by omega) ?_; clear hS; intro g6_5 cg6_5 w hAg6_5 hCg6_5 hS)
        | (refine ow_appendV hS 0 rfl (viewV hS.ok 4 rfl) Try.underlying24 tz_5 rfl (tmS rfl rfl) (tmS rfl rfl) (by first | exact u8v_one _ | (intro u hu; simp at hu; first | (rcases hu with rfl | rfl <;> rfl) | (obtain ⟨_, _, rfl⟩ := hu; rfl))) ⟨by decide, by first | rfl | (simp; done) | (simp; omega)⟩ (by simp only [maxLen]; omega) (by omega) ?_; clear hS; intro g6_5 cg6_5 w hAg6_5 hCg6_5 hS)
        | (refine ow_appendV hS 0 rfl View.nil_ Try.underlying24 tz_5 rfl (tmS rfl rfl) (tmS rfl rfl) (by first | exact u8v_one _ | (intro u hu; simp at hu; first | (rcases hu with rfl | rfl <;> rfl) | (obtain ⟨_, _, rfl⟩ := hu; rfl))) ⟨by decide, by first | rfl | (simp; done) | (simp; omega)⟩ (by simp only [maxLen]; omega) (by omega) ?_; clear hS; intro g6_5 cg6_5 w hAg6_5 hCg6_5 hS)
        | (refine ow_appendV hS 1 rfl (viewR hS.ok 0 rfl) Try.underlying24 tz_5 rfl (tmS rfl rfl) (tmS rfl rfl) (by first | exact u8v_one _ | (intro u hu; simp at hu; first | (rcases hu with rfl | rfl <;> rfl) | (obtain ⟨_, _, rfl⟩ := hu; rfl))) ⟨by decide, by first | rfl | (simp; done) | (simp; omega)⟩ (by simp only [maxLen]; omega) (by omega) ?_; clear hS; intro g6_5 cg6_5 w hAg6_5 hCg6_5 hS)
        | (refine ow_appendV hS 1 rfl (viewR hS.ok 1 rfl) Try.underlying24 tz_5 rfl (tmS rfl rfl) (tmS rfl rfl) (by first | exact u8v_one _ | (intro u hu; simp at hu; first | (rcases hu with rfl | rfl <;> rfl) | (obtain ⟨_, _, rfl⟩ := hu; rfl))) ⟨by decide, by first | rfl | (simp; done) | (simp; omega)⟩ (by simp only [maxLen]; omega) (by omega) ?_; clear hS; intro g6_5 cg6_5 w hAg6_5 hCg6_5 hS)
        | (refine ow_appendV hS 1 rfl (viewV hS.ok 4 rfl) Try.underlying24 tz_5 rfl (tmS rfl rfl) (tmS rfl rfl) (by first | exact u8v_one _ | (intro u hu; simp at hu; first | (rcases hu with rfl | rfl <;> rfl) | (obtain ⟨_, _, rfl⟩ := hu; rfl))) ⟨by decide, by first | rfl | (simp; done) | (simp; omega)⟩ (by simp only [maxLen]; omega) (by omega) ?_; clear hS; intro g6_5 cg6_5 w hAg6_5 hCg6_5 hS)
        | (refine ow_appendV hS 1 rfl View.nil_ Try.underlying24 tz_5 rfl (tmS rfl rfl) (tmS rfl rfl) (by first | exact u8v_one _ | (intro u hu; simp at hu; first | (rcases hu with rfl | rfl <;> rfl) | (obtain ⟨_, _, rfl⟩ := hu; rfl))) ⟨by decide, by first | rfl | (simp; done) | (simp; omega)⟩ (by simp only [maxLen]; omega) (by omega) ?_; clear hS; intro g6_5 cg6_5 w hAg6_5 hCg6_5 hS)
       refine hK _ _ ?_; clear hK K
       refine wl_v (x_assign (tmS rfl rfl)) ?_
       refine wl_nil ?_
       refine then_n (hK10 _ _ ?_); clear hK10 K10
       refine wlit ?_
       refine wl_v (x_move (tmI rfl rfl)) ?_
       refine wl_v (x_loadA (cs := [_, _, _, _, _, _, _, _, _, _, _, _, _, _, _, _]) Try.underlying43 rfl ts_43 (tmP rfl rfl) (rangeB hS.ok 3 rfl rfl)) ?_
       refine wl_v (x_move (tmS rfl rfl)) ?_
       rw [← List.map_append, hte] at hS
       have hcap : 5 + 2 + nb ≤ cg6_5 := row_cap (hS.rowOk 0 rfl) (by decide)
       have hspi := hsp i
       have hsli := hsl i
       refine wl_e rfl ?_; intro K hK
       refine ow_call Try.func16 rfl rfl (evs_cons (tmA rfl rfl) <| evs_cons (tmS rfl rfl) <| evs_nil) (hsum i _ _ _ _ (viewR hS.ok 0 rfl) (by rw [htl]; omega) (by omega) hcap) ?_
       rintro e w ⟨rfl, hk⟩
       refine ⟨_, rfl, ?_⟩
       replace hS := hS.kept hk
       clear hk
       refine hK _ _ ?_; clear hK K
       first
        | refine wl_v (x_max (tmI rfl rfl) (tmI rfl rfl)) ?_
        | refine wl_v (x_maxI (tmI rfl rfl) (tmI rfl rfl)) ?_
       refine wl_v (x_assign (tmI rfl rfl)) ?_
       refine wl_nil ?_
       refine inb_n ?_
       refine then_n (hK8 _ _ ?_); clear hK8 K8
       refine wlit ?_
       first
        | refine wl_v (x_addN (tmI rfl rfl) (ev_cN 1) (fit_i64 (by omega))) ?_
        | refine wl_v (x_addI (tmI rfl rfl) (ev_cN 1) (IntWalk.i64_in _ (by omega))) ?_
        | refine wl_v (x_add (tmI rfl rfl) (ev_cN 1)) ?_
       refine wl_v (x_move (tmI rfl rfl)) ?_
       refine wl_nil ?_
       exact then_n ⟨_, _, rfl, (by show _ < _; omega), (by repeat (first | exact agree_self | exact agree_refl | refine agree_upd rfl ?_ | refine agree_mix rfl ?_)), i + 1, rfl, (by first | rfl | go_num | exact congrArg (Value.int _) (by first | omega | (simp; done) | (simp; omega))), (by first | rfl | (first | (rw [h00]; rfl) | (rw [hstep]; rfl); done) | (first | (rw [h00]; rfl) | (rw [hstep]; rfl); rfl) | (first | (rw [h00]; rfl) | (rw [hstep]; rfl); go_num)), hS.pick [1, 2, 3, 4] rfl rfl, (by omega)⟩
    try (exfalso; first | with_reducible exact absurd hc0 Bool.false_ne_true | with_reducible exact absurd hc0.symm Bool.false_ne_true | (simp only [nrm] at hc0; omega) | (simp at hc0; done))
    all_goals
     try simp only [nrm] at hc0
     refine wp_exit ?_
     refine then_x ?_; clear hK7 K7
     refine then_x ?_
     refine inb_x ?_
     refine then_n (hK4 _ _ ?_); clear hK4 K4
     refine wp_seq_k ?_; intro K11 hK11
     refine wlit ?_
     refine wl_v (x_move (tmI rfl rfl)) ?_
     refine wl_v (x_assign (tmI rfl rfl)) ?_
     refine wl_nil ?_
     refine then_n (hK11 _ _ ?_); clear hK11 K11
     refine wp_ret ?_
     refine ret1 rfl (.tmp rfl (show _ = Value.int _ _ from rfl)) ?_
     obtain rfl : v.toNat = i := by omega
     exact ⟨rfl, hS.kp⟩
theorem row_nilc {w : World} {A : Option Addr} {e : TypeId} {sz m n c : Nat} {xs : List Value} (h : w.ownsRow 0 e sz (.slice A m c) n xs) (hA : A = none) : c = 0 := by
  rcases h.2 with ⟨e0, h0⟩ | ⟨g, cap, cur, e0, h2, h3, h4, _⟩
  · injection e0 with _ e1 e2
  · rw [hA] at e0; cases e0
theorem joined_txt (A1 A2 A3 A4 : Option Addr) (c1 c2 c3 c4 m i : Nat) (b : List Nat) : joined [(A1, [5], c1), (A2, be m 4, c2), (A3, be i 2, c3), (A4, b, c4)] = txt m i b := by
  simp only [joined, txt, List.map_cons, List.map_nil, List.flatten_cons, List.flatten_nil, List.append_nil, List.append_assoc]
set_option maxRecDepth 100000 in
set_option maxHeartbeats 4000000 in
theorem rscore_c (k : Nat → Nat) (m : Nat) (v : Int) (B : Option Addr) (nb cb : Nat) (b : List Nat) (w0 : World) (hkb : Bytes (kL k)) (hv : View w0 w0.heap.size B (b.map u8v)) (hl : b.length = nb) (hb : Bytes b) (hn4 : nb ≤ 1000) (hm : m < 64) (hv7 : v ≤ 7) (hv0 : -1000 ≤ v) :
    Calls Try.prog 11 #[.agg (kC k).toArray, .agg (mv ((m : Int), v)).toArray, .slice B nb cb] w0 fun e w' => e = .returned (.int .u64 ((scF k b m v.toNat : Nat) : Int)) ∧ Kp [] w0 w' := by
  have hS := (St.sv w0).vcons rfl hv
  have hsl := scF_lt k b m
  have hsum := fun i w A (n c : Nat) hv h1 h2 h3 h4 => rsum_c k A n c (txt m i b) w hkb hv h1 (txt_bytes hb) h2 h3 h4
  have hstep : ∀ i, scF k b m (i + 1) = max (scF k b m i) (sipF k (txt m i b)) := fun i => rfl
  have htl := fun i => txt_len m i b
  have hsp := fun i => sipF_lt k (txt m i b)
  have h00 : scF k b m 0 = 0 := rfl
  generalize scF k b m = sc at *
  obtain ⟨sp, hse⟩ : ∃ sp : Nat → Nat, ∀ i, sipF k (txt m i b) = sp i := ⟨_, fun _ => rfl⟩
  simp only [hse] at hsum hstep hsp
  clear hse
  refine ent (n := 34) Try.func11 rfl rfl ?_
  refine wp_seq_k ?_; intro K1 hK1
  refine wlit ?_
  refine wl_e rfl ?_; intro K hK
  refine ow_box hS (tmA rfl rfl) rfl ?_
  clear hS; intro g0_0 w hg0_0 hS
  refine hK _ _ ?_; clear hK K
  refine wl_e rfl ?_; intro K hK
  refine ow_box hS (tmA rfl rfl) rfl ?_
  clear hS; intro g0_1 w hg0_1 hS
  refine hK _ _ ?_; clear hK K
  refine wl_v (x_assign (ev_cN 0)) ?_
  refine wl_nil ?_
  refine then_n (hK1 _ _ ?_); clear hK1 K1
  refine wp_seq_k ?_; intro K2 hK2
  refine wlit ?_
  refine wl_v (x_assign (ev_cN 0)) ?_
  refine wl_nil ?_
  refine then_n (hK2 _ _ ?_); clear hK2 K2
  refine wp_seq_k ?_; intro K3 hK3
  refine wp_seq_k ?_; intro K4 hK4
  refine wlit ?_
  refine wl_v (x_assign (ev_cN 0)) ?_
  refine wl_nil ?_
  refine then_n (hK4 _ _ ?_); clear hK4 K4
  refine wp_block ?_
  refine lp [7, 8, 9, 10, 11, 12, 13, 14, 15, 16, 17, 18, 19, 20, 21, 22, 23, 24, 25, 26, 27, 28, 29, 30, 31, 32] (fun mz g w => ∃ (i : Nat), mz = 10 - i ∧ g 8 = .int .i64 (i : Int) ∧ g 7 = .int .u64 ((sc i : Nat) : Int) ∧ St [] w0 [.blk g0_1 37 (mv ((m : Int), v)), .blk g0_0 22 (kC k), .vw B (b.map u8v)] w ∧ ((i : Int) ≤ max v 0)) ?_ ?_
  · exact ⟨_, 0, rfl, (by first | rfl | go_num | exact congrArg (Value.int _) (by first | omega | (simp; done) | (simp; omega))), (by first | rfl | go_num | exact congrArg (Value.int _) (by first | omega | (simp; done) | (simp; omega))), hS, (by omega)⟩
  · clear hS; intro mz g w hI
    obtain ⟨i, rfl, hs8, hs7, hS, hi⟩ := hI
    refine fr_know (d := 8) hs8 ?_; clear hs8
    refine fr_know (d := 7) hs7 ?_; clear hs7
    refine wp_seq_k ?_; intro K5 hK5
    refine wp_seq_k ?_; intro K6 hK6
    refine wlit ?_
    refine wl_v (x_move (tmI rfl rfl)) ?_
    refine wl_v (x_fa 1 Try.underlying37 rfl rfl ts_3 (tmP rfl rfl)) ?_
    first
     | refine wl_v (x_load Try.underlying3 rfl (tmP rfl rfl) (cellB hS.ok 0 rfl rfl)) ?_
     | refine wl_v (x_load Try.underlying3 rfl (tmP rfl rfl) (cellB hS.ok 0 rfl (getm (by omega)))) ?_
    refine wl_v (x_lss (tmI rfl rfl) (tmI rfl rfl)) ?_
    refine wl_nil ?_
    refine then_n (hK6 _ _ ?_); clear hK6 K6
    refine cnd (tm rfl) (fun hc0 => ?_) (fun hc0 => ?_)
    · try (exfalso; first | with_reducible exact absurd hc0 Bool.false_ne_true | with_reducible exact absurd hc0.symm Bool.false_ne_true | (simp only [nrm] at hc0; omega) | (simp at hc0; done))
      all_goals
       try simp only [nrm] at hc0
       refine wp_skip ?_
       refine then_n (hK5 _ _ ?_); clear hK5 K5
       refine wp_seq_k ?_; intro K7 hK7
       refine wp_block ?_
       refine wp_seq_k ?_; intro K8 hK8
       refine rg_startk 0 hS mixed_ ?_
       clear hS; intro w hS
       refine rg_take 0 rfl rfl (by kernel_rfl) (by kernel_rfl) (by kernel_rfl) (want_0) (fun w hok => x_loadA (cs := [_, _, _, _, _, _, _, _, _, _, _, _, _, _, _, _]) Try.underlying22 rfl ts_22 (tmP rfl rfl) (rangeB hok 1 rfl rfl)) ?_
       refine rg_take 2 rfl rfl (by kernel_rfl) (by kernel_rfl) (by kernel_rfl) (want_0) (fun w hok => x_fa 0 Try.underlying37 rfl rfl ts_3 (tmP rfl rfl)) ?_
       first
        | refine rg_take 3 rfl rfl (by kernel_rfl) (by kernel_rfl) (by kernel_rfl) (want_0) (fun w hok => x_load Try.underlying3 rfl (tmP rfl rfl) (cellB hok 0 rfl rfl)) ?_
        | refine rg_take 3 rfl rfl (by kernel_rfl) (by kernel_rfl) (by kernel_rfl) (want_0) (fun w hok => x_load Try.underlying3 rfl (tmP rfl rfl) (cellB hok 0 rfl (getm (by omega)))) ?_
       first
        | refine rg_take 4 rfl rfl (by kernel_rfl) (by kernel_rfl) (by kernel_rfl) (want_0) (fun w hok => x_convN Try.underlying3 Try.underlying32 (tmI rfl rfl) (fit_u64 (by omega))) ?_
        | refine rg_take 4 rfl rfl (by kernel_rfl) (by kernel_rfl) (by kernel_rfl) (want_0) (fun w hok => x_convU Try.underlying3 Try.underlying32 (tmI rfl rfl) rfl) ?_
        | refine rg_take 4 rfl rfl (by kernel_rfl) (by kernel_rfl) (by kernel_rfl) (want_0) (fun w hok => x_conv Try.underlying3 Try.underlying32 (tmI rfl rfl)) ?_
       refine rg_take 6 rfl rfl (by kernel_rfl) (by kernel_rfl) (by kernel_rfl) (want_0) (fun w hok => x_move (tmI rfl rfl)) ?_
       first
        | refine rg_take 7 rfl rfl (by kernel_rfl) (by kernel_rfl) (by kernel_rfl) (want_0) (fun w hok => x_convN Try.underlying3 Try.underlying32 (tmI rfl rfl) (fit_u64 (by omega))) ?_
        | refine rg_take 7 rfl rfl (by kernel_rfl) (by kernel_rfl) (by kernel_rfl) (want_0) (fun w hok => x_convU Try.underlying3 Try.underlying32 (tmI rfl rfl) rfl) ?_
        | refine rg_take 7 rfl rfl (by kernel_rfl) (by kernel_rfl) (by kernel_rfl) (want_0) (fun w hok => x_conv Try.underlying3 Try.underlying32 (tmI rfl rfl)) ?_
       refine rg_take 9 rfl rfl (by kernel_rfl) (by kernel_rfl) (by kernel_rfl) (want_0) (fun w hok => x_move (tmS rfl rfl)) ?_
       refine rg_step2 1 5 rfl rfl (by kernel_rfl) (want_0) (want_0) (oks_drop hS 0 rfl) ?_ ?_
       · intro K hK
         refine ow_build hS Try.underlying24 tz_5 (bc_take (ev_cN 5) <| bc_nil) rfl rfl (by kernel_rfl) ?_
         clear hS; intro g5_1 w hg5_1 hS
         refine hK _ _ ?_; clear hK K
         refine rg_step 5 rfl (by kernel_rfl) (want_0) (oks_drop hS 1 rfl) ?_; intro K hK
         refine ow_call Try.func19 rfl rfl (evs_cons (tmI rfl rfl) <| evs_cons (ev_cN 4) <| evs_nil) (rbytes_c m 4 _ (by omega) (by omega)) ?_
         rintro e w ⟨ga, rfl, hn, hk⟩
         refine ⟨_, rfl, ?_⟩
         replace hS := hS.add hk hn -- +rowa
         clear hn hk
         refine hK _ _ ?_; clear hK K
         refine rg_step 8 rfl (by kernel_rfl) (want_0) (oks_drop hS 2 rfl) ?_; intro K hK
         refine ow_call Try.func19 rfl rfl (evs_cons (tmI rfl rfl) <| evs_cons (ev_cN 2) <| evs_nil) (rbytes_c i 2 _ (by omega) (by omega)) ?_
         rintro e w ⟨gb, rfl, hn, hk⟩
         refine ⟨_, rfl, ?_⟩
         replace hS := hS.add hk hn -- +rowb
         clear hn hk
         refine hK _ _ ?_; clear hK K
         refine rg_step 10 rfl (by kernel_rfl) (want_0) (oks_drop hS 3 rfl) ?_; intro K hK
         refine ow_build hS Try.underlying55 tz_24 (bc_take (tmS rfl rfl) <| bc_take (tmS rfl rfl) <| bc_take (tmS rfl rfl) <| bc_take (tmS rfl rfl) <| bc_nil) rfl rfl (by kernel_rfl) ?_
         clear hS; intro g5_10 w hg5_10 hS
         refine hK _ _ ?_; clear hK K
         refine rg_step 11 rfl (by kernel_rfl) (want_0) (oks_drop hS 4 rfl) ?_; intro K hK
         refine ow_call Try.func18 rfl rfl (evs_cons (tmS rfl rfl) <| evs_nil) (join_c 4 _ _ [(some ⟨g5_1, 0, none⟩, [5], 1), (some ⟨ga, 0, none⟩, be m 4, 4), (some ⟨gb, 0, none⟩, be i 2, 2), (B, b, cb)] _ (by have h := viewB hS.ok 0 rfl; simp only [List.map_cons, List.map_nil, rowV, be_length, hl]; exact h) (seen_cons (viewB hS.ok 3 rfl) <| seen_cons (viewR hS.ok 2 rfl) <| seen_cons (viewR hS.ok 1 rfl) <| seen_cons (viewV hS.ok 6 rfl) seen_nil) rfl (by omega) (by rw [joined_txt, htl]; omega)) ?_
         rintro e w ⟨Aj, mj, cj, hmj, rfl, hn, hk⟩
         refine ⟨_, rfl, ?_⟩
         rw [joined_txt] at hn hmj
         replace hS := hS.add hk hn -- +rowj
         clear hn hk
         have hcap : mj ≤ cj := row_cap (hS.rowOk 0 rfl) (by decide)
         have hnj : Aj = none → cj = 0 := row_nilc (hS.rowOk 0 rfl)
         have hspi := hsp i
         have hsli := hsl i
         refine hK _ _ ?_; clear hK K
         refine rg_step 12 rfl (by kernel_rfl) (want_0) (oks_drop hS 5 rfl) ?_; intro K hK
         refine ow_call Try.func17 rfl rfl (evs_cons (tmA rfl rfl) <| evs_cons (tmS rfl rfl) <| evs_nil) (hsum i _ _ _ _ (viewR hS.ok 0 rfl) hmj.symm (by rw [hmj, htl]; omega) hcap hnj) ?_
         rintro e w ⟨rfl, hk⟩
         refine ⟨_, rfl, ?_⟩
         replace hS := hS.kept hk
         clear hk
         refine hK _ _ ?_; clear hK K
         refine rg_take 13 rfl rfl (by kernel_rfl) (by kernel_rfl) (by kernel_rfl) (want_0) (fun w hok => x_assign (tmI rfl rfl)) ?_
         refine rg_done (oks_drop hS 5 rfl) (by kernel_rfl) ?_
         refine then_n (hK8 _ _ ?_); clear hK8 K8
         refine wp_seq_k ?_; intro K9 hK9
         refine wlit ?_
         refine wl_v (x_move (tmI rfl rfl)) ?_
         refine wl_v (x_move (tmI rfl rfl)) ?_
         refine wl_v (x_gtr (tmI rfl rfl) (tmI rfl rfl)) ?_
         refine wl_nil ?_
         refine then_n (hK9 _ _ ?_); clear hK9 K9
         refine cnd (tm rfl) (fun hc1 => ?_) (fun hc1 => ?_)
         · try (exfalso; first | with_reducible exact absurd hc1 Bool.false_ne_true | with_reducible exact absurd hc1.symm Bool.false_ne_true | (simp only [nrm] at hc1; omega) | (simp at hc1; done))
           all_goals
            try simp only [nrm] at hc1
            have hmx : sc (i + 1) = sp i := by rw [hstep]; omega
            refine wlit ?_
            refine wl_v (x_move (tmI rfl rfl)) ?_
            refine wl_v (x_assign (tmI rfl rfl)) ?_
            refine wl_nil ?_
            refine inb_n ?_
            refine then_n (hK7 _ _ ?_); clear hK7 K7
            refine wlit ?_
            refine wl_v (x_move (tmI rfl rfl)) ?_
            first
             | refine wl_v (x_addN (tmI rfl rfl) (ev_cN 1) (fit_i64 (by omega))) ?_
             | refine wl_v (x_addI (tmI rfl rfl) (ev_cN 1) (IntWalk.i64_in _ (by omega))) ?_
             | refine wl_v (x_add (tmI rfl rfl) (ev_cN 1)) ?_
            refine wl_v (x_assign (tmI rfl rfl)) ?_
            refine wl_nil ?_
            exact then_n ⟨_, _, rfl, (by show _ < _; omega), (by repeat (first | exact agree_self | exact agree_refl | refine agree_upd rfl ?_ | refine agree_mix rfl ?_)), i + 1, rfl, (by first | rfl | go_num | exact congrArg (Value.int _) (by first | omega | (simp; done) | (simp; omega))), (by first | rfl | (first | (rw [h00]; rfl) | (rw [hmx]; done) | (rw [hmx]; rfl); done) | (first | (rw [h00]; rfl) | (rw [hmx]; done) | (rw [hmx]; rfl); rfl) | (first | (rw [h00]; rfl) | (rw [hmx]; done) | (rw [hmx]; rfl); go_num)), hS.pick [5, 6, 7] rfl rfl, (by omega)⟩
         try (exfalso; first | with_reducible exact absurd hc1 Bool.false_ne_true | with_reducible exact absurd hc1.symm Bool.false_ne_true | (simp only [nrm] at hc1; omega) | (simp at hc1; done))
         all_goals
          try simp only [nrm] at hc1
          have hmx : sc (i + 1) = sc i := by rw [hstep]; omega
          refine wp_skip ?_
          refine inb_n ?_
          refine then_n (hK7 _ _ ?_); clear hK7 K7
          refine wlit ?_
          refine wl_v (x_move (tmI rfl rfl)) ?_
          first
           | refine wl_v (x_addN (tmI rfl rfl) (ev_cN 1) (fit_i64 (by omega))) ?_
           | refine wl_v (x_addI (tmI rfl rfl) (ev_cN 1) (IntWalk.i64_in _ (by omega))) ?_
           | refine wl_v (x_add (tmI rfl rfl) (ev_cN 1)) ?_
          refine wl_v (x_assign (tmI rfl rfl)) ?_
          refine wl_nil ?_
          exact then_n ⟨_, _, rfl, (by show _ < _; omega), (by repeat (first | exact agree_self | exact agree_refl | refine agree_upd rfl ?_ | refine agree_mix rfl ?_)), i + 1, rfl, (by first | rfl | go_num | exact congrArg (Value.int _) (by first | omega | (simp; done) | (simp; omega))), (by first | rfl | (first | (rw [h00]; rfl) | (rw [hmx]; done) | (rw [hmx]; rfl); done) | (first | (rw [h00]; rfl) | (rw [hmx]; done) | (rw [hmx]; rfl); rfl) | (first | (rw [h00]; rfl) | (rw [hmx]; done) | (rw [hmx]; rfl); go_num)), hS.pick [5, 6, 7] rfl rfl, (by omega)⟩
       · intro K hK
         refine ow_call Try.func19 rfl rfl (evs_cons (tmI rfl rfl) <| evs_cons (ev_cN 4) <| evs_nil) (rbytes_c m 4 _ (by omega) (by omega)) ?_
         rintro e w ⟨ga, rfl, hn, hk⟩
         refine ⟨_, rfl, ?_⟩
         replace hS := hS.add hk hn -- +rowa
         clear hn hk
         refine hK _ _ ?_; clear hK K
         refine rg_step2 1 8 rfl rfl (by kernel_rfl) (want_0) (want_0) (oks_drop hS 1 rfl) ?_ ?_
         · intro K hK
           refine ow_build hS Try.underlying24 tz_5 (bc_take (ev_cN 5) <| bc_nil) rfl rfl (by kernel_rfl) ?_
           clear hS; intro g5_1 w hg5_1 hS
           refine hK _ _ ?_; clear hK K
           refine rg_step 8 rfl (by kernel_rfl) (want_0) (oks_drop hS 2 rfl) ?_; intro K hK
           refine ow_call Try.func19 rfl rfl (evs_cons (tmI rfl rfl) <| evs_cons (ev_cN 2) <| evs_nil) (rbytes_c i 2 _ (by omega) (by omega)) ?_
           rintro e w ⟨gb, rfl, hn, hk⟩
           refine ⟨_, rfl, ?_⟩
           replace hS := hS.add hk hn -- +rowb
           clear hn hk
           refine hK _ _ ?_; clear hK K
           refine rg_step 10 rfl (by kernel_rfl) (want_0) (oks_drop hS 3 rfl) ?_; intro K hK
           refine ow_build hS Try.underlying55 tz_24 (bc_take (tmS rfl rfl) <| bc_take (tmS rfl rfl) <| bc_take (tmS rfl rfl) <| bc_take (tmS rfl rfl) <| bc_nil) rfl rfl (by kernel_rfl) ?_
           clear hS; intro g5_10 w hg5_10 hS
           refine hK _ _ ?_; clear hK K
           refine rg_step 11 rfl (by kernel_rfl) (want_0) (oks_drop hS 4 rfl) ?_; intro K hK
           refine ow_call Try.func18 rfl rfl (evs_cons (tmS rfl rfl) <| evs_nil) (join_c 4 _ _ [(some ⟨g5_1, 0, none⟩, [5], 1), (some ⟨ga, 0, none⟩, be m 4, 4), (some ⟨gb, 0, none⟩, be i 2, 2), (B, b, cb)] _ (by have h := viewB hS.ok 0 rfl; simp only [List.map_cons, List.map_nil, rowV, be_length, hl]; exact h) (seen_cons (viewB hS.ok 2 rfl) <| seen_cons (viewR hS.ok 3 rfl) <| seen_cons (viewR hS.ok 1 rfl) <| seen_cons (viewV hS.ok 6 rfl) seen_nil) rfl (by omega) (by rw [joined_txt, htl]; omega)) ?_
           rintro e w ⟨Aj, mj, cj, hmj, rfl, hn, hk⟩
           refine ⟨_, rfl, ?_⟩
           rw [joined_txt] at hn hmj
           replace hS := hS.add hk hn -- +rowj
           clear hn hk
           have hcap : mj ≤ cj := row_cap (hS.rowOk 0 rfl) (by decide)
           have hnj : Aj = none → cj = 0 := row_nilc (hS.rowOk 0 rfl)
           have hspi := hsp i
           have hsli := hsl i
           refine hK _ _ ?_; clear hK K
           refine rg_step 12 rfl (by kernel_rfl) (want_0) (oks_drop hS 5 rfl) ?_; intro K hK
           refine ow_call Try.func17 rfl rfl (evs_cons (tmA rfl rfl) <| evs_cons (tmS rfl rfl) <| evs_nil) (hsum i _ _ _ _ (viewR hS.ok 0 rfl) hmj.symm (by rw [hmj, htl]; omega) hcap hnj) ?_
           rintro e w ⟨rfl, hk⟩
           refine ⟨_, rfl, ?_⟩
           replace hS := hS.kept hk
           clear hk
           refine hK _ _ ?_; clear hK K
           refine rg_take 13 rfl rfl (by kernel_rfl) (by kernel_rfl) (by kernel_rfl) (want_0) (fun w hok => x_assign (tmI rfl rfl)) ?_
           refine rg_done (oks_drop hS 5 rfl) (by kernel_rfl) ?_
           refine then_n (hK8 _ _ ?_); clear hK8 K8
           refine wp_seq_k ?_; intro K10 hK10
           refine wlit ?_
           refine wl_v (x_move (tmI rfl rfl)) ?_
           refine wl_v (x_move (tmI rfl rfl)) ?_
           refine wl_v (x_gtr (tmI rfl rfl) (tmI rfl rfl)) ?_
           refine wl_nil ?_
           refine then_n (hK10 _ _ ?_); clear hK10 K10
           refine cnd (tm rfl) (fun hc1 => ?_) (fun hc1 => ?_)
           · try (exfalso; first | with_reducible exact absurd hc1 Bool.false_ne_true | with_reducible exact absurd hc1.symm Bool.false_ne_true | (simp only [nrm] at hc1; omega) | (simp at hc1; done))
             all_goals
              try simp only [nrm] at hc1
              have hmx : sc (i + 1) = sp i := by rw [hstep]; omega
              refine wlit ?_
              refine wl_v (x_move (tmI rfl rfl)) ?_
              refine wl_v (x_assign (tmI rfl rfl)) ?_
              refine wl_nil ?_
              refine inb_n ?_
              refine then_n (hK7 _ _ ?_); clear hK7 K7
              refine wlit ?_
              refine wl_v (x_move (tmI rfl rfl)) ?_
              first
               | refine wl_v (x_addN (tmI rfl rfl) (ev_cN 1) (fit_i64 (by omega))) ?_
               | refine wl_v (x_addI (tmI rfl rfl) (ev_cN 1) (IntWalk.i64_in _ (by omega))) ?_
               | refine wl_v (x_add (tmI rfl rfl) (ev_cN 1)) ?_
              refine wl_v (x_assign (tmI rfl rfl)) ?_
              refine wl_nil ?_
              exact then_n ⟨_, _, rfl, (by show _ < _; omega), (by repeat (first | exact agree_self | exact agree_refl | refine agree_upd rfl ?_ | refine agree_mix rfl ?_)), i + 1, rfl, (by first | rfl | go_num | exact congrArg (Value.int _) (by first | omega | (simp; done) | (simp; omega))), (by first | rfl | (first | (rw [h00]; rfl) | (rw [hmx]; done) | (rw [hmx]; rfl); done) | (first | (rw [h00]; rfl) | (rw [hmx]; done) | (rw [hmx]; rfl); rfl) | (first | (rw [h00]; rfl) | (rw [hmx]; done) | (rw [hmx]; rfl); go_num)), hS.pick [5, 6, 7] rfl rfl, (by omega)⟩
           try (exfalso; first | with_reducible exact absurd hc1 Bool.false_ne_true | with_reducible exact absurd hc1.symm Bool.false_ne_true | (simp only [nrm] at hc1; omega) | (simp at hc1; done))
           all_goals
            try simp only [nrm] at hc1
            have hmx : sc (i + 1) = sc i := by rw [hstep]; omega
            refine wp_skip ?_
            refine inb_n ?_
            refine then_n (hK7 _ _ ?_); clear hK7 K7
            refine wlit ?_
            refine wl_v (x_move (tmI rfl rfl)) ?_
            first
             | refine wl_v (x_addN (tmI rfl rfl) (ev_cN 1) (fit_i64 (by omega))) ?_
             | refine wl_v (x_addI (tmI rfl rfl) (ev_cN 1) (IntWalk.i64_in _ (by omega))) ?_
             | refine wl_v (x_add (tmI rfl rfl) (ev_cN 1)) ?_
            refine wl_v (x_assign (tmI rfl rfl)) ?_
            refine wl_nil ?_
            exact then_n ⟨_, _, rfl, (by show _ < _; omega), (by repeat (first | exact agree_self | exact agree_refl | refine agree_upd rfl ?_ | refine agree_mix rfl ?_)), i + 1, rfl, (by first | rfl | go_num | exact congrArg (Value.int _) (by first | omega | (simp; done) | (simp; omega))), (by first | rfl | (first | (rw [h00]; rfl) | (rw [hmx]; done) | (rw [hmx]; rfl); done) | (first | (rw [h00]; rfl) | (rw [hmx]; done) | (rw [hmx]; rfl); rfl) | (first | (rw [h00]; rfl) | (rw [hmx]; done) | (rw [hmx]; rfl); go_num)), hS.pick [5, 6, 7] rfl rfl, (by omega)⟩
         · intro K hK
           refine ow_call Try.func19 rfl rfl (evs_cons (tmI rfl rfl) <| evs_cons (ev_cN 2) <| evs_nil) (rbytes_c i 2 _ (by omega) (by omega)) ?_
           rintro e w ⟨gb, rfl, hn, hk⟩
           refine ⟨_, rfl, ?_⟩
           replace hS := hS.add hk hn -- +rowb
           clear hn hk
           refine hK _ _ ?_; clear hK K
           refine rg_step 1 rfl (by kernel_rfl) (want_0) (oks_drop hS 2 rfl) ?_; intro K hK
           refine ow_build hS Try.underlying24 tz_5 (bc_take (ev_cN 5) <| bc_nil) rfl rfl (by kernel_rfl) ?_
           clear hS; intro g5_1 w hg5_1 hS
           refine hK _ _ ?_; clear hK K
           refine rg_step 10 rfl (by kernel_rfl) (want_0) (oks_drop hS 3 rfl) ?_; intro K hK
           refine ow_build hS Try.underlying55 tz_24 (bc_take (tmS rfl rfl) <| bc_take (tmS rfl rfl) <| bc_take (tmS rfl rfl) <| bc_take (tmS rfl rfl) <| bc_nil) rfl rfl (by kernel_rfl) ?_
           clear hS; intro g5_10 w hg5_10 hS
           refine hK _ _ ?_; clear hK K
           refine rg_step 11 rfl (by kernel_rfl) (want_0) (oks_drop hS 4 rfl) ?_; intro K hK
           refine ow_call Try.func18 rfl rfl (evs_cons (tmS rfl rfl) <| evs_nil) (join_c 4 _ _ [(some ⟨g5_1, 0, none⟩, [5], 1), (some ⟨ga, 0, none⟩, be m 4, 4), (some ⟨gb, 0, none⟩, be i 2, 2), (B, b, cb)] _ (by have h := viewB hS.ok 0 rfl; simp only [List.map_cons, List.map_nil, rowV, be_length, hl]; exact h) (seen_cons (viewB hS.ok 1 rfl) <| seen_cons (viewR hS.ok 3 rfl) <| seen_cons (viewR hS.ok 2 rfl) <| seen_cons (viewV hS.ok 6 rfl) seen_nil) rfl (by omega) (by rw [joined_txt, htl]; omega)) ?_
           rintro e w ⟨Aj, mj, cj, hmj, rfl, hn, hk⟩
           refine ⟨_, rfl, ?_⟩
           rw [joined_txt] at hn hmj
           replace hS := hS.add hk hn -- +rowj
           clear hn hk
           have hcap : mj ≤ cj := row_cap (hS.rowOk 0 rfl) (by decide)
           have hnj : Aj = none → cj = 0 := row_nilc (hS.rowOk 0 rfl)
           have hspi := hsp i
           have hsli := hsl i
           refine hK _ _ ?_; clear hK K
           refine rg_step 12 rfl (by kernel_rfl) (want_0) (oks_drop hS 5 rfl) ?_; intro K hK
           refine ow_call Try.func17 rfl rfl (evs_cons (tmA rfl rfl) <| evs_cons (tmS rfl rfl) <| evs_nil) (hsum i _ _ _ _ (viewR hS.ok 0 rfl) hmj.symm (by rw [hmj, htl]; omega) hcap hnj) ?_
           rintro e w ⟨rfl, hk⟩
           refine ⟨_, rfl, ?_⟩
           replace hS := hS.kept hk
           clear hk
           refine hK _ _ ?_; clear hK K
           refine rg_take 13 rfl rfl (by kernel_rfl) (by kernel_rfl) (by kernel_rfl) (want_0) (fun w hok => x_assign (tmI rfl rfl)) ?_
           refine rg_done (oks_drop hS 5 rfl) (by kernel_rfl) ?_
           refine then_n (hK8 _ _ ?_); clear hK8 K8
           refine wp_seq_k ?_; intro K11 hK11
           refine wlit ?_
           refine wl_v (x_move (tmI rfl rfl)) ?_
           refine wl_v (x_move (tmI rfl rfl)) ?_
           refine wl_v (x_gtr (tmI rfl rfl) (tmI rfl rfl)) ?_
           refine wl_nil ?_
           refine then_n (hK11 _ _ ?_); clear hK11 K11
           refine cnd (tm rfl) (fun hc1 => ?_) (fun hc1 => ?_)
           · try (exfalso; first | with_reducible exact absurd hc1 Bool.false_ne_true | with_reducible exact absurd hc1.symm Bool.false_ne_true | (simp only [nrm] at hc1; omega) | (simp at hc1; done))
             all_goals
              try simp only [nrm] at hc1
              have hmx : sc (i + 1) = sp i := by rw [hstep]; omega
              refine wlit ?_
              refine wl_v (x_move (tmI rfl rfl)) ?_
              refine wl_v (x_assign (tmI rfl rfl)) ?_
              refine wl_nil ?_
              refine inb_n ?_
              refine then_n (hK7 _ _ ?_); clear hK7 K7
              refine wlit ?_
              refine wl_v (x_move (tmI rfl rfl)) ?_
              first
               | refine wl_v (x_addN (tmI rfl rfl) (ev_cN 1) (fit_i64 (by omega))) ?_
               | refine wl_v (x_addI (tmI rfl rfl) (ev_cN 1) (IntWalk.i64_in _ (by omega))) ?_
               | refine wl_v (x_add (tmI rfl rfl) (ev_cN 1)) ?_
              refine wl_v (x_assign (tmI rfl rfl)) ?_
              refine wl_nil ?_
              exact then_n ⟨_, _, rfl, (by show _ < _; omega), (by repeat (first | exact agree_self | exact agree_refl | refine agree_upd rfl ?_ | refine agree_mix rfl ?_)), i + 1, rfl, (by first | rfl | go_num | exact congrArg (Value.int _) (by first | omega | (simp; done) | (simp; omega))), (by first | rfl | (first | (rw [h00]; rfl) | (rw [hmx]; done) | (rw [hmx]; rfl); done) | (first | (rw [h00]; rfl) | (rw [hmx]; done) | (rw [hmx]; rfl); rfl) | (first | (rw [h00]; rfl) | (rw [hmx]; done) | (rw [hmx]; rfl); go_num)), hS.pick [5, 6, 7] rfl rfl, (by omega)⟩
           try (exfalso; first | with_reducible exact absurd hc1 Bool.false_ne_true | with_reducible exact absurd hc1.symm Bool.false_ne_true | (simp only [nrm] at hc1; omega) | (simp at hc1; done))
           all_goals
            try simp only [nrm] at hc1
            have hmx : sc (i + 1) = sc i := by rw [hstep]; omega
            refine wp_skip ?_
            refine inb_n ?_
            refine then_n (hK7 _ _ ?_); clear hK7 K7
            refine wlit ?_
            refine wl_v (x_move (tmI rfl rfl)) ?_
            first
             | refine wl_v (x_addN (tmI rfl rfl) (ev_cN 1) (fit_i64 (by omega))) ?_
             | refine wl_v (x_addI (tmI rfl rfl) (ev_cN 1) (IntWalk.i64_in _ (by omega))) ?_
             | refine wl_v (x_add (tmI rfl rfl) (ev_cN 1)) ?_
            refine wl_v (x_assign (tmI rfl rfl)) ?_
            refine wl_nil ?_
            exact then_n ⟨_, _, rfl, (by show _ < _; omega), (by repeat (first | exact agree_self | exact agree_refl | refine agree_upd rfl ?_ | refine agree_mix rfl ?_)), i + 1, rfl, (by first | rfl | go_num | exact congrArg (Value.int _) (by first | omega | (simp; done) | (simp; omega))), (by first | rfl | (first | (rw [h00]; rfl) | (rw [hmx]; done) | (rw [hmx]; rfl); done) | (first | (rw [h00]; rfl) | (rw [hmx]; done) | (rw [hmx]; rfl); rfl) | (first | (rw [h00]; rfl) | (rw [hmx]; done) | (rw [hmx]; rfl); go_num)), hS.pick [5, 6, 7] rfl rfl, (by omega)⟩
    try (exfalso; first | with_reducible exact absurd hc0 Bool.false_ne_true | with_reducible exact absurd hc0.symm Bool.false_ne_true | (simp only [nrm] at hc0; omega) | (simp at hc0; done))
    all_goals
     try simp only [nrm] at hc0
     refine wp_exit ?_
     refine then_x ?_; clear hK5 K5
     refine then_x ?_
     refine inb_x ?_
     refine then_n (hK3 _ _ ?_); clear hK3 K3
     refine wp_seq_k ?_; intro K12 hK12
     refine wlit ?_
     refine wl_v (x_move (tmI rfl rfl)) ?_
     refine wl_v (x_assign (tmI rfl rfl)) ?_
     refine wl_nil ?_
     refine then_n (hK12 _ _ ?_); clear hK12 K12
     refine wp_ret ?_
     refine ret1 rfl (.tmp rfl (show _ = Value.int _ _ from rfl)) ?_
     obtain rfl : v.toNat = i := by omega
     exact ⟨rfl, hS.kp⟩
end Go.Proofs.Ytgfmjgfeiokcdaa
