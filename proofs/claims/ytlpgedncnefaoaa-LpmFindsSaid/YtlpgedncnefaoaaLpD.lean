
/- lpm: the reference's Cut, walked. Conditions: none but bounds. -/
import Derived.Test.YtlpgedncnefaoaaLpC
namespace Go.Proofs.Ytlpgedncnefaoaa
open Go.ChangeShapes Go.WideShapes Go.ChangeAt Go.RowKit
set_option maxRecDepth 100000 in
set_option maxHeartbeats 4000000 in
theorem rad_of4_c (A : Option Addr) (c : Nat) (l : List Nat) (w0 : World) (hv : View w0 w0.heap.size A (l.map u8v)) (hl : l.length = 4) (hc : 4 ≤ c) (hb : Bytes l) :
    Calls Try.prog 33 #[.slice A 4 c] w0 fun e w' => e = .returned (.tuple #[.agg (Ad.V ⟨false, 0, numBE l⟩).toArray, .bool true]) ∧ Kp [] w0 w' := by
  have hS := (St.sv w0).vcons rfl hv
  refine ent (n := 21) Try.func33 rfl rfl ?_
  refine wp_seq_k ?_; intro K1 hK1
  refine wlit ?_
  refine wl_e rfl ?_; intro K hK
  refine ow_alloc hS tz_25 rfl ?_
  clear hS; intro g0_0 w hg0_0 hS
  refine hK _ _ ?_; clear hK K
  refine wl_v (x_assign ev_c) ?_
  refine wl_nil ?_
  refine then_n (hK1 _ _ ?_); clear hK1 K1
  refine wp_seq_k ?_; intro K2 hK2
  refine wp_seq_k ?_; intro K3 hK3
  refine wlit ?_
  refine wl_v (x_move (tmS rfl rfl)) ?_
  refine wl_v (x_len Try.underlying70 (tmS rfl rfl)) ?_
  refine wl_v (x_eql (tmI rfl rfl) (ev_cN 4)) ?_
  refine wl_nil ?_
  refine then_n (hK3 _ _ ?_); clear hK3 K3
  refine cnds (tm rfl) (fun hc0 => ?_) (fun hc0 => ?_)
  · exfalso
    simp at hc0
  try (exfalso; first | with_reducible exact absurd hc0 Bool.false_ne_true | with_reducible exact absurd hc0.symm Bool.false_ne_true | (simp only [nrm] at hc0; omega) | (simp at hc0; done))
  all_goals
   try simp only [nrm] at hc0
   refine wp_seq_k ?_; intro K4 hK4
   refine wlit ?_
   refine wl_v (x_move (tmS rfl rfl)) ?_
   refine wl_e rfl ?_; intro K hK
   refine ow_call Try.func36 rfl rfl (evs_cons (tmS rfl rfl) <| evs_nil) (rnum_c 4 _ _ l _ (viewV hS.ok 1 rfl) hl hb (by omega)) ?_
   rintro e w ⟨rfl, hk⟩
   refine ⟨_, rfl, ?_⟩
   replace hS := hS.kept hk
   clear hk
   refine hK _ _ ?_; clear hK K
   refine wl_v (x_build (bc_skip (.bool false) <| bc_skip (.int .u64 0) <| bc_take (tmI rfl rfl) <| bc_nil) (by kernel_rfl)) ?_
   refine wl_e rfl ?_; intro K hK
   refine ow_storeA hS 0 rfl ts_25 (tmP rfl rfl) (tmA rfl rfl) rfl rfl rfl ?_
   clear hS; intro w hS
   try replace hS := St.nm (M' := [.blk _ _ [_, _, _], .vw _ _]) hS rfl
   refine hK _ _ ?_; clear hK K
   refine wl_v (x_assign ev_c) ?_
   refine wl_nil ?_
   refine then_n (hK4 _ _ ?_); clear hK4 K4
   refine wp_ret ?_
   refine then_r ?_
   refine ret2 rfl (.cell rfl rfl (load_rowB (cs := [_, _, _]) hS.ok 0 rfl Try.underlying25 rfl ts_25 rfl)) (.tmp rfl (show _ = Value.bool _ from rfl)) ?_
   exact ⟨rfl, hS.kp⟩
def ofL (six : Bool) (L : List Nat) : Ad := if six then ⟨true, getN L 0 8, getN L 8 8⟩ else ⟨false, 0, numBE L⟩
theorem rof_j (a : Ad) (A : Option Addr) (c : Nat) (l : List Nat) (n : Nat) (hn : n = adN a) (w0 : World) (hv : View w0 w0.heap.size A (l.map u8v)) (hl : l.length = n) (hc : n ≤ c) (hb : Bytes l) :
    Calls Try.prog 33 #[.slice A n c] w0 fun e w' => e = .returned (.tuple #[.agg (Ad.V (ofL a.six l)).toArray, .bool true]) ∧ Kp [] w0 w' := by
  obtain ⟨six, high, low⟩ := a
  subst hn
  cases six with
  | false => exact rad_of4_c A c l w0 hv hl hc hb
  | true => exact rad_of16_c A c l w0 hv hl hc hb
theorem kbL_bytes {l : List Nat} (hb : Bytes l) (m i j : Nat) (hj : j < 8) : Bytes (kbL l m i j) := by
  intro x hx
  unfold kbL at hx
  obtain ⟨p, hp, rfl⟩ := List.mem_map.1 hx
  have h0 := nth_lt hb p
  unfold kbV
  split
  · have h8 := (kb_all ⟨nth l p, h0⟩ ⟨hpB m p, by unfold hpB; omega⟩ ⟨7, by omega⟩)
    obtain ⟨a1, a2, a3, a4⟩ := h8
    have e7 : kb (hpB m p) 8 (nth l p) ≤ kb (hpB m p) 7 (nth l p) := by
      by_cases hh : 7 < hpB m p
      · exact Nat.le_of_eq (a2 hh)
      · by_cases h1 : kb (hpB m p) 7 (nth l p) / 2 ^ (7 - 7) % 2 = 1
        · have := (a4 (by show hpB m p ≤ 7; omega) h1).2
          have e : kb (hpB m p) 8 (nth l p) = kb (hpB m p) 7 (nth l p) - 2 ^ (7 - 7) := this
          omega
        · exact Nat.le_of_eq (a3 (by show hpB m p ≤ 7; omega) h1)
    have a1' : kb (hpB m p) 7 (nth l p) < 256 := a1
    omega
  · split
    · have := (kb_step hb m p j hj).1
      omega
    · omega
set_option maxRecDepth 100000 in
set_option maxHeartbeats 8000000 in
theorem rlcut_c (a : Ad) (z : Int) (m n : Nat) (hn : n = adN a) (w0 : World) (hl : adLim a) (hz : min (max z 0) ((8 * n : Nat) : Int) = (m : Int)) :
    Calls Try.prog 23 #[.agg a.V.toArray, .int .i64 z] w0 fun e w' => e = .returned (.agg (Ad.V (ofL a.six (kbL (adB a) m n 0))).toArray) ∧ Kp [] w0 w' := by
  have hS := St.sv w0
  obtain ⟨L, hL⟩ : ∃ L, L = adB a := ⟨_, rfl⟩
  have hb : Bytes L := by rw [hL]; exact adB_bytes a
  have hll : L.length = n := by rw [hL, hn]; exact adB_len a
  have hn16 : n ≤ 16 := by rw [hn]; unfold adN; cases a.six <;> decide
  rw [← hL]
  refine ent (n := 63) Try.func23 rfl rfl ?_
  refine wp_seq_k ?_; intro K1 hK1
  refine wlit ?_
  refine wl_e rfl ?_; intro K hK
  refine ow_box hS (tmA rfl rfl) rfl ?_
  clear hS; intro g0_0 w hg0_0 hS
  refine hK _ _ ?_; clear hK K
  refine wl_e rfl ?_; intro K hK
  refine ow_alloc hS tz_25 rfl ?_
  clear hS; intro g0_1 w hg0_1 hS
  refine hK _ _ ?_; clear hK K
  refine wl_nil ?_
  refine then_n (hK1 _ _ ?_); clear hK1 K1
  refine wp_seq_k ?_; intro K2 hK2
  refine wlit ?_
  refine wl_v (x_loadA (cs := [_, _, _]) Try.underlying25 rfl ts_25 (tmP rfl rfl) (rangeB hS.ok 1 rfl rfl)) ?_
  refine wl_e rfl ?_; intro K hK
  refine ow_call Try.func31 rfl rfl (evs_cons (tmA rfl rfl) <| evs_nil) (rad_bytes_c a _ hl) ?_
  rintro e w ⟨A1, n1, c1, hn1, rfl, hn2, hk⟩
  refine ⟨_, rfl, ?_⟩
  obtain rfl : n = n1 := by rw [hn1, hn]
  rw [← hL] at hn2
  replace hS := hS.add hk hn2
  have hc1 : n ≤ c1 := row_cap (hS.rowOk 0 rfl) (by decide)
  replace hS := hS.freeze 0 rfl -- +vb
  clear hn2 hk
  refine hK _ _ ?_; clear hK K
  refine wl_v (x_assign (tmS rfl rfl)) ?_
  refine wl_nil ?_
  refine then_n (hK2 _ _ ?_); clear hK2 K2
  refine wp_seq_k ?_; intro K3 hK3
  refine wp_seq_k ?_; intro K4 hK4
  refine wlit ?_
  refine wl_v (x_assign (ev_cN 0)) ?_
  refine wl_nil ?_
  refine then_n (hK4 _ _ ?_); clear hK4 K4
  refine wp_block ?_
  rw [← kbL_zero (l := L) m] at hS
  refine lp [5, 6, 7, 8, 9, 14, 15, 16, 17, 18, 19, 20, 21, 22, 23, 24, 25, 26, 27, 28, 29, 30, 31, 32, 33, 34, 35, 36, 37, 38, 39, 40, 41, 42, 43, 44, 45, 46, 47, 48, 49, 50, 51, 52, 53, 54, 55, 56] (fun mz g w => ∃ (i : Nat), ∃ (B : Option Addr), ∃ (cB : Nat), mz = n - i ∧ g 5 = .slice B n cB ∧ g 6 = .int .i64 (i : Int) ∧ St [] w0 [.vw B ((kbL L m i 0).map u8v), .blk g0_1 25 (Ad.V ⟨false, 0, 0⟩), .blk g0_0 25 a.V] w ∧ (i ≤ n) ∧ (n ≤ cB)) ?_ ?_
  · exact ⟨_, 0, A1, c1, rfl, (by first | rfl | go_num | exact congrArg (Value.int _) (by first | omega | (simp; done) | (simp; omega))), (by first | rfl | go_num | exact congrArg (Value.int _) (by first | omega | (simp; done) | (simp; omega))), hS, (by omega), (by omega)⟩
  · clear hS; intro mz g w hI
    obtain ⟨i, B, cB, rfl, hs5, hs6, hS, hi, hcB⟩ := hI
    refine fr_know (d := 5) hs5 ?_; clear hs5
    refine fr_know (d := 6) hs6 ?_; clear hs6
    refine wp_seq_k ?_; intro K5 hK5
    refine wp_seq_k ?_; intro K6 hK6
    refine wlit ?_
    refine wl_v (x_move (tmI rfl rfl)) ?_
    refine wl_v (x_move (tmS rfl rfl)) ?_
    refine wl_v (x_len Try.underlying70 (tmS rfl rfl)) ?_
    refine wl_v (x_lss (tmI rfl rfl) (tmI rfl rfl)) ?_
    refine wl_nil ?_
    refine then_n (hK6 _ _ ?_); clear hK6 K6
    refine cnd (tm rfl) (fun hc0 => ?_) (fun hc0 => ?_)
    · try (exfalso; first | with_reducible exact absurd hc0 Bool.false_ne_true | with_reducible exact absurd hc0.symm Bool.false_ne_true | (simp only [nrm] at hc0; omega) | (simp at hc0; done))
      all_goals
       try simp only [nrm] at hc0
       refine wp_skip ?_
       refine then_n (hK5 _ _ ?_); clear hK5 K5
       refine wp_seq_k ?_; intro K7 hK7
       refine wp_block ?_
       refine wp_seq_k ?_; intro K8 hK8
       refine wlit ?_
       refine wl_v (x_assign (ev_cN 0)) ?_
       refine wl_nil ?_
       refine then_n (hK8 _ _ ?_); clear hK8 K8
       refine wp_block ?_
       refine lp [5, 7, 8, 9, 20, 21, 22, 23, 24, 25, 26, 27, 28, 29, 30, 31, 32, 33, 34, 35, 36, 37, 38, 39, 40, 41, 42, 43, 44, 45, 46, 47, 48, 49, 50, 51, 52, 53, 54, 55, 56] (fun mz g w => ∃ (j : Nat), ∃ (B : Option Addr), ∃ (cB : Nat), mz = 8 - j ∧ g 5 = .slice B n cB ∧ g 7 = .int .i64 (j : Int) ∧ St [] w0 [.vw B ((kbL L m i j).map u8v), .blk g0_1 25 (Ad.V ⟨false, 0, 0⟩), .blk g0_0 25 a.V] w ∧ (j ≤ 8) ∧ (n ≤ cB)) ?_ ?_
       · exact ⟨_, 0, _, _, rfl, (by first | rfl | go_num | exact congrArg (Value.int _) (by first | omega | (simp; done) | (simp; omega))), (by first | rfl | go_num | exact congrArg (Value.int _) (by first | omega | (simp; done) | (simp; omega))), hS, (by omega), (by omega)⟩
       · clear hS; intro mz g w hI
         obtain ⟨j, B, cB, rfl, hs5, hs7, hS, hj, hcB⟩ := hI
         refine fr_know (d := 5) hs5 ?_; clear hs5
         refine fr_know (d := 7) hs7 ?_; clear hs7
         refine wp_seq_k ?_; intro K9 hK9
         refine wp_seq_k ?_; intro K10 hK10
         refine wlit ?_
         refine wl_v (x_move (tmI rfl rfl)) ?_
         refine wl_v (x_lss (tmI rfl rfl) (ev_cN 8)) ?_
         refine wl_nil ?_
         refine then_n (hK10 _ _ ?_); clear hK10 K10
         refine cnd (tm rfl) (fun hc1 => ?_) (fun hc1 => ?_)
         · try (exfalso; first | with_reducible exact absurd hc1 Bool.false_ne_true | with_reducible exact absurd hc1.symm Bool.false_ne_true | (simp only [nrm] at hc1; omega) | (simp at hc1; done))
           all_goals
            try simp only [nrm] at hc1
            refine wp_skip ?_
            refine then_n (hK9 _ _ ?_); clear hK9 K9
            refine wp_seq_k ?_; intro K11 hK11
            refine wp_block ?_
            refine wp_seq_k ?_; intro K12 hK12
            refine wlit ?_
            refine wl_v (x_assign (ev_cN 1)) ?_
            refine wl_nil ?_
            refine then_n (hK12 _ _ ?_); clear hK12 K12
            refine wp_seq_k ?_; intro K13 hK13
            refine wp_seq_k ?_; intro K14 hK14
            refine wlit ?_
            refine wl_v (x_assign (ev_cN 7)) ?_
            refine wl_nil ?_
            refine then_n (hK14 _ _ ?_); clear hK14 K14
            refine wp_block ?_
            refine lp [8, 9, 24, 25, 26, 27, 28, 29, 30] (fun mz g w => ∃ (q pw : Nat), mz = q - j ∧ g 8 = .int .u8 (pw : Int) ∧ g 9 = .int .i64 (q : Int) ∧ St [] w0 [.vw B ((kbL L m i j).map u8v), .blk g0_1 25 (Ad.V ⟨false, 0, 0⟩), .blk g0_0 25 a.V] w ∧ (j ≤ q ∧ q ≤ 7) ∧ (pw = 2 ^ (7 - q)) ∧ (0 < pw)) ?_ ?_
            · exact ⟨_, 7, 1, rfl, (by first | rfl | go_num | exact congrArg (Value.int _) (by first | omega | (simp; done) | (simp; omega))), (by first | rfl | go_num | exact congrArg (Value.int _) (by first | omega | (simp; done) | (simp; omega))), hS, (by omega), (by first | exact hpn | rfl), (by omega)⟩
            · clear hS; intro mz g w hI
              obtain ⟨q, pw, rfl, hs8, hs9, hS, hq, hpw, hp0⟩ := hI
              refine fr_know (d := 8) hs8 ?_; clear hs8
              refine fr_know (d := 9) hs9 ?_; clear hs9
              refine wp_seq_k ?_; intro K15 hK15
              refine wp_seq_k ?_; intro K16 hK16
              refine wlit ?_
              refine wl_v (x_move (tmI rfl rfl)) ?_
              refine wl_v (x_move (tmI rfl rfl)) ?_
              refine wl_v (x_gtr (tmI rfl rfl) (tmI rfl rfl)) ?_
              refine wl_nil ?_
              refine then_n (hK16 _ _ ?_); clear hK16 K16
              refine cnd (tm rfl) (fun hc2 => ?_) (fun hc2 => ?_)
              · try (exfalso; first | with_reducible exact absurd hc2 Bool.false_ne_true | with_reducible exact absurd hc2.symm Bool.false_ne_true | (simp only [nrm] at hc2; omega) | (simp at hc2; done))
                all_goals
                 try simp only [nrm] at hc2
                 have hp6 : 2 ^ (7 - q) ≤ 2 ^ 6 := Nat.pow_le_pow_right (by decide) (by omega)
                 have hp64 : pw ≤ 64 := by rw [hpw]; exact hp6
                 have hpn : pw * 2 = 2 ^ (7 - (q - 1)) := by rw [hpw, ← Nat.pow_succ]; congr 1; omega
                 refine wp_skip ?_
                 refine then_n (hK15 _ _ ?_); clear hK15 K15
                 refine wp_seq_k ?_; intro K17 hK17
                 refine wp_block ?_
                 refine wlit ?_
                 refine wl_v (x_move (tmI rfl rfl)) ?_
                 first
                  | refine wl_v (x_mulN (tmI rfl rfl) (ev_cN 2) (fit_u8 (by omega))) ?_
                  | refine wl_v (x_mulI (tmI rfl rfl) (ev_cN 2) (IntWalk.u8_in _ (by omega))) ?_
                  | refine wl_v (x_mulU (tmI rfl rfl) (ev_cN 2) rfl) ?_
                  | refine wl_v (x_mul (tmI rfl rfl) (ev_cN 2)) ?_
                 refine wl_v (x_assign (tmI rfl rfl)) ?_
                 refine wl_nil ?_
                 refine inb_n ?_
                 refine then_n (hK17 _ _ ?_); clear hK17 K17
                 refine wlit ?_
                 refine wl_v (x_move (tmI rfl rfl)) ?_
                 first
                  | refine wl_v (x_subN (tmI rfl rfl) (ev_cN 1) (fit_i64 (by omega)) (by omega)) ?_
                  | refine wl_v (x_subI (tmI rfl rfl) (ev_cN 1) (IntWalk.i64_in _ (by omega))) ?_
                  | refine wl_v (x_sub (tmI rfl rfl) (ev_cN 1)) ?_
                 refine wl_v (x_assign (tmI rfl rfl)) ?_
                 refine wl_nil ?_
                 exact then_n ⟨_, _, rfl, (by show _ < _; omega), (by repeat (first | exact agree_self | exact agree_refl | refine agree_upd rfl ?_ | refine agree_mix rfl ?_)), q - 1, pw * 2, rfl, (by first | rfl | go_num | exact congrArg (Value.int _) (by first | omega | (simp; done) | (simp; omega))), (by first | rfl | go_num | exact congrArg (Value.int _) (by first | omega | (simp; done) | (simp; omega))), hS, (by omega), (by first | exact hpn | rfl), (by omega)⟩
              try (exfalso; first | with_reducible exact absurd hc2 Bool.false_ne_true | with_reducible exact absurd hc2.symm Bool.false_ne_true | (simp only [nrm] at hc2; omega) | (simp at hc2; done))
              all_goals
               try simp only [nrm] at hc2
               refine wp_exit ?_
               refine then_x ?_; clear hK15 K15
               refine then_x ?_
               refine inb_x ?_
               refine then_n (hK13 _ _ ?_); clear hK13 K13
               refine wp_seq_k ?_; intro K18 hK18
               obtain rfl : j = q := by omega
               have hst := kb_step hb m i j (by omega)
               have hnth : (kbL L m i j).getD i 0 = kb (hpB m i) j (nth L i) := by
                 have h := kbL_nth (l := L) (m := m) (i := i) (j := j) (p := i) (by omega)
                 unfold kbV at h
                 rw [if_neg (by omega), if_pos rfl] at h
                 exact h
               obtain ⟨y, hy⟩ : ∃ y, y = kb (hpB m i) j (nth L i) := ⟨_, rfl⟩
               rw [← hpw, ← hy] at hst
               rw [← hy] at hnth
               have hlk : (kbL L m i j).length = n := (kbL_len _ _ _ _).trans hll
               have hpw8 : pw ≤ 128 := by rw [hpw]; exact Nat.pow_le_pow_right (by decide) (show 7 - j ≤ 7 by omega)
               obtain ⟨b4, o4, rfl⟩ := view_some (viewV hS.ok 0 rfl : View _ _ B ((kbL L m i j).map u8v)) (by rw [List.length_map, hlk]; omega)
               refine wlit ?_
               refine wl_v (x_move (tmI rfl rfl)) ?_
               first
                | refine wl_v (x_mulN (ev_cN 8) (tmI rfl rfl) (fit_i64 (by omega))) ?_
                | refine wl_v (x_mulI (ev_cN 8) (tmI rfl rfl) (IntWalk.i64_in _ (by omega))) ?_
                | refine wl_v (x_mul (ev_cN 8) (tmI rfl rfl)) ?_
               refine wl_v (x_move (tmI rfl rfl)) ?_
               first
                | refine wl_v (x_addN (tmI rfl rfl) (tmI rfl rfl) (fit_i64 (by omega))) ?_
                | refine wl_v (x_addI (tmI rfl rfl) (tmI rfl rfl) (IntWalk.i64_in _ (by omega))) ?_
                | refine wl_v (x_add (tmI rfl rfl) (tmI rfl rfl)) ?_
               refine wl_v (x_move (tmI rfl rfl)) ?_
               refine wl_v (x_geq (tmI rfl rfl) (tmI rfl rfl)) ?_
               refine wl_v (x_move (tmB rfl rfl)) ?_
               refine gs_wl (tm (t := 37) rfl) (fun hg13_6 => ?_) (fun hg13_6 => ?_)
               · have hg13_6' := hg13_6; (try simp only [nrm] at hg13_6'); try (exfalso; first | with_reducible exact absurd hg13_6 Bool.false_ne_true | with_reducible exact absurd hg13_6.symm Bool.false_ne_true | omega | (simp at hg13_6; done))
                 all_goals
                  refine wl_gv (want_y rfl rfl rfl rfl (by rw [hg13_6]; rfl)) (x_move (tmS rfl rfl)) ?_
                  refine wl_gv (want_y rfl rfl rfl rfl (by rw [hg13_6]; rfl)) (x_move (tmI rfl rfl)) ?_
                  refine wl_gv (want_y rfl rfl rfl rfl (by rw [hg13_6]; rfl)) (x_ixs1 Try.underlying70 ts_5 (tmS rfl rfl) (tmI rfl rfl) (by omega)) ?_
                  first
                   | refine wl_gv (want_y rfl rfl rfl rfl (by rw [hg13_6]; rfl)) (x_load Try.underlying5 rfl (tmP rfl rfl) (cellV hS.ok 0 rfl rfl)) ?_
                   | refine wl_gv (want_y rfl rfl rfl rfl (by rw [hg13_6]; rfl)) (x_load Try.underlying5 rfl (tmP rfl rfl) (cellV hS.ok 0 rfl (getm (by omega)))) ?_
                   | refine wl_gv (want_y rfl rfl rfl rfl (by rw [hg13_6]; rfl)) (x_load Try.underlying5 rfl (tmP rfl rfl) (cellVs hS.ok 0 rfl (fun _ => rfl) rfl (by omega) rfl)) ?_
                  refine wl_gv (want_y rfl rfl rfl rfl (by rw [hg13_6]; rfl)) (x_move (tmI rfl rfl)) ?_
                  first
                   | refine wl_gv (want_y rfl rfl rfl rfl (by rw [hg13_6]; rfl)) (x_quoN (tmI rfl rfl) (tmI rfl rfl) (by omega) (fit_u8 (by omega))) ?_
                   | refine wl_gv (want_y rfl rfl rfl rfl (by rw [hg13_6]; rfl)) (x_quo (tmI rfl rfl) (tmI rfl rfl) (by omega)) ?_
                  first
                   | refine wl_gv (want_y rfl rfl rfl rfl (by rw [hg13_6]; rfl)) (x_remN (tmI rfl rfl) (ev_cN 2) (by omega)) ?_
                   | refine wl_gv (want_y rfl rfl rfl rfl (by rw [hg13_6]; rfl)) (x_rem (tmI rfl rfl) (ev_cN 2) (by omega)) ?_
                  refine wl_gv (want_y rfl rfl rfl rfl (by rw [hg13_6]; rfl)) (x_eql (tmI rfl rfl) (ev_cN 1)) ?_
                  refine wl_v (x_pickT (tmB rfl rfl) hg13_6 (tmB rfl rfl)) ?_
                  refine wl_nil ?_
                  refine then_n (hK18 _ _ ?_); clear hK18 K18
                  refine cnd (tm rfl) (fun hc3 => ?_) (fun hc3 => ?_)
                  · try (exfalso; first | with_reducible exact absurd hc3 Bool.false_ne_true | with_reducible exact absurd hc3.symm Bool.false_ne_true | (simp only [nrm] at hc3; omega) | (simp at hc3; done))
                    all_goals
                     try simp only [nrm] at hc3
                     have hbit := hst.2.2.2 (by omega) (by rw [← hnth]; omega)
                     have hset : splice (kbL L m i j) i [(kbL L m i j).getD i 0 - pw] = kbL L m i (j + 1) := kbL_set (by omega) (by rw [hnth]; exact hbit.2)
                     have hple : pw ≤ (kbL L m i j).getD i 0 := by rw [hnth]; exact hbit.1
                     refine wlit ?_
                     refine wl_v (x_move (tmS rfl rfl)) ?_
                     refine wl_v (x_move (tmI rfl rfl)) ?_
                     refine wl_v (x_move (tmS rfl rfl)) ?_
                     refine wl_v (x_move (tmI rfl rfl)) ?_
                     refine wl_v (x_ixs1 Try.underlying70 ts_5 (tmS rfl rfl) (tmI rfl rfl) (by omega)) ?_
                     first
                      | refine wl_v (x_load Try.underlying5 rfl (tmP rfl rfl) (cellV hS.ok 0 rfl rfl)) ?_
                      | refine wl_v (x_load Try.underlying5 rfl (tmP rfl rfl) (cellV hS.ok 0 rfl (getm (by omega)))) ?_
                      | refine wl_v (x_load Try.underlying5 rfl (tmP rfl rfl) (cellVs hS.ok 0 rfl (fun _ => rfl) rfl (by omega) rfl)) ?_
                     refine wl_v (x_move (tmI rfl rfl)) ?_
                     first
                      | refine wl_v (x_subN (tmI rfl rfl) (tmI rfl rfl) (fit_u8 (by omega)) (by omega)) ?_
                      | refine wl_v (x_subI (tmI rfl rfl) (tmI rfl rfl) (IntWalk.u8_in _ (by omega))) ?_
                      | refine wl_v (x_subU (tmI rfl rfl) (tmI rfl rfl) rfl (fit_u8 (by omega))) ?_
                      | refine wl_v (x_sub (tmI rfl rfl) (tmI rfl rfl)) ?_
                     refine wl_e rfl ?_; intro K hK
                     refine ow_build hS Try.underlying70 tz_5 (bc_take (tmI rfl rfl) <| bc_nil) rfl rfl (by kernel_rfl) ?_
                     clear hS; intro g14_8 w hg14_8 hS
                     refine hK _ _ ?_; clear hK K
                     refine wl_e rfl ?_; intro K hK
                     refine ow_call Try.func32 rfl rfl (evs_cons (tmS rfl rfl) <| evs_cons (tmI rfl rfl) <| evs_cons (tmS rfl rfl) <| evs_nil) (rset_c n _ cB (kbL L m i j) i 1 (some ⟨g14_8, 0, none⟩) 1 [(kbL L m i j).getD i 0 - pw] _ (viewV hS.ok 1 rfl) hlk (by omega) (viewB hS.ok 0 rfl) rfl (by omega)) ?_
                     rintro e w ⟨B2, c2, rfl, hn2, hk⟩
                     refine ⟨_, rfl, ?_⟩
                     rw [hset] at hn2
                     replace hS := hS.add hk hn2
                     have hc2 : n ≤ c2 := row_cap (hS.rowOk 0 rfl) (by decide)
                     replace hS := hS.freeze 0 rfl
                     replace hS := hS.pick [0, 3, 4] rfl rfl --ents vb,g0_1,g0_0
                     clear hn2 hk
                     try replace hS := St.nm (M' := [.vw _ _, .blk _ _ [_, _, _], .blk _ _ [_, _, _]]) hS rfl
                     refine hK _ _ ?_; clear hK K
                     refine wl_v (x_assign (tmS rfl rfl)) ?_
                     refine wl_nil ?_
                     refine inb_n ?_
                     refine then_n (hK11 _ _ ?_); clear hK11 K11
                     refine wlit ?_
                     refine wl_v (x_move (tmI rfl rfl)) ?_
                     first
                      | refine wl_v (x_addN (tmI rfl rfl) (ev_cN 1) (fit_i64 (by omega))) ?_
                      | refine wl_v (x_addI (tmI rfl rfl) (ev_cN 1) (IntWalk.i64_in _ (by omega))) ?_
                      | refine wl_v (x_add (tmI rfl rfl) (ev_cN 1)) ?_
                     refine wl_v (x_assign (tmI rfl rfl)) ?_
                     refine wl_nil ?_
                     exact then_n ⟨_, _, rfl, (by show _ < _; omega), (by repeat (first | exact agree_self | exact agree_refl | refine agree_upd rfl ?_ | refine agree_mix rfl ?_)), j + 1, _, _, rfl, (by first | rfl | go_num | exact congrArg (Value.int _) (by first | omega | (simp; done) | (simp; omega))), (by first | rfl | go_num | exact congrArg (Value.int _) (by first | omega | (simp; done) | (simp; omega))), (by first | exact hS | (rw [kbL_same (by rw [← hy]; exact hst.2.1 (by omega))]; exact hS)), (by omega), (by omega)⟩
                  try (exfalso; first | with_reducible exact absurd hc3 Bool.false_ne_true | with_reducible exact absurd hc3.symm Bool.false_ne_true | (simp only [nrm] at hc3; omega) | (simp at hc3; done))
                  all_goals
                   try simp only [nrm] at hc3
                   have hsame : kb (hpB m i) (j + 1) (nth L i) = kb (hpB m i) j (nth L i) := by
                     rw [← hy]
                     first
                       | exact hst.2.1 (by omega)
                       | exact hst.2.2.1 (by omega) (by rw [← hnth]; omega)
                   rw [← kbL_same hsame] at hS
                   refine wp_skip ?_
                   refine inb_n ?_
                   refine then_n (hK11 _ _ ?_); clear hK11 K11
                   refine wlit ?_
                   refine wl_v (x_move (tmI rfl rfl)) ?_
                   first
                    | refine wl_v (x_addN (tmI rfl rfl) (ev_cN 1) (fit_i64 (by omega))) ?_
                    | refine wl_v (x_addI (tmI rfl rfl) (ev_cN 1) (IntWalk.i64_in _ (by omega))) ?_
                    | refine wl_v (x_add (tmI rfl rfl) (ev_cN 1)) ?_
                   refine wl_v (x_assign (tmI rfl rfl)) ?_
                   refine wl_nil ?_
                   exact then_n ⟨_, _, rfl, (by show _ < _; omega), (by repeat (first | exact agree_self | exact agree_refl | refine agree_upd rfl ?_ | refine agree_mix rfl ?_)), j + 1, _, _, rfl, (by first | rfl | go_num | exact congrArg (Value.int _) (by first | omega | (simp; done) | (simp; omega))), (by first | rfl | go_num | exact congrArg (Value.int _) (by first | omega | (simp; done) | (simp; omega))), (by first | exact hS | (rw [kbL_same (by rw [← hy]; exact hst.2.1 (by omega))]; exact hS)), (by omega), (by omega)⟩
               have hg13_6' := hg13_6; (try simp only [nrm] at hg13_6'); try (exfalso; first | with_reducible exact absurd hg13_6 Bool.false_ne_true | with_reducible exact absurd hg13_6.symm Bool.false_ne_true | omega | (simp at hg13_6; done))
               all_goals
                refine wl_s rfl (want_n rfl rfl rfl rfl (by rw [hg13_6]; rfl)) ?_
                refine wl_s rfl (want_n rfl rfl rfl rfl (by rw [hg13_6]; rfl)) ?_
                refine wl_s rfl (want_n rfl rfl rfl rfl (by rw [hg13_6]; rfl)) ?_
                refine wl_s rfl (want_n rfl rfl rfl rfl (by rw [hg13_6]; rfl)) ?_
                refine wl_s rfl (want_n rfl rfl rfl rfl (by rw [hg13_6]; rfl)) ?_
                refine wl_s rfl (want_n rfl rfl rfl rfl (by rw [hg13_6]; rfl)) ?_
                refine wl_s rfl (want_n rfl rfl rfl rfl (by rw [hg13_6]; rfl)) ?_
                refine wl_s rfl (want_n rfl rfl rfl rfl (by rw [hg13_6]; rfl)) ?_
                refine wl_v (x_pickF (tmB rfl rfl) hg13_6 ev_c) ?_
                refine wl_nil ?_
                refine then_n (hK18 _ _ ?_); clear hK18 K18
                refine cnd_f (tmB rfl rfl) rfl ?_
                refine wp_skip ?_
                refine inb_n ?_
                refine then_n (hK11 _ _ ?_); clear hK11 K11
                refine wlit ?_
                refine wl_v (x_move (tmI rfl rfl)) ?_
                first
                 | refine wl_v (x_addN (tmI rfl rfl) (ev_cN 1) (fit_i64 (by omega))) ?_
                 | refine wl_v (x_addI (tmI rfl rfl) (ev_cN 1) (IntWalk.i64_in _ (by omega))) ?_
                 | refine wl_v (x_add (tmI rfl rfl) (ev_cN 1)) ?_
                refine wl_v (x_assign (tmI rfl rfl)) ?_
                refine wl_nil ?_
                exact then_n ⟨_, _, rfl, (by show _ < _; omega), (by repeat (first | exact agree_self | exact agree_refl | refine agree_upd rfl ?_ | refine agree_mix rfl ?_)), j + 1, _, _, rfl, (by first | rfl | go_num | exact congrArg (Value.int _) (by first | omega | (simp; done) | (simp; omega))), (by first | rfl | go_num | exact congrArg (Value.int _) (by first | omega | (simp; done) | (simp; omega))), (by first | exact hS | (rw [kbL_same (by rw [← hy]; exact hst.2.1 (by omega))]; exact hS)), (by omega), (by omega)⟩
         try (exfalso; first | with_reducible exact absurd hc1 Bool.false_ne_true | with_reducible exact absurd hc1.symm Bool.false_ne_true | (simp only [nrm] at hc1; omega) | (simp at hc1; done))
         all_goals
          try simp only [nrm] at hc1
          refine wp_exit ?_
          refine then_x ?_; clear hK9 K9
          refine then_x ?_
          refine inb_x ?_
          refine inb_n ?_
          refine then_n (hK7 _ _ ?_); clear hK7 K7
          refine wlit ?_
          refine wl_v (x_move (tmI rfl rfl)) ?_
          first
           | refine wl_v (x_addN (tmI rfl rfl) (ev_cN 1) (fit_i64 (by omega))) ?_
           | refine wl_v (x_addI (tmI rfl rfl) (ev_cN 1) (IntWalk.i64_in _ (by omega))) ?_
           | refine wl_v (x_add (tmI rfl rfl) (ev_cN 1)) ?_
          refine wl_v (x_assign (tmI rfl rfl)) ?_
          refine wl_nil ?_
          exact then_n ⟨_, _, rfl, (by show _ < _; omega), (by repeat (first | exact agree_self | exact agree_refl | refine agree_upd rfl ?_ | refine agree_mix rfl ?_)), i + 1, _, _, rfl, (by first | rfl | go_num | exact congrArg (Value.int _) (by first | omega | (simp; done) | (simp; omega))), (by first | rfl | go_num | exact congrArg (Value.int _) (by first | omega | (simp; done) | (simp; omega))), (by rw [← kbL_row, ← (show j = 8 by omega)]; exact hS), (by omega), (by omega)⟩
    try (exfalso; first | with_reducible exact absurd hc0 Bool.false_ne_true | with_reducible exact absurd hc0.symm Bool.false_ne_true | (simp only [nrm] at hc0; omega) | (simp at hc0; done))
    all_goals
     try simp only [nrm] at hc0
     refine wp_exit ?_
     refine then_x ?_; clear hK5 K5
     refine then_x ?_
     refine inb_x ?_
     refine then_n (hK3 _ _ ?_); clear hK3 K3
     refine wp_seq_k ?_; intro K19 hK19
     obtain rfl : i = n := by omega
     refine wlit ?_
     refine wl_v (x_move (tmS rfl rfl)) ?_
     refine wl_e rfl ?_; intro K hK
     refine ow_call Try.func33 rfl rfl (evs_cons (tmS rfl rfl) <| evs_nil) (rof_j a _ _ _ _ hn _ (viewV hS.ok 0 rfl) ((kbL_len _ _ _ _).trans hll) hcB (kbL_bytes hb _ _ _ (by decide))) ?_
     rintro e w ⟨rfl, hk⟩
     refine ⟨_, rfl, ?_⟩
     replace hS := hS.kept hk
     clear hk
     refine hK _ _ ?_; clear hK K
     refine wl_v (x_move (tmT rfl rfl)) ?_
     refine wl_v (x_ext (tmT rfl rfl) rfl) ?_
     refine wl_v (x_ext (tmT rfl rfl) rfl) ?_
     refine wl_e rfl ?_; intro K hK
     refine ow_alloc hS tz_25 rfl ?_
     clear hS; intro g15_5 w hg15_5 hS
     refine hK _ _ ?_; clear hK K
     refine wl_e rfl ?_; intro K hK
     refine ow_storeA hS 0 rfl ts_25 (tmP rfl rfl) (tmA rfl rfl) rfl rfl rfl ?_
     clear hS; intro w hS
     try replace hS := St.nm (M' := [.blk _ _ [_, _, _], .vw _ _, .blk _ _ [_, _, _], .blk _ _ [_, _, _]]) hS rfl
     refine hK _ _ ?_; clear hK K
     refine wl_v (x_assign (tmB rfl rfl)) ?_
     refine wl_nil ?_
     refine then_n (hK19 _ _ ?_); clear hK19 K19
     refine wp_seq_k ?_; intro K20 hK20
     refine wlit ?_
     refine wl_v (x_loadA (cs := [_, _, _]) Try.underlying25 rfl ts_25 (tmP rfl rfl) (rangeB hS.ok 0 rfl rfl)) ?_
     refine wl_e rfl ?_; intro K hK
     refine ow_storeA hS 2 rfl ts_25 (tmP rfl rfl) (tmA rfl rfl) rfl rfl rfl ?_
     clear hS; intro w hS
     try replace hS := St.nm (M' := [.blk _ _ [_, _, _], .vw _ _, .blk _ _ [_, _, _], .blk _ _ [_, _, _]]) hS rfl
     refine hK _ _ ?_; clear hK K
     refine wl_nil ?_
     refine then_n (hK20 _ _ ?_); clear hK20 K20
     refine wp_ret ?_
     refine ret1 rfl (.cell rfl rfl (load_rowB (cs := [_, _, _]) hS.ok 2 rfl Try.underlying25 rfl ts_25 rfl)) ?_
     exact ⟨rfl, hS.kp⟩
end Go.Proofs.Ytlpgedncnefaoaa
