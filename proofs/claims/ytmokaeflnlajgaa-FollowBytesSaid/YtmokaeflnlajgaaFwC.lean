
/- follow: the reference's Parse, by contract. Conditions: none but bounds. -/
import Derived.Test.YtmokaeflnlajgaaFwB
namespace Go.Proofs.Ytmokaeflnlajgaa
open Go.ChangeShapes Go.WideShapes Go.ChangeAt Go.RowKit
theorem fq_none {l : List Nat} {n : Nat} {q : Option Nat} {i : Nat} (h : fq l n q i = none) (j : Nat) : fq l n q (i + j) = none := by
  induction j with
  | zero => exact h
  | succ j ih =>
    show adv n _ (adv n 2 (fq l n q (i + j))) = none
    rw [ih]
    rfl
theorem fend_none {l : List Nat} {n k : Nat} (h : fq l n (q10 n) k = none) (hk : k ≤ fcnt l n) : ¬ fOk l n := fun ho => by
  have h1 := fq_none h (fcnt l n - k)
  rw [show k + (fcnt l n - k) = fcnt l n from by omega] at h1
  have h2 := ho.2
  unfold fend at h2
  rw [h1] at h2
  cases h2
theorem q10_some {n : Nat} (h : 10 ≤ n) : q1 n = some 1 ∧ q9 n = some 9 ∧ q10 n = some 10 := by
  have e1 : q1 n = some 1 := by unfold q1 adv; exact if_pos (by omega)
  have e2 : q9 n = some 9 := by unfold q9; rw [e1]; exact if_pos (by omega)
  refine ⟨e1, e2, ?_⟩
  unfold q10
  rw [e2]
  exact if_pos (by omega)
theorem q10_none {n : Nat} (h : n < 10) : q10 n = none := by
  unfold q10
  cases h9 : q9 n with
  | none => rfl
  | some p =>
    have : p = 9 := by
      unfold q9 at h9
      cases h1 : q1 n with
      | none => rw [h1] at h9; cases h9
      | some p1 =>
        have : p1 = 1 := by
          unfold q1 adv at h1
          dsimp only at h1
          split at h1
          · injection h1 with h1; omega
          · cases h1
        rw [h1, this] at h9
        unfold adv at h9
        dsimp only at h9
        split at h9
        · injection h9 with h9; omega
        · cases h9
    subst this
    exact if_neg (by omega)
set_option maxRecDepth 100000 in
set_option maxHeartbeats 4000000 in
theorem getz_c (m : Nat) (A : Option Addr) (c : Nat) (l : List Nat) (w0 : World) (hm : m < 2) :
    Calls Try.prog 22 #[.slice A m c, .int .i64 ((0 : Nat) : Int), .int .i64 ((2 : Nat) : Int)] w0 fun e w' => e = .returned (.int .u64 ((0 : Nat) : Int)) ∧ Kp [] w0 w' := by
  have hS := St.sv w0
  refine ent (n := 28) Try.func22 rfl rfl ?_
  refine wp_seq_k ?_; intro K1 hK1
  refine wlit ?_
  refine wl_v (x_assign (ev_cN 0)) ?_
  refine wl_nil ?_
  refine then_n (hK1 _ _ ?_); clear hK1 K1
  refine wp_seq_k ?_; intro K2 hK2
  refine wp_seq_k ?_; intro K3 hK3
  refine wlit ?_
  refine wl_v (x_move (tmI rfl rfl)) ?_
  refine wl_v (x_lss (tmI rfl rfl) (ev_cN 0)) ?_
  refine wl_v (x_move (tmB rfl rfl)) ?_
  refine gs_wl (tm (t := 9) rfl) (fun hg1_2 => ?_) (fun hg1_2 => ?_)
  · have hg1_2' := hg1_2; (try simp only [nrm] at hg1_2'); try (exfalso; first | with_reducible exact absurd hg1_2 Bool.false_ne_true | with_reducible exact absurd hg1_2.symm Bool.false_ne_true | omega | (simp at hg1_2; done))
    all_goals
     refine wl_s rfl (want_n rfl rfl rfl rfl (by rw [hg1_2]; rfl)) ?_
     refine wl_s rfl (want_n rfl rfl rfl rfl (by rw [hg1_2]; rfl)) ?_
     refine wl_v (x_pickT (tmB rfl rfl) hg1_2 ev_c) ?_
     refine wl_v (x_move (tmB rfl rfl)) ?_
     refine wl_s rfl (want_n rfl rfl rfl rfl rfl) ?_
     refine wl_s rfl (want_n rfl rfl rfl rfl rfl) ?_
     refine wl_s rfl (want_n rfl rfl rfl rfl rfl) ?_
     refine wl_s rfl (want_n rfl rfl rfl rfl rfl) ?_
     refine wl_s rfl (want_n rfl rfl rfl rfl rfl) ?_
     refine wl_s rfl (want_n rfl rfl rfl rfl rfl) ?_
     refine wl_v (x_pickT (tmB rfl rfl) rfl ev_c) ?_
     refine wl_nil ?_
     refine then_n (hK3 _ _ ?_); clear hK3 K3
     refine cnd_t (tmB rfl rfl) rfl ?_
     refine wp_seq_k ?_; intro K4 hK4
     refine wlit ?_
     refine wl_v (x_assign (ev_cN 0)) ?_
     refine wl_nil ?_
     refine then_n (hK4 _ _ ?_); clear hK4 K4
     refine wp_ret ?_
     refine then_r ?_
     refine ret1 rfl (.tmp rfl (show _ = Value.int _ _ from rfl)) ?_
     exact ⟨rfl, hS.kp⟩
  have hg1_2' := hg1_2; (try simp only [nrm] at hg1_2'); try (exfalso; first | with_reducible exact absurd hg1_2 Bool.false_ne_true | with_reducible exact absurd hg1_2.symm Bool.false_ne_true | omega | (simp at hg1_2; done))
  all_goals
   refine wl_gv (want_y rfl rfl rfl rfl (by rw [hg1_2]; rfl)) (x_move (tmI rfl rfl)) ?_
   refine wl_gv (want_y rfl rfl rfl rfl (by rw [hg1_2]; rfl)) (x_lss (tmI rfl rfl) (ev_cN 0)) ?_
   refine wl_v (x_pickF (tmB rfl rfl) hg1_2 (tmB rfl rfl)) ?_
   refine wl_v (x_move (tmB rfl rfl)) ?_
   refine gs_wl (tm (t := 13) rfl) (fun hg1_6 => ?_) (fun hg1_6 => ?_)
   · have hg1_6' := hg1_6; (try simp only [nrm] at hg1_6'); try (exfalso; first | with_reducible exact absurd hg1_6 Bool.false_ne_true | with_reducible exact absurd hg1_6.symm Bool.false_ne_true | omega | (simp at hg1_6; done))
     all_goals
      refine wl_s rfl (want_n rfl rfl rfl rfl (by rw [hg1_6]; rfl)) ?_
      refine wl_s rfl (want_n rfl rfl rfl rfl (by rw [hg1_6]; rfl)) ?_
      refine wl_s rfl (want_n rfl rfl rfl rfl (by rw [hg1_6]; rfl)) ?_
      refine wl_s rfl (want_n rfl rfl rfl rfl (by rw [hg1_6]; rfl)) ?_
      refine wl_s rfl (want_n rfl rfl rfl rfl (by rw [hg1_6]; rfl)) ?_
      refine wl_s rfl (want_n rfl rfl rfl rfl (by rw [hg1_6]; rfl)) ?_
      refine wl_v (x_pickT (tmB rfl rfl) hg1_6 ev_c) ?_
      refine wl_nil ?_
      refine then_n (hK3 _ _ ?_); clear hK3 K3
      refine cnd_t (tmB rfl rfl) rfl ?_
      refine wp_seq_k ?_; intro K5 hK5
      refine wlit ?_
      refine wl_v (x_assign (ev_cN 0)) ?_
      refine wl_nil ?_
      refine then_n (hK5 _ _ ?_); clear hK5 K5
      refine wp_ret ?_
      refine then_r ?_
      refine ret1 rfl (.tmp rfl (show _ = Value.int _ _ from rfl)) ?_
      exact ⟨rfl, hS.kp⟩
   have hg1_6' := hg1_6; (try simp only [nrm] at hg1_6'); try (exfalso; first | with_reducible exact absurd hg1_6 Bool.false_ne_true | with_reducible exact absurd hg1_6.symm Bool.false_ne_true | omega | (simp at hg1_6; done))
   all_goals
    refine wl_gv (want_y rfl rfl rfl rfl (by rw [hg1_6]; rfl)) (x_move (tmI rfl rfl)) ?_
    refine wl_gv (want_y rfl rfl rfl rfl (by rw [hg1_6]; rfl)) (x_move (tmI rfl rfl)) ?_
    first
     | refine wl_gv (want_y rfl rfl rfl rfl (by rw [hg1_6]; rfl)) (x_addN (tmI rfl rfl) (tmI rfl rfl) (fit_i64 (by omega))) ?_
     | refine wl_gv (want_y rfl rfl rfl rfl (by rw [hg1_6]; rfl)) (x_addI (tmI rfl rfl) (tmI rfl rfl) (IntWalk.i64_in _ (by omega))) ?_
     | refine wl_gv (want_y rfl rfl rfl rfl (by rw [hg1_6]; rfl)) (x_add (tmI rfl rfl) (tmI rfl rfl)) ?_
    refine wl_gv (want_y rfl rfl rfl rfl (by rw [hg1_6]; rfl)) (x_move (tmS rfl rfl)) ?_
    refine wl_gv (want_y rfl rfl rfl rfl (by rw [hg1_6]; rfl)) (x_len Try.underlying26 (tmS rfl rfl)) ?_
    refine wl_gv (want_y rfl rfl rfl rfl (by rw [hg1_6]; rfl)) (x_gtr (tmI rfl rfl) (tmI rfl rfl)) ?_
    refine wl_v (x_pickF (tmB rfl rfl) hg1_6 (tmB rfl rfl)) ?_
    refine wl_nil ?_
    refine then_n (hK3 _ _ ?_); clear hK3 K3
    refine cnds (tm rfl) (fun hc0 => ?_) (fun hc0 => ?_)
    · exfalso
      simp only [nrm] at hc0
      omega
    try (exfalso; first | with_reducible exact absurd hc0 Bool.false_ne_true | with_reducible exact absurd hc0.symm Bool.false_ne_true | (simp only [nrm] at hc0; omega) | (simp at hc0; done))
    all_goals
     try simp only [nrm] at hc0
     refine wp_seq_k ?_; intro K6 hK6
     refine wlit ?_
     refine wl_v (x_assign (ev_cN 0)) ?_
     refine wl_nil ?_
     refine then_n (hK6 _ _ ?_); clear hK6 K6
     refine wp_ret ?_
     refine then_r ?_
     refine ret1 rfl (.tmp rfl (show _ = Value.int _ _ from rfl)) ?_
     exact ⟨rfl, hS.kp⟩
theorem getat_c (n : Nat) (A A1 : Option Addr) (c1 : Nat) (l : List Nat) (p : Nat) (w0 : World) (hv : View w0 w0.heap.size A1 ((l.drop p).map u8v)) (hl : l.length = n) (hp : p ≤ n) (hc : n - p ≤ c1) (hn4 : n ≤ 1000000) (hb : Bytes l) :
    Calls Try.prog 22 #[.slice A1 (n - p) c1, .int .i64 ((0 : Nat) : Int), .int .i64 ((2 : Nat) : Int)] w0 fun e w' => e = .returned (.int .u64 ((rdN l n 2 (some p) : Nat) : Int)) ∧ Kp [] w0 w' := by
  have hld : (l.drop p).length = n - p := by rw [List.length_drop, hl]
  by_cases h : p + 2 ≤ n
  · have h1 := get_c (n - p) A1 c1 (l.drop p) 0 2 w0 hv hld hc (by omega) (hb.drop p) (by omega) (by omega)
    have e : getN (l.drop p) 0 2 = rdN l n 2 (some p) := by
      unfold rdN getN
      dsimp only
      rw [if_pos h, List.drop_zero]
    rw [e] at h1
    exact h1
  · have e : rdN l n 2 (some p) = 0 := if_neg h
    rw [e]
    exact getz_c (n - p) A1 c1 l w0 (by omega)
set_option maxRecDepth 100000 in
set_option maxHeartbeats 8000000 in
theorem rfparse_c (n : Nat) (A : Option Addr) (c : Nat) (l : List Nat) (w0 : World) (hv : View w0 w0.heap.size A (l.map u8v)) (hl : l.length = n) (hc : n ≤ c) (hn4 : n ≤ 1000000) (hb : Bytes l) :
    Calls Try.prog 7 #[.slice A n c] w0 fun e w' => ∃ kind num L nr cr rows ok, e = .returned (.tuple #[.agg (fmV kind num L nr cr).toArray, .bool ok]) ∧ FwR w0 w' l n kind num L nr cr rows ∧ (ok = true ↔ fOk l n) ∧ nr ≤ cr ∧ Kp [] w0 w' := by
  have hS := (St.sv w0).vcons rfl hv
  by_cases h10 : n < 10
  case pos =>
    have hno : ¬ fOk l n := fend_none (k := 0) (q10_none h10) (Nat.zero_le _)
    refine ent (n := 67) Try.func7 rfl rfl ?_
    refine wp_seq_k ?_; intro K1 hK1
    refine wlit ?_
    refine wl_e rfl ?_; intro K hK
    refine ow_alloc hS tz_25 rfl ?_
    clear hS; intro g0_0 w hg0_0 hS
    refine hK _ _ ?_; clear hK K
    refine wl_v (x_assign ev_c) ?_
    refine wl_nil ?_
    refine then_n (hK1 _ _ ?_); clear hK1 K1
    refine wp_seq_k ?_; intro K2 hK2
    refine wp_seq_k ?_; intro K3 hK3
    refine wlit ?_
    refine wl_v (x_move (tmS rfl rfl)) ?_
    refine wl_v (x_len Try.underlying26 (tmS rfl rfl)) ?_
    refine wl_v (x_lss (tmI rfl rfl) (ev_cN 10)) ?_
    refine wl_nil ?_
    refine then_n (hK3 _ _ ?_); clear hK3 K3
    refine cnds (tm rfl) (fun hc0 => ?_) (fun hc0 => ?_)
    · exfalso
      simp only [nrm] at hc0
      omega
    try (exfalso; first | with_reducible exact absurd hc0 Bool.false_ne_true | with_reducible exact absurd hc0.symm Bool.false_ne_true | (simp only [nrm] at hc0; omega) | (simp at hc0; done))
    all_goals
     try simp only [nrm] at hc0
     refine wp_seq_k ?_; intro K4 hK4
     refine wlit ?_
     refine wl_v (x_build (bc_skip (.int .i64 0) <| bc_skip (.int .u64 0) <| bc_skip (.slice none 0 0) <| bc_nil) (by kernel_rfl)) ?_
     refine wl_e rfl ?_; intro K hK
     refine ow_storeA hS 0 rfl ts_25 (tmP rfl rfl) (tmA rfl rfl) rfl rfl rfl ?_
     clear hS; intro w hS
     try replace hS := St.nm (M' := [.blk _ _ [_, _, _], .vw _ _]) hS rfl
     refine hK _ _ ?_; clear hK K
     refine wl_v (x_assign ev_c) ?_
     refine wl_nil ?_
     refine then_n (hK4 _ _ ?_); clear hK4 K4
     refine wp_ret ?_
     refine then_r ?_
     refine ret2 rfl (.cell rfl rfl (load_rowB (cs := [_, _, _]) hS.ok 0 rfl Try.underlying25 rfl ts_25 rfl)) (.tmp rfl (show _ = Value.bool _ from rfl)) ?_
     exact ⟨0, 0, none, 0, 0, [], false, rfl, ⟨rfl, NewV.nil_ _ _ _, (fun r hr => absurd hr List.not_mem_nil), (fun r hr => absurd hr List.not_mem_nil), .inr ⟨hno, rfl, rfl, rfl⟩⟩, ⟨fun h => (by cases h), fun h => absurd h hno⟩, Nat.le_refl _, hS.kp⟩
  obtain ⟨e1, e9, e10⟩ := q10_some (n := n) (by omega)
  have hfk : fkind l n = l.getD 0 0 := by
    unfold fkind rdN
    dsimp only
    rw [if_pos (by omega), getN_one (by omega)]
    rfl
  have hfn : fnum l n = getN l 1 8 := by
    unfold fnum
    rw [e1]
    exact if_pos (by omega)
  have hfc : fcnt l n = l.getD 9 0 := by
    unfold fcnt
    rw [e9]
    show (if 9 + 1 ≤ n then getN l 9 1 else 0) = _
    rw [if_pos (by omega), getN_one (by omega)]
    rfl
  have hb0 : l.getD 0 0 < 256 := nth_lt hb 0
  have hb9 : l.getD 9 0 < 256 := nth_lt hb 9
  have hb8 : getN l 1 8 < 256 ^ 8 := getN_lt hb 1 8
  obtain ⟨b0, o0, rfl⟩ := view_some hv (by rw [List.length_map]; omega)
  have hA0 : Off (some ⟨b0, o0, none⟩) 10 n (cutA (some ⟨b0, o0, none⟩) 10 c 1) := by
    have h := off_cut (k := 10) (c := c) (off_zero (A0 := some ⟨b0, o0, none⟩) (n := n)) (by omega)
    rwa [Nat.zero_add] at h
  refine ent (n := 67) Try.func7 rfl rfl ?_
  refine wp_seq_k ?_; intro K1 hK1
  refine wlit ?_
  refine wl_e rfl ?_; intro K hK
  refine ow_alloc hS tz_25 rfl ?_
  clear hS; intro g0_0 w hg0_0 hS
  refine hK _ _ ?_; clear hK K
  refine wl_v (x_assign ev_c) ?_
  refine wl_nil ?_
  refine then_n (hK1 _ _ ?_); clear hK1 K1
  refine wp_seq_k ?_; intro K2 hK2
  refine wp_seq_k ?_; intro K3 hK3
  refine wlit ?_
  refine wl_v (x_move (tmS rfl rfl)) ?_
  refine wl_v (x_len Try.underlying26 (tmS rfl rfl)) ?_
  refine wl_v (x_lss (tmI rfl rfl) (ev_cN 10)) ?_
  refine wl_nil ?_
  refine then_n (hK3 _ _ ?_); clear hK3 K3
  refine cnd (tm rfl) (fun hc0 => ?_) (fun hc0 => ?_)
  · try (exfalso; first | with_reducible exact absurd hc0 Bool.false_ne_true | with_reducible exact absurd hc0.symm Bool.false_ne_true | (simp only [nrm] at hc0; omega) | (simp at hc0; done))
    all_goals
     try simp only [nrm] at hc0
     refine wp_seq_k ?_; intro K4 hK4
     refine wlit ?_
     refine wl_v (x_build (bc_skip (.int .i64 0) <| bc_skip (.int .u64 0) <| bc_skip (.slice none 0 0) <| bc_nil) (by kernel_rfl)) ?_
     refine wl_e rfl ?_; intro K hK
     refine ow_storeA hS 0 rfl ts_25 (tmP rfl rfl) (tmA rfl rfl) rfl rfl rfl ?_
     clear hS; intro w hS
     try replace hS := St.nm (M' := [.blk _ _ [_, _, _], .vw _ _]) hS rfl
     refine hK _ _ ?_; clear hK K
     refine wl_v (x_assign ev_c) ?_
     refine wl_nil ?_
     refine then_n (hK4 _ _ ?_); clear hK4 K4
     refine wp_ret ?_
     refine then_r ?_
     refine ret2 rfl (.cell rfl rfl (load_rowB (cs := [_, _, _]) hS.ok 0 rfl Try.underlying25 rfl ts_25 rfl)) (.tmp rfl (show _ = Value.bool _ from rfl)) ?_
     first
       | exact ⟨0, 0, none, 0, 0, [], false, rfl, ⟨rfl, NewV.nil_ _ _ _, (fun r hr => absurd hr List.not_mem_nil), (fun r hr => absurd hr List.not_mem_nil), .inr ⟨hno, rfl, rfl, rfl⟩⟩, ⟨fun h => (by cases h), fun h => absurd h hno⟩, Nat.le_refl _, hS.kp⟩
       | (have hno : ¬ fOk l n := by
            rintro ⟨h1, h2⟩
            rw [hfe] at h2
            injection h2 with h2
            first
              | exact hc3 (hiff.2 h1)
              | omega
          exact ⟨0, 0, none, 0, 0, [], false, rfl, ⟨rfl, NewV.nil_ _ _ _, (fun r hr => absurd hr List.not_mem_nil), (fun r hr => absurd hr List.not_mem_nil), .inr ⟨hno, rfl, rfl, rfl⟩⟩, ⟨fun h => (by cases h), fun h => absurd h hno⟩, Nat.le_refl _, hS.kp⟩)
       | (have hyes : fOk l n := ⟨hiff.1 hc3, by rw [hfe, show p = n from by omega]⟩
          exact ⟨_, _, L, fcnt l n, cr, rows, true, rfl, ⟨hrl, hS.newv (no_label_row) rfl, (fun r hr => (hsub r hr).1 _ _ (viewV hS.ok 1 rfl)), hby, .inl ⟨hyes, rfl, rfl, hM⟩⟩, ⟨fun _ => hyes, fun _ => rfl⟩, hcap, hS.kp⟩)
  try (exfalso; first | with_reducible exact absurd hc0 Bool.false_ne_true | with_reducible exact absurd hc0.symm Bool.false_ne_true | (simp only [nrm] at hc0; omega) | (simp at hc0; done))
  all_goals
   try simp only [nrm] at hc0
   refine wp_skip ?_
   refine then_n (hK2 _ _ ?_); clear hK2 K2
   refine wp_seq_k ?_; intro K6 hK6
   refine cutc [4, 12, 13, 14, 15, 16, 17, 18] (fun g w => ∃ (g3_7 : Nat), g 4 = .pointer (some ⟨g3_7, 0, none⟩) ∧ St [] w0 [.blk g3_7 25 [.int .i64 ((l.getD 0 0 : Nat) : Int), .int .u64 ((getN l 1 8 : Nat) : Int), .slice none 0 0], .blk g0_0 25 (fmV 0 0 none 0 0), .vw (some ⟨b0, o0, none⟩) (l.map u8v)] w) ?_ ?_
   · skip
     refine rg_startk 0 hS mixed_ ?_
     clear hS; intro w hS
     refine rg_take 0 rfl rfl (by kernel_rfl) (by kernel_rfl) (by kernel_rfl) (want_0) (fun w hok => x_move (tmS rfl rfl)) ?_
     refine rg_take 1 rfl rfl (by kernel_rfl) (by kernel_rfl) (by kernel_rfl) (want_0) (fun w hok => x_ixs1 Try.underlying26 ts_5 (tmS rfl rfl) (ev_cN 0) (by omega)) ?_
     first
      | refine rg_take 2 rfl rfl (by kernel_rfl) (by kernel_rfl) (by kernel_rfl) (want_0) (fun w hok => x_load Try.underlying5 rfl (tmP rfl rfl) (cellV hok 1 rfl rfl)) ?_
      | refine rg_take 2 rfl rfl (by kernel_rfl) (by kernel_rfl) (by kernel_rfl) (want_0) (fun w hok => x_load Try.underlying5 rfl (tmP rfl rfl) (cellV hok 1 rfl (getm (by omega)))) ?_
      | refine rg_take 2 rfl rfl (by kernel_rfl) (by kernel_rfl) (by kernel_rfl) (want_0) (fun w hok => x_load Try.underlying5 rfl (tmP rfl rfl) (cellVs hok 1 rfl (fun _ => rfl) rfl (by omega) rfl)) ?_
     first
      | refine rg_take 3 rfl rfl (by kernel_rfl) (by kernel_rfl) (by kernel_rfl) (want_0) (fun w hok => x_convN Try.underlying5 Try.underlying3 (tmI rfl rfl) (fit_i64 (by omega))) ?_
      | refine rg_take 3 rfl rfl (by kernel_rfl) (by kernel_rfl) (by kernel_rfl) (want_0) (fun w hok => x_conv Try.underlying5 Try.underlying3 (tmI rfl rfl)) ?_
     refine rg_take 4 rfl rfl (by kernel_rfl) (by kernel_rfl) (by kernel_rfl) (want_0) (fun w hok => x_move (tmS rfl rfl)) ?_
     refine rg_step2 5 7 rfl rfl (by kernel_rfl) (want_0) (want_0) (oks_drop hS 0 rfl) ?_ ?_
     · intro K hK
       refine ow_call Try.func22 rfl rfl (evs_cons (tmS rfl rfl) <| evs_cons (ev_cN 1) <| evs_cons (ev_cN 8) <| evs_nil) (get_c n _ c l 1 8 _ (viewV hS.ok 1 rfl) hl hc hn4 hb (by omega) (by omega)) ?_
       rintro e w ⟨rfl, hk⟩
       refine ⟨_, rfl, ?_⟩
       replace hS := hS.kept hk
       clear hk
       refine hK _ _ ?_; clear hK K
       refine rg_take 6 rfl rfl (by kernel_rfl) (by kernel_rfl) (by kernel_rfl) (want_0) (fun w hok => x_build (bc_take (tmI rfl rfl) <| bc_take (tmI rfl rfl) <| bc_skip (.slice none 0 0) <| bc_nil) (by kernel_rfl)) ?_
       refine rg_step 7 rfl (by kernel_rfl) (want_0) (oks_drop hS 0 rfl) ?_; intro K hK
       refine ow_alloc hS tz_25 rfl ?_
       clear hS; intro g3_7 w hg3_7 hS
       refine hK _ _ ?_; clear hK K
       refine rg_step 8 rfl (by kernel_rfl) (want_0) (oks_drop hS 1 rfl) ?_; intro K hK
       refine ow_storeA hS 0 rfl ts_25 (tmP rfl rfl) (tmA rfl rfl) rfl rfl rfl ?_
       clear hS; intro w hS
       try replace hS := St.nm (M' := [.blk _ _ [_, _, _], .blk _ _ [_, _, _], .vw _ _]) hS rfl
       refine hK _ _ ?_; clear hK K
       refine rg_done (oks_drop hS 1 rfl) (by kernel_rfl) ?_
       exact then_n ⟨_, rfl, (by repeat (first | exact agree_self | exact agree_refl | refine agree_upd rfl ?_ | refine agree_mix rfl ?_)), _, (by first | rfl | go_num | exact congrArg (Value.int _) (by first | omega | (simp; done) | (simp; omega))), hS⟩
     · intro K hK
       refine ow_alloc hS tz_25 rfl ?_
       clear hS; intro g3_7 w hg3_7 hS
       refine hK _ _ ?_; clear hK K
       refine rg_step 5 rfl (by kernel_rfl) (want_0) (oks_drop hS 1 rfl) ?_; intro K hK
       refine ow_call Try.func22 rfl rfl (evs_cons (tmS rfl rfl) <| evs_cons (ev_cN 1) <| evs_cons (ev_cN 8) <| evs_nil) (get_c n _ c l 1 8 _ (viewV hS.ok 2 rfl) hl hc hn4 hb (by omega) (by omega)) ?_
       rintro e w ⟨rfl, hk⟩
       refine ⟨_, rfl, ?_⟩
       replace hS := hS.kept hk
       clear hk
       refine hK _ _ ?_; clear hK K
       refine rg_take 6 rfl rfl (by kernel_rfl) (by kernel_rfl) (by kernel_rfl) (want_0) (fun w hok => x_build (bc_take (tmI rfl rfl) <| bc_take (tmI rfl rfl) <| bc_skip (.slice none 0 0) <| bc_nil) (by kernel_rfl)) ?_
       refine rg_step 8 rfl (by kernel_rfl) (want_0) (oks_drop hS 1 rfl) ?_; intro K hK
       refine ow_storeA hS 0 rfl ts_25 (tmP rfl rfl) (tmA rfl rfl) rfl rfl rfl ?_
       clear hS; intro w hS
       try replace hS := St.nm (M' := [.blk _ _ [_, _, _], .blk _ _ [_, _, _], .vw _ _]) hS rfl
       refine hK _ _ ?_; clear hK K
       refine rg_done (oks_drop hS 1 rfl) (by kernel_rfl) ?_
       exact then_n ⟨_, rfl, (by repeat (first | exact agree_self | exact agree_refl | refine agree_upd rfl ?_ | refine agree_mix rfl ?_)), _, (by first | rfl | go_num | exact congrArg (Value.int _) (by first | omega | (simp; done) | (simp; omega))), hS⟩
   · clear hS; intro g w hI
     obtain ⟨g3_7, hs4, hS⟩ := hI
     refine fr_knowQ (d := 4) hs4 ?_; clear hs4
     refine then_n (hK6 _ _ ?_); clear hK6 K6
     refine wp_seq_k ?_; intro K8 hK8
     refine wlit ?_
     refine wl_v (x_move (tmS rfl rfl)) ?_
     refine wl_v (x_ixs1 Try.underlying26 ts_5 (tmS rfl rfl) (ev_cN 9) (by omega)) ?_
     first
      | refine wl_v (x_load Try.underlying5 rfl (tmP rfl rfl) (cellV hS.ok 2 rfl rfl)) ?_
      | refine wl_v (x_load Try.underlying5 rfl (tmP rfl rfl) (cellV hS.ok 2 rfl (getm (by omega)))) ?_
      | refine wl_v (x_load Try.underlying5 rfl (tmP rfl rfl) (cellVs hS.ok 2 rfl (fun _ => rfl) rfl (by omega) rfl)) ?_
     first
      | refine wl_v (x_convN Try.underlying5 Try.underlying3 (tmI rfl rfl) (fit_i64 (by omega))) ?_
      | refine wl_v (x_conv Try.underlying5 Try.underlying3 (tmI rfl rfl)) ?_
     refine wl_v (x_assign (tmI rfl rfl)) ?_
     refine wl_nil ?_
     refine then_n (hK8 _ _ ?_); clear hK8 K8
     refine wp_seq_k ?_; intro K9 hK9
     refine wlit ?_
     refine wl_v (x_move (tmS rfl rfl)) ?_
     refine wl_v (x_sliceL Try.underlying26 ts_5 (tmS rfl rfl) (ev_cN 10) (by omega)) ?_
     refine wl_v (x_assign (tmS rfl rfl)) ?_
     refine wl_nil ?_
     refine then_n (hK9 _ _ ?_); clear hK9 K9
     refine wp_seq_k ?_; intro K10 hK10
     refine wp_seq_k ?_; intro K11 hK11
     refine wlit ?_
     refine wl_v (x_assign (ev_cN 0)) ?_
     refine wl_nil ?_
     refine then_n (hK11 _ _ ?_); clear hK11 K11
     refine wp_block ?_
     have hS := (hS.nilrow 26 1).pick [0, 1, 2, 3] rfl rfl --ents row,g3_7,g0_0,vw
     rw [← hfk, ← hfn] at hS
     refine lp [0, 3, 6, 7, 25, 26, 27, 28, 29, 30, 31, 32, 33, 34, 35, 36, 37, 38, 39, 40, 41, 42, 43, 44, 45, 46, 47, 48, 49, 50, 51, 52, 53, 54, 55, 56] (fun mz g w => ∃ (k p : Nat), ∃ (A1 : Option Addr), ∃ (c1 : Nat), ∃ (L : Option Addr), ∃ (cr : Nat), ∃ (rows : List Row3), mz = fcnt l n - k ∧ g 6 = .int .i64 (k : Int) ∧ g 0 = .slice A1 (n - p) c1 ∧ St [] w0 [.row (.slice L k cr) 26 1 k (rows.map rowV), .blk g3_7 25 (fmV (fkind l n : Int) (fnum l n) L k cr), .blk g0_0 25 (fmV 0 0 none 0 0), .vw (some ⟨b0, o0, none⟩) (l.map u8v)] w ∧ (k ≤ fcnt l n) ∧ (fq l n (q10 n) k = some p) ∧ (p ≤ n) ∧ (Off (some ⟨b0, o0, none⟩) p n A1) ∧ (n - p ≤ c1) ∧ (rows.map (·.2.1) = fparts l n (q10 n) k) ∧ (∀ r ∈ rows, Sub (some ⟨b0, o0, none⟩) l r.1 r.2.1)) ?_ ?_
     · exact ⟨_, 0, 10, cutA (some ⟨b0, o0, none⟩) 10 c 1, c - 10, none, 0, [], rfl, (by first | rfl | go_num | exact congrArg (Value.int _) (by first | omega | (simp; done) | (simp; omega))), (by first | rfl | go_num | exact congrArg (Value.int _) (by first | omega | (simp; done) | (simp; omega))), hS, (by omega), (by first | exact hq2 | exact e10), (by omega), (by first | exact hA2 | exact hA0), (by omega), (by first | exact hM2 | rfl), (by first | exact hsub2 | exact (fun r hr => absurd hr (List.not_mem_nil)))⟩
     · clear hS; intro mz g w hI
       obtain ⟨k, p, A1, c1, L, cr, rows, rfl, hs6, hs0, hS, hk, hq, hp, hA1, hcp1, hM, hsub⟩ := hI
       refine fr_know (d := 6) hs6 ?_; clear hs6
       refine fr_know (d := 0) hs0 ?_; clear hs0
       refine wp_seq_k ?_; intro K12 hK12
       refine wp_seq_k ?_; intro K13 hK13
       refine wlit ?_
       refine wl_v (x_move (tmI rfl rfl)) ?_
       refine wl_v (x_move (tmI rfl rfl)) ?_
       refine wl_v (x_lss (tmI rfl rfl) (tmI rfl rfl)) ?_
       refine wl_nil ?_
       refine then_n (hK13 _ _ ?_); clear hK13 K13
       refine cnd (tm rfl) (fun hc1 => ?_) (fun hc1 => ?_)
       · try (exfalso; first | with_reducible exact absurd hc1 Bool.false_ne_true | with_reducible exact absurd hc1.symm Bool.false_ne_true | (simp only [nrm] at hc1; omega) | (simp at hc1; done))
         all_goals
          try simp only [nrm] at hc1
          refine wp_skip ?_
          refine then_n (hK12 _ _ ?_); clear hK12 K12
          refine wp_seq_k ?_; intro K14 hK14
          refine wp_block ?_
          refine wp_seq_k ?_; intro K15 hK15
          have hld : (l.drop p).take (n - p) = l.drop p := List.take_of_length_le (by rw [List.length_drop]; omega)
          have hvp : View w w.heap.size A1 ((l.drop p).map u8v) := by
            have h := (sub_off hl hA1 (n - p)).1 _ _ (viewV hS.ok 3 rfl)
            rwa [hld] at h
          have hs2 : rdN l n 2 (some p) < 65536 := rdN_lt hb _
          refine wlit ?_
          refine wl_v (x_move (tmS rfl rfl)) ?_
          refine wl_e rfl ?_; intro K hK
          refine ow_call Try.func22 rfl rfl (evs_cons (tmS rfl rfl) <| evs_cons (ev_cN 0) <| evs_cons (ev_cN 2) <| evs_nil) (getat_c n (some ⟨b0, o0, none⟩) A1 c1 l p _ hvp hl hp hcp1 hn4 hb) ?_
          rintro e w ⟨rfl, hk2⟩
          refine ⟨_, rfl, ?_⟩
          replace hS := hS.kept hk2
          clear hk2
          obtain ⟨s, hs⟩ : ∃ s, s = rdN l n 2 (some p) := ⟨_, rfl⟩
          rw [← hs] at hs2 ⊢
          refine hK _ _ ?_; clear hK K
          first
           | refine wl_v (x_convN Try.underlying22 Try.underlying3 (tmI rfl rfl) (fit_i64 (by omega))) ?_
           | refine wl_v (x_conv Try.underlying22 Try.underlying3 (tmI rfl rfl)) ?_
          refine wl_v (x_assign (tmI rfl rfl)) ?_
          refine wl_nil ?_
          refine then_n (hK15 _ _ ?_); clear hK15 K15
          refine wp_seq_k ?_; intro K16 hK16
          refine wp_seq_k ?_; intro K17 hK17
          refine wlit ?_
          refine wl_v (x_move (tmS rfl rfl)) ?_
          refine wl_v (x_len Try.underlying26 (tmS rfl rfl)) ?_
          refine wl_v (x_lss (tmI rfl rfl) (ev_cN 2)) ?_
          refine wl_v (x_move (tmB rfl rfl)) ?_
          refine gs_wl (tm (t := 36) rfl) (fun hg10_3 => ?_) (fun hg10_3 => ?_)
          · have hg10_3' := hg10_3; (try simp only [nrm] at hg10_3'); try (exfalso; first | with_reducible exact absurd hg10_3 Bool.false_ne_true | with_reducible exact absurd hg10_3.symm Bool.false_ne_true | omega | (simp at hg10_3; done))
            all_goals
             refine wl_s rfl (want_n rfl rfl rfl rfl (by rw [hg10_3]; rfl)) ?_
             refine wl_s rfl (want_n rfl rfl rfl rfl (by rw [hg10_3]; rfl)) ?_
             refine wl_s rfl (want_n rfl rfl rfl rfl (by rw [hg10_3]; rfl)) ?_
             refine wl_s rfl (want_n rfl rfl rfl rfl (by rw [hg10_3]; rfl)) ?_
             refine wl_s rfl (want_n rfl rfl rfl rfl (by rw [hg10_3]; rfl)) ?_
             refine wl_v (x_pickT (tmB rfl rfl) hg10_3 ev_c) ?_
             refine wl_nil ?_
             refine then_n (hK17 _ _ ?_); clear hK17 K17
             refine cnd_t (tmB rfl rfl) rfl ?_
             refine wp_seq_k ?_; intro K18 hK18
             have hno : ¬ fOk l n := fend_none (k := k + 1) (by
               show adv n (rdN l n 2 (fq l n (q10 n) k)) (adv n 2 (fq l n (q10 n) k)) = none
               rw [hq, ← hs]
               by_cases h2 : p + 2 ≤ n
               · rw [show adv n 2 (some p) = some (p + 2) from if_pos h2]
                 exact if_neg (by omega)
               · rw [show adv n 2 (some p) = none from if_neg h2]
                 rfl) (by omega)
             refine wlit ?_
             refine wl_v (x_build (bc_skip (.int .i64 0) <| bc_skip (.int .u64 0) <| bc_skip (.slice none 0 0) <| bc_nil) (by kernel_rfl)) ?_
             refine wl_e rfl ?_; intro K hK
             refine ow_storeA hS 2 rfl ts_25 (tmP rfl rfl) (tmA rfl rfl) rfl rfl rfl ?_
             clear hS; intro w hS
             try replace hS := St.nm (M' := [.row _ _ _ _ _, .blk _ _ [_, _, _], .blk _ _ [_, _, _], .vw _ _]) hS rfl
             refine hK _ _ ?_; clear hK K
             refine wl_v (x_assign ev_c) ?_
             refine wl_nil ?_
             refine then_n (hK18 _ _ ?_); clear hK18 K18
             refine wp_ret ?_
             refine then_r ?_
             refine inb_r ?_
             refine then_r ?_
             refine then_r ?_
             refine inb_r ?_
             refine then_r ?_
             refine ret2 rfl (.cell rfl rfl (load_rowB (cs := [_, _, _]) hS.ok 2 rfl Try.underlying25 rfl ts_25 rfl)) (.tmp rfl (show _ = Value.bool _ from rfl)) ?_
             first
               | exact ⟨0, 0, none, 0, 0, [], false, rfl, ⟨rfl, NewV.nil_ _ _ _, (fun r hr => absurd hr List.not_mem_nil), (fun r hr => absurd hr List.not_mem_nil), .inr ⟨hno, rfl, rfl, rfl⟩⟩, ⟨fun h => (by cases h), fun h => absurd h hno⟩, Nat.le_refl _, hS.kp⟩
               | (have hno : ¬ fOk l n := by
                    rintro ⟨h1, h2⟩
                    rw [hfe] at h2
                    injection h2 with h2
                    first
                      | exact hc3 (hiff.2 h1)
                      | omega
                  exact ⟨0, 0, none, 0, 0, [], false, rfl, ⟨rfl, NewV.nil_ _ _ _, (fun r hr => absurd hr List.not_mem_nil), (fun r hr => absurd hr List.not_mem_nil), .inr ⟨hno, rfl, rfl, rfl⟩⟩, ⟨fun h => (by cases h), fun h => absurd h hno⟩, Nat.le_refl _, hS.kp⟩)
               | (have hyes : fOk l n := ⟨hiff.1 hc3, by rw [hfe, show p = n from by omega]⟩
                  exact ⟨_, _, L, fcnt l n, cr, rows, true, rfl, ⟨hrl, hS.newv 0 rfl, (fun r hr => (hsub r hr).1 _ _ (viewV hS.ok 3 rfl)), hby, .inl ⟨hyes, rfl, rfl, hM⟩⟩, ⟨fun _ => hyes, fun _ => rfl⟩, hcap, hS.kp⟩)
          have hg10_3' := hg10_3; (try simp only [nrm] at hg10_3'); try (exfalso; first | with_reducible exact absurd hg10_3 Bool.false_ne_true | with_reducible exact absurd hg10_3.symm Bool.false_ne_true | omega | (simp at hg10_3; done))
          all_goals
           refine wl_gv (want_y rfl rfl rfl rfl (by rw [hg10_3]; rfl)) (x_move (tmS rfl rfl)) ?_
           refine wl_gv (want_y rfl rfl rfl rfl (by rw [hg10_3]; rfl)) (x_len Try.underlying26 (tmS rfl rfl)) ?_
           refine wl_gv (want_y rfl rfl rfl rfl (by rw [hg10_3]; rfl)) (x_move (tmI rfl rfl)) ?_
           first
            | refine wl_gv (want_y rfl rfl rfl rfl (by rw [hg10_3]; rfl)) (x_addN (ev_cN 2) (tmI rfl rfl) (fit_i64 (by omega))) ?_
            | refine wl_gv (want_y rfl rfl rfl rfl (by rw [hg10_3]; rfl)) (x_addI (ev_cN 2) (tmI rfl rfl) (IntWalk.i64_in _ (by omega))) ?_
            | refine wl_gv (want_y rfl rfl rfl rfl (by rw [hg10_3]; rfl)) (x_add (ev_cN 2) (tmI rfl rfl)) ?_
           refine wl_gv (want_y rfl rfl rfl rfl (by rw [hg10_3]; rfl)) (x_lss (tmI rfl rfl) (tmI rfl rfl)) ?_
           refine wl_v (x_pickF (tmB rfl rfl) hg10_3 (tmB rfl rfl)) ?_
           refine wl_nil ?_
           refine then_n (hK17 _ _ ?_); clear hK17 K17
           refine cnd (tm rfl) (fun hc2 => ?_) (fun hc2 => ?_)
           · try (exfalso; first | with_reducible exact absurd hc2 Bool.false_ne_true | with_reducible exact absurd hc2.symm Bool.false_ne_true | (simp only [nrm] at hc2; omega) | (simp at hc2; done))
             all_goals
              try simp only [nrm] at hc2
              refine wp_seq_k ?_; intro K20 hK20
              have hno : ¬ fOk l n := fend_none (k := k + 1) (by
                show adv n (rdN l n 2 (fq l n (q10 n) k)) (adv n 2 (fq l n (q10 n) k)) = none
                rw [hq, ← hs]
                by_cases h2 : p + 2 ≤ n
                · rw [show adv n 2 (some p) = some (p + 2) from if_pos h2]
                  exact if_neg (by omega)
                · rw [show adv n 2 (some p) = none from if_neg h2]
                  rfl) (by omega)
              refine wlit ?_
              refine wl_v (x_build (bc_skip (.int .i64 0) <| bc_skip (.int .u64 0) <| bc_skip (.slice none 0 0) <| bc_nil) (by kernel_rfl)) ?_
              refine wl_e rfl ?_; intro K hK
              refine ow_storeA hS 2 rfl ts_25 (tmP rfl rfl) (tmA rfl rfl) rfl rfl rfl ?_
              clear hS; intro w hS
              try replace hS := St.nm (M' := [.row _ _ _ _ _, .blk _ _ [_, _, _], .blk _ _ [_, _, _], .vw _ _]) hS rfl
              refine hK _ _ ?_; clear hK K
              refine wl_v (x_assign ev_c) ?_
              refine wl_nil ?_
              refine then_n (hK20 _ _ ?_); clear hK20 K20
              refine wp_ret ?_
              refine then_r ?_
              refine inb_r ?_
              refine then_r ?_
              refine then_r ?_
              refine inb_r ?_
              refine then_r ?_
              refine ret2 rfl (.cell rfl rfl (load_rowB (cs := [_, _, _]) hS.ok 2 rfl Try.underlying25 rfl ts_25 rfl)) (.tmp rfl (show _ = Value.bool _ from rfl)) ?_
              first
                | exact ⟨0, 0, none, 0, 0, [], false, rfl, ⟨rfl, NewV.nil_ _ _ _, (fun r hr => absurd hr List.not_mem_nil), (fun r hr => absurd hr List.not_mem_nil), .inr ⟨hno, rfl, rfl, rfl⟩⟩, ⟨fun h => (by cases h), fun h => absurd h hno⟩, Nat.le_refl _, hS.kp⟩
                | (have hno : ¬ fOk l n := by
                     rintro ⟨h1, h2⟩
                     rw [hfe] at h2
                     injection h2 with h2
                     first
                       | exact hc3 (hiff.2 h1)
                       | omega
                   exact ⟨0, 0, none, 0, 0, [], false, rfl, ⟨rfl, NewV.nil_ _ _ _, (fun r hr => absurd hr List.not_mem_nil), (fun r hr => absurd hr List.not_mem_nil), .inr ⟨hno, rfl, rfl, rfl⟩⟩, ⟨fun h => (by cases h), fun h => absurd h hno⟩, Nat.le_refl _, hS.kp⟩)
                | (have hyes : fOk l n := ⟨hiff.1 hc3, by rw [hfe, show p = n from by omega]⟩
                   exact ⟨_, _, L, fcnt l n, cr, rows, true, rfl, ⟨hrl, hS.newv 0 rfl, (fun r hr => (hsub r hr).1 _ _ (viewV hS.ok 3 rfl)), hby, .inl ⟨hyes, rfl, rfl, hM⟩⟩, ⟨fun _ => hyes, fun _ => rfl⟩, hcap, hS.kp⟩)
           try (exfalso; first | with_reducible exact absurd hc2 Bool.false_ne_true | with_reducible exact absurd hc2.symm Bool.false_ne_true | (simp only [nrm] at hc2; omega) | (simp at hc2; done))
           all_goals
            try simp only [nrm] at hc2
            have h2 : p + 2 + s ≤ n := by omega
            have ha2 : adv n 2 (some p) = some (p + 2) := if_pos (by omega)
            have hq2 : fq l n (q10 n) (k + 1) = some (p + 2 + s) := by
              show adv n (rdN l n 2 (fq l n (q10 n) k)) (adv n 2 (fq l n (q10 n) k)) = _
              rw [hq, ← hs, ha2]
              exact if_pos h2
            have hfx : fx l n (q10 n) k = (l.drop (p + 2)).take s := by
              unfold fx
              rw [hq, ← hs, ha2]
              exact if_pos h2
            have hxl : (fx l n (q10 n) k).length = 2 + s - 2 := by rw [hfx, List.length_take, List.length_drop]; omega
            have hsB : Sub (some ⟨b0, o0, none⟩) l (cutA A1 2 c1 1) (fx l n (q10 n) k) := by rw [hfx]; exact sub_off hl (off_cut hA1 hcp1) s
            have hA2 : Off (some ⟨b0, o0, none⟩) (p + 2 + s) n (cutA A1 (2 + s) c1 1) := by
              have h := off_cut (k := 2 + s) hA1 hcp1
              rwa [← Nat.add_assoc] at h
            refine wp_skip ?_
            refine then_n (hK16 _ _ ?_); clear hK16 K16
            refine wp_seq_k ?_; intro K22 hK22
            refine cutc [44, 45, 46, 47, 48, 49, 50, 51, 52] (fun g w => ∃ (L2 : Option Addr), ∃ (cr2 : Nat), ∃ (rows2 : List Row3), St [] w0 [.row (.slice L2 (k + 1) cr2) 26 1 (k + 1) (rows2.map rowV), .blk g3_7 25 (fmV (fkind l n : Int) (fnum l n) L2 (k + 1) cr2), .blk g0_0 25 (fmV 0 0 none 0 0), .vw (some ⟨b0, o0, none⟩) (l.map u8v)] w ∧ (rows2.map (·.2.1) = fparts l n (q10 n) (k + 1)) ∧ (∀ r ∈ rows2, Sub (some ⟨b0, o0, none⟩) l r.1 r.2.1)) ?_ ?_
            · skip
              refine rg_startk 2 hS mixed_ ?_
              clear hS; intro w hS
              refine rg_take 0 rfl rfl (by kernel_rfl) (by kernel_rfl) (by kernel_rfl) (want_0) (fun w hok => x_fa 2 Try.underlying25 rfl rfl ts_23 (tmP rfl rfl)) ?_
              refine rg_take 2 rfl rfl (by kernel_rfl) (by kernel_rfl) (by kernel_rfl) (want_0) (fun w hok => x_move (tmS rfl rfl)) ?_
              refine rg_take 3 rfl rfl (by kernel_rfl) (by kernel_rfl) (by kernel_rfl) (want_0) (fun w hok => x_move (tmI rfl rfl)) ?_
              first
               | refine rg_take 4 rfl rfl (by kernel_rfl) (by kernel_rfl) (by kernel_rfl) (want_0) (fun w hok => x_addN (ev_cN 2) (tmI rfl rfl) (fit_i64 (by omega))) ?_
               | refine rg_take 4 rfl rfl (by kernel_rfl) (by kernel_rfl) (by kernel_rfl) (want_0) (fun w hok => x_addI (ev_cN 2) (tmI rfl rfl) (IntWalk.i64_in _ (by omega))) ?_
               | refine rg_take 4 rfl rfl (by kernel_rfl) (by kernel_rfl) (by kernel_rfl) (want_0) (fun w hok => x_add (ev_cN 2) (tmI rfl rfl)) ?_
              refine rg_take 5 rfl rfl (by kernel_rfl) (by kernel_rfl) (by kernel_rfl) (want_0) (fun w hok => x_sliceLH Try.underlying26 ts_5 (tmS rfl rfl) (ev_cN 2) (tmI rfl rfl) (by omega)) ?_
              refine rg_step2 1 6 rfl rfl (by kernel_rfl) (want_0) (want_0) (oks_drop hS 2 rfl) ?_ ?_
              · intro K hK
                first
                 | refine ow_v (x_load Try.underlying23 rfl (tmP rfl rfl) (cellB hS.ok 1 rfl rfl)) ?_
                 | refine ow_v (x_load Try.underlying23 rfl (tmP rfl rfl) (cellB hS.ok 1 rfl (getm (by omega)))) ?_
                refine hK _ _ ?_; clear hK K
                refine rg_step 6 rfl (by kernel_rfl) (want_0) (oks_drop hS 2 rfl) ?_; intro K hK
                refine ow_build hS Try.underlying23 tz_26 (bc_take (tmS rfl rfl) <| bc_nil) rfl rfl (by kernel_rfl) ?_
                clear hS; intro g12_6 w hg12_6 hS
                refine hK _ _ ?_; clear hK K
                refine rg_step 7 rfl (by kernel_rfl) (want_0) (oks_drop hS 3 rfl) ?_; intro K hK
                (refine ow_append hS 1 0 rfl rfl Try.underlying23 tz_26 rfl (tmS rfl rfl) (tmS rfl rfl) rfl ⟨by decide, by decide, rfl⟩ (by simp only [maxLen]; omega) (by omega) ?_; clear hS; intro g12_7 cg12_7 w hS)
                refine hK _ _ ?_; clear hK K
                refine rg_take 8 rfl rfl (by kernel_rfl) (by kernel_rfl) (by kernel_rfl) (want_0) (fun w hok => x_fa 2 Try.underlying25 rfl rfl ts_23 (tmP rfl rfl)) ?_
                refine rg_step 9 rfl (by kernel_rfl) (want_0) (oks_drop hS 3 rfl) ?_; intro K hK
                first
                 | refine ow_store hS 2 rfl ts_23 (tmP rfl rfl) (tmS rfl rfl) rfl rfl ?_
                 | refine ow_storeX hS 2 rfl ts_23 (tmP rfl rfl) (tmS rfl rfl) rfl (by simp; omega) ?_
                clear hS; intro w hS
                try replace hS := St.nm (M' := [_, .row _ _ _ _ _, .blk _ _ [_, _, _], .blk _ _ [_, _, _], .vw _ _]) hS rfl
                refine hK _ _ ?_; clear hK K
                refine rg_done (oks_drop hS 3 rfl) (by kernel_rfl) ?_
                exact then_n ⟨_, rfl, (by repeat (first | exact agree_self | exact agree_refl | refine agree_upd rfl ?_ | refine agree_mix rfl ?_)), _, _, rows ++ [(cutA A1 2 c1 1, fx l n (q10 n) k, c1 - 2)], (by rw [rows_snoc, show rowV (cutA A1 2 c1 1, fx l n (q10 n) k, c1 - 2) = .slice (cutA A1 2 c1 1) (2 + s - 2) (c1 - 2) from by rw [← hxl]; rfl]; exact hS.pick [1, 2, 3, 4] rfl rfl), (by (rw [List.map_append, hM, fparts_succ]; rfl)), (by (intro r hr; rcases List.mem_append.1 hr with hr | hr; exact hsub r hr; obtain rfl := List.mem_singleton.1 hr; exact hsB))⟩
              · intro K hK
                refine ow_build hS Try.underlying23 tz_26 (bc_take (tmS rfl rfl) <| bc_nil) rfl rfl (by kernel_rfl) ?_
                clear hS; intro g12_6 w hg12_6 hS
                refine hK _ _ ?_; clear hK K
                refine rg_step 1 rfl (by kernel_rfl) (want_0) (oks_drop hS 3 rfl) ?_; intro K hK
                first
                 | refine ow_v (x_load Try.underlying23 rfl (tmP rfl rfl) (cellB hS.ok 2 rfl rfl)) ?_
                 | refine ow_v (x_load Try.underlying23 rfl (tmP rfl rfl) (cellB hS.ok 2 rfl (getm (by omega)))) ?_
                refine hK _ _ ?_; clear hK K
                refine rg_step 7 rfl (by kernel_rfl) (want_0) (oks_drop hS 3 rfl) ?_; intro K hK
                (refine ow_append hS 1 0 rfl rfl Try.underlying23 tz_26 rfl (tmS rfl rfl) (tmS rfl rfl) rfl ⟨by decide, by decide, rfl⟩ (by simp only [maxLen]; omega) (by omega) ?_; clear hS; intro g12_7 cg12_7 w hS)
                refine hK _ _ ?_; clear hK K
                refine rg_take 8 rfl rfl (by kernel_rfl) (by kernel_rfl) (by kernel_rfl) (want_0) (fun w hok => x_fa 2 Try.underlying25 rfl rfl ts_23 (tmP rfl rfl)) ?_
                refine rg_step 9 rfl (by kernel_rfl) (want_0) (oks_drop hS 3 rfl) ?_; intro K hK
                first
                 | refine ow_store hS 2 rfl ts_23 (tmP rfl rfl) (tmS rfl rfl) rfl rfl ?_
                 | refine ow_storeX hS 2 rfl ts_23 (tmP rfl rfl) (tmS rfl rfl) rfl (by simp; omega) ?_
                clear hS; intro w hS
                try replace hS := St.nm (M' := [_, .row _ _ _ _ _, .blk _ _ [_, _, _], .blk _ _ [_, _, _], .vw _ _]) hS rfl
                refine hK _ _ ?_; clear hK K
                refine rg_done (oks_drop hS 3 rfl) (by kernel_rfl) ?_
                exact then_n ⟨_, rfl, (by repeat (first | exact agree_self | exact agree_refl | refine agree_upd rfl ?_ | refine agree_mix rfl ?_)), _, _, rows ++ [(cutA A1 2 c1 1, fx l n (q10 n) k, c1 - 2)], (by rw [rows_snoc, show rowV (cutA A1 2 c1 1, fx l n (q10 n) k, c1 - 2) = .slice (cutA A1 2 c1 1) (2 + s - 2) (c1 - 2) from by rw [← hxl]; rfl]; exact hS.pick [1, 2, 3, 4] rfl rfl), (by (rw [List.map_append, hM, fparts_succ]; rfl)), (by (intro r hr; rcases List.mem_append.1 hr with hr | hr; exact hsub r hr; obtain rfl := List.mem_singleton.1 hr; exact hsB))⟩
            · clear hS; intro g w hI
              obtain ⟨L2, cr2, rows2, hS, hM2, hsub2⟩ := hI
              refine then_n (hK22 _ _ ?_); clear hK22 K22
              refine wlit ?_
              refine wl_v (x_move (tmS rfl rfl)) ?_
              refine wl_v (x_move (tmI rfl rfl)) ?_
              first
               | refine wl_v (x_addN (ev_cN 2) (tmI rfl rfl) (fit_i64 (by omega))) ?_
               | refine wl_v (x_addI (ev_cN 2) (tmI rfl rfl) (IntWalk.i64_in _ (by omega))) ?_
               | refine wl_v (x_add (ev_cN 2) (tmI rfl rfl)) ?_
              refine wl_v (x_sliceL Try.underlying26 ts_5 (tmS rfl rfl) (tmI rfl rfl) (by omega)) ?_
              refine wl_v (x_assign (tmS rfl rfl)) ?_
              refine wl_nil ?_
              refine inb_n ?_
              refine then_n (hK14 _ _ ?_); clear hK14 K14
              refine wlit ?_
              refine wl_v (x_move (tmI rfl rfl)) ?_
              first
               | refine wl_v (x_addN (tmI rfl rfl) (ev_cN 1) (fit_i64 (by omega))) ?_
               | refine wl_v (x_addI (tmI rfl rfl) (ev_cN 1) (IntWalk.i64_in _ (by omega))) ?_
               | refine wl_v (x_add (tmI rfl rfl) (ev_cN 1)) ?_
              refine wl_v (x_assign (tmI rfl rfl)) ?_
              refine wl_nil ?_
              exact then_n ⟨_, _, rfl, (by show _ < _; omega), (by repeat (first | exact agree_self | exact agree_refl | refine agree_upd rfl ?_ | refine agree_mix rfl ?_)), k + 1, p + 2 + s, cutA A1 (2 + s) c1 1, c1 - (2 + s), L2, cr2, rows2, rfl, (by first | rfl | go_num | exact congrArg (Value.int _) (by first | omega | (simp; done) | (simp; omega))), (by first | rfl | (first | rfl | exact congrArg (fun q : Nat => Value.slice (cutA A1 (2 + s) c1 1) q (c1 - (2 + s))) (by omega); done) | (first | rfl | exact congrArg (fun q : Nat => Value.slice (cutA A1 (2 + s) c1 1) q (c1 - (2 + s))) (by omega); rfl) | (first | rfl | exact congrArg (fun q : Nat => Value.slice (cutA A1 (2 + s) c1 1) q (c1 - (2 + s))) (by omega); go_num)), hS, (by omega), (by first | exact hq2 | exact e10), (by omega), (by first | exact hA2 | exact hA0), (by omega), (by first | exact hM2 | rfl), (by first | exact hsub2 | exact (fun r hr => absurd hr (List.not_mem_nil)))⟩
       try (exfalso; first | with_reducible exact absurd hc1 Bool.false_ne_true | with_reducible exact absurd hc1.symm Bool.false_ne_true | (simp only [nrm] at hc1; omega) | (simp at hc1; done))
       all_goals
        try simp only [nrm] at hc1
        refine wp_exit ?_
        refine then_x ?_; clear hK12 K12
        refine then_x ?_
        refine inb_x ?_
        refine then_n (hK10 _ _ ?_); clear hK10 K10
        refine wp_seq_k ?_; intro K24 hK24
        refine wp_seq_k ?_; intro K25 hK25
        obtain rfl : fcnt l n = k := by omega
        have hrl : rows.length = fcnt l n := by have := congrArg List.length hM; rwa [List.length_map, fparts_len] at this
        have hle : ∀ r ∈ rows, r.2.1.length ≤ 65535 := fun r hr => by obtain ⟨i, hi⟩ := rows_mem hM hr; rw [hi]; exact fx_len hl hb _ _
        have hby : ∀ r ∈ rows, Bytes r.2.1 := fun r hr => by obtain ⟨i, hi⟩ := rows_mem hM hr; rw [hi]; exact fx_bytes hb _ _
        have hcap := row_cap (hS.rowOk 0 rfl) (by decide)
        have hiff : frP (fkind l n : Int) rows ↔ frLens (fkind l n : Int) (fparts l n (q10 n) (fcnt l n)) := by rw [frP_lens, hM]
        have hfe : fend l n = some p := hq
        have hf256 : fcnt l n < 256 := by omega
        refine wlit ?_
        refine wl_v (x_move (tmS rfl rfl)) ?_
        refine wl_v (x_len Try.underlying26 (tmS rfl rfl)) ?_
        refine wl_v (x_gtr (tmI rfl rfl) (ev_cN 0)) ?_
        refine wl_v (x_move (tmB rfl rfl)) ?_
        refine gs_wl (tm (t := 60) rfl) (fun hg14_3 => ?_) (fun hg14_3 => ?_)
        · have hg14_3' := hg14_3; (try simp only [nrm] at hg14_3'); try (exfalso; first | with_reducible exact absurd hg14_3 Bool.false_ne_true | with_reducible exact absurd hg14_3.symm Bool.false_ne_true | omega | (simp at hg14_3; done))
          all_goals
           refine wl_s rfl (want_n rfl rfl rfl rfl (by rw [hg14_3]; rfl)) ?_
           refine wl_s rfl (want_n rfl rfl rfl rfl (by rw [hg14_3]; rfl)) ?_
           refine wl_s rfl (want_n rfl rfl rfl rfl (by rw [hg14_3]; rfl)) ?_
           refine wl_v (x_pickT (tmB rfl rfl) hg14_3 ev_c) ?_
           refine wl_nil ?_
           refine then_n (hK25 _ _ ?_); clear hK25 K25
           refine cnd_t (tmB rfl rfl) rfl ?_
           refine wp_seq_k ?_; intro K26 hK26
           refine wlit ?_
           refine wl_v (x_build (bc_skip (.int .i64 0) <| bc_skip (.int .u64 0) <| bc_skip (.slice none 0 0) <| bc_nil) (by kernel_rfl)) ?_
           refine wl_e rfl ?_; intro K hK
           refine ow_storeA hS 2 rfl ts_25 (tmP rfl rfl) (tmA rfl rfl) rfl rfl rfl ?_
           clear hS; intro w hS
           try replace hS := St.nm (M' := [.row _ _ _ _ _, .blk _ _ [_, _, _], .blk _ _ [_, _, _], .vw _ _]) hS rfl
           refine hK _ _ ?_; clear hK K
           refine wl_v (x_assign ev_c) ?_
           refine wl_nil ?_
           refine then_n (hK26 _ _ ?_); clear hK26 K26
           refine wp_ret ?_
           refine then_r ?_
           refine ret2 rfl (.cell rfl rfl (load_rowB (cs := [_, _, _]) hS.ok 2 rfl Try.underlying25 rfl ts_25 rfl)) (.tmp rfl (show _ = Value.bool _ from rfl)) ?_
           first
             | exact ⟨0, 0, none, 0, 0, [], false, rfl, ⟨rfl, NewV.nil_ _ _ _, (fun r hr => absurd hr List.not_mem_nil), (fun r hr => absurd hr List.not_mem_nil), .inr ⟨hno, rfl, rfl, rfl⟩⟩, ⟨fun h => (by cases h), fun h => absurd h hno⟩, Nat.le_refl _, hS.kp⟩
             | (have hno : ¬ fOk l n := by
                  rintro ⟨h1, h2⟩
                  rw [hfe] at h2
                  injection h2 with h2
                  first
                    | exact hc3 (hiff.2 h1)
                    | omega
                exact ⟨0, 0, none, 0, 0, [], false, rfl, ⟨rfl, NewV.nil_ _ _ _, (fun r hr => absurd hr List.not_mem_nil), (fun r hr => absurd hr List.not_mem_nil), .inr ⟨hno, rfl, rfl, rfl⟩⟩, ⟨fun h => (by cases h), fun h => absurd h hno⟩, Nat.le_refl _, hS.kp⟩)
             | (have hyes : fOk l n := ⟨hiff.1 hc3, by rw [hfe, show p = n from by omega]⟩
                exact ⟨_, _, L, fcnt l n, cr, rows, true, rfl, ⟨hrl, hS.newv 0 rfl, (fun r hr => (hsub r hr).1 _ _ (viewV hS.ok 3 rfl)), hby, .inl ⟨hyes, rfl, rfl, hM⟩⟩, ⟨fun _ => hyes, fun _ => rfl⟩, hcap, hS.kp⟩)
        have hg14_3' := hg14_3; (try simp only [nrm] at hg14_3'); try (exfalso; first | with_reducible exact absurd hg14_3 Bool.false_ne_true | with_reducible exact absurd hg14_3.symm Bool.false_ne_true | omega | (simp at hg14_3; done))
        all_goals
         refine wl_gv (want_y rfl rfl rfl rfl (by rw [hg14_3]; rfl)) (x_loadA (cs := [_, _, _]) Try.underlying25 rfl ts_25 (tmP rfl rfl) (rangeB hS.ok 1 rfl rfl)) ?_
         refine wl_g (want_y rfl rfl rfl rfl (by rw [hg14_3]; rfl)) ?_; intro K hK
         refine ow_call Try.func11 rfl rfl (evs_cons (tmA rfl rfl) <| evs_nil) (rfright_c (fkind l n : Int) (fnum l n) L (fcnt l n) cr rows _ (viewR hS.ok 0 rfl) hrl (by omega) (fun r hr => Nat.le_trans (hle r hr) (by decide))) ?_
         rintro e w ⟨rfl, hk2⟩
         refine ⟨_, rfl, ?_⟩
         replace hS := hS.kept hk2
         clear hk2
         refine hK _ _ ?_; clear hK K
         refine wl_gv (want_y rfl rfl rfl rfl (by rw [hg14_3]; rfl)) (x_not (tmB rfl rfl)) ?_
         refine wl_v (x_pickF (tmB rfl rfl) hg14_3 (tmB rfl rfl)) ?_
         refine wl_nil ?_
         refine then_n (hK25 _ _ ?_); clear hK25 K25
         refine cnd (tm rfl) (fun hc3 => ?_) (fun hc3 => ?_)
         · try (exfalso; first | with_reducible exact absurd hc3 Bool.false_ne_true | with_reducible exact absurd hc3.symm Bool.false_ne_true | (simp only [nrm] at hc3; omega) | (simp at hc3; done))
           all_goals
            try simp only [nrm] at hc3
            refine wp_seq_k ?_; intro K28 hK28
            refine wlit ?_
            refine wl_v (x_build (bc_skip (.int .i64 0) <| bc_skip (.int .u64 0) <| bc_skip (.slice none 0 0) <| bc_nil) (by kernel_rfl)) ?_
            refine wl_e rfl ?_; intro K hK
            refine ow_storeA hS 2 rfl ts_25 (tmP rfl rfl) (tmA rfl rfl) rfl rfl rfl ?_
            clear hS; intro w hS
            try replace hS := St.nm (M' := [.row _ _ _ _ _, .blk _ _ [_, _, _], .blk _ _ [_, _, _], .vw _ _]) hS rfl
            refine hK _ _ ?_; clear hK K
            refine wl_v (x_assign ev_c) ?_
            refine wl_nil ?_
            refine then_n (hK28 _ _ ?_); clear hK28 K28
            refine wp_ret ?_
            refine then_r ?_
            refine ret2 rfl (.cell rfl rfl (load_rowB (cs := [_, _, _]) hS.ok 2 rfl Try.underlying25 rfl ts_25 rfl)) (.tmp rfl (show _ = Value.bool _ from rfl)) ?_
            first
              | exact ⟨0, 0, none, 0, 0, [], false, rfl, ⟨rfl, NewV.nil_ _ _ _, (fun r hr => absurd hr List.not_mem_nil), (fun r hr => absurd hr List.not_mem_nil), .inr ⟨hno, rfl, rfl, rfl⟩⟩, ⟨fun h => (by cases h), fun h => absurd h hno⟩, Nat.le_refl _, hS.kp⟩
              | (have hno : ¬ fOk l n := by
                   rintro ⟨h1, h2⟩
                   rw [hfe] at h2
                   injection h2 with h2
                   first
                     | exact hc3 (hiff.2 h1)
                     | omega
                 exact ⟨0, 0, none, 0, 0, [], false, rfl, ⟨rfl, NewV.nil_ _ _ _, (fun r hr => absurd hr List.not_mem_nil), (fun r hr => absurd hr List.not_mem_nil), .inr ⟨hno, rfl, rfl, rfl⟩⟩, ⟨fun h => (by cases h), fun h => absurd h hno⟩, Nat.le_refl _, hS.kp⟩)
              | (have hyes : fOk l n := ⟨hiff.1 hc3, by rw [hfe, show p = n from by omega]⟩
                 exact ⟨_, _, L, fcnt l n, cr, rows, true, rfl, ⟨hrl, hS.newv 0 rfl, (fun r hr => (hsub r hr).1 _ _ (viewV hS.ok 3 rfl)), hby, .inl ⟨hyes, rfl, rfl, hM⟩⟩, ⟨fun _ => hyes, fun _ => rfl⟩, hcap, hS.kp⟩)
         try (exfalso; first | with_reducible exact absurd hc3 Bool.false_ne_true | with_reducible exact absurd hc3.symm Bool.false_ne_true | (simp only [nrm] at hc3; omega) | (simp at hc3; done))
         all_goals
          try simp only [nrm] at hc3
          refine wp_skip ?_
          refine then_n (hK24 _ _ ?_); clear hK24 K24
          refine wp_seq_k ?_; intro K30 hK30
          refine wlit ?_
          refine wl_v (x_loadA (cs := [_, _, _]) Try.underlying25 rfl ts_25 (tmP rfl rfl) (rangeB hS.ok 1 rfl rfl)) ?_
          refine wl_e rfl ?_; intro K hK
          refine ow_storeA hS 2 rfl ts_25 (tmP rfl rfl) (tmA rfl rfl) rfl rfl rfl ?_
          clear hS; intro w hS
          try replace hS := St.nm (M' := [.row _ _ _ _ _, .blk _ _ [_, _, _], .blk _ _ [_, _, _], .vw _ _]) hS rfl
          refine hK _ _ ?_; clear hK K
          refine wl_v (x_assign ev_c) ?_
          refine wl_nil ?_
          refine then_n (hK30 _ _ ?_); clear hK30 K30
          refine wp_ret ?_
          refine ret2 rfl (.cell rfl rfl (load_rowB (cs := [_, _, _]) hS.ok 2 rfl Try.underlying25 rfl ts_25 rfl)) (.tmp rfl (show _ = Value.bool _ from rfl)) ?_
          first
            | exact ⟨0, 0, none, 0, 0, [], false, rfl, ⟨rfl, NewV.nil_ _ _ _, (fun r hr => absurd hr List.not_mem_nil), (fun r hr => absurd hr List.not_mem_nil), .inr ⟨hno, rfl, rfl, rfl⟩⟩, ⟨fun h => (by cases h), fun h => absurd h hno⟩, Nat.le_refl _, hS.kp⟩
            | (have hno : ¬ fOk l n := by
                 rintro ⟨h1, h2⟩
                 rw [hfe] at h2
                 injection h2 with h2
                 first
                   | exact hc3 (hiff.2 h1)
                   | omega
               exact ⟨0, 0, none, 0, 0, [], false, rfl, ⟨rfl, NewV.nil_ _ _ _, (fun r hr => absurd hr List.not_mem_nil), (fun r hr => absurd hr List.not_mem_nil), .inr ⟨hno, rfl, rfl, rfl⟩⟩, ⟨fun h => (by cases h), fun h => absurd h hno⟩, Nat.le_refl _, hS.kp⟩)
            | (have hyes : fOk l n := ⟨hiff.1 hc3, by rw [hfe, show p = n from by omega]⟩
               exact ⟨_, _, L, fcnt l n, cr, rows, true, rfl, ⟨hrl, hS.newv 0 rfl, (fun r hr => (hsub r hr).1 _ _ (viewV hS.ok 3 rfl)), hby, .inl ⟨hyes, rfl, rfl, hM⟩⟩, ⟨fun _ => hyes, fun _ => rfl⟩, hcap, hS.kp⟩)
end Go.Proofs.Ytmokaeflnlajgaa
