
/- policy.Fits and what the law PolicyFits calls, by contract. Conditions: none but bounds. -/
import Derived.Test.YteocdobepgbnkaaLeastQ
import Derived.Test.YteocdobepgbnkaaSmoothG
import Derived.Test.YteocdobepgbnkaaJF
namespace Go.Proofs.Yteocdobepgbnkaa
open Go.RowKit
namespace PolicyF
/-- The one of two draws, as the program finds it. -/
def twoC (l : List Cn) (n a b : Nat) : Cn := if LessC (l.getD (b % n) default) (l.getD (a % n) default) then l.getD (b % n) default else l.getD (a % n) default
/-- The same, as the reference finds it. -/
def twoI (l : List Cn) (n a b : Nat) : Nat := if (l.getD (a % n) default).load < (l.getD (b % n) default).load then a % n else if (l.getD (b % n) default).load < (l.getD (a % n) default).load then b % n else min (a % n) (b % n)
theorem twoI_lt {l : List Cn} {n a b : Nat} (h0 : 0 < n) : twoI l n a b < n := by
  have h1 := Nat.mod_lt a h0
  have h2 := Nat.mod_lt b h0
  unfold twoI
  split
  · exact h1
  · split
    · exact h2
    · omega
theorem two_is {l : List Cn} {n a b : Nat} (hR : RightT l n) (h0 : 0 < n) : twoC l n a b = l.getD (twoI l n a b) default := by
  have h1 := Nat.mod_lt a h0
  have h2 := Nat.mod_lt b h0
  unfold twoC twoI
  generalize a % n = i at *
  generalize b % n = k at *
  by_cases c1 : (l.getD i default).load < (l.getD k default).load
  · rw [if_pos c1, if_neg (by unfold LessC; omega)]
  · rw [if_neg c1]
    by_cases c2 : (l.getD k default).load < (l.getD i default).load
    · rw [if_pos c2, if_pos (by unfold LessC; omega)]
    · rw [if_neg c2]
      rcases Nat.lt_trichotomy i k with h | h | h
      · have := right_inc hR i k h h2
        rw [if_neg (by unfold LessC; omega), Nat.min_eq_left (by omega)]
      · subst h
        rw [Nat.min_self]
        split <;> rfl
      · have := right_inc hR k i h h1
        rw [if_pos (by unfold LessC; omega), Nat.min_eq_right (by omega)]
set_option maxRecDepth 100000 in
set_option maxHeartbeats 4000000 in
theorem two_c (n : Nat) (A : Option Addr) (c : Nat) (l : List Cn) (a b : Nat) (w0 : World) (hv : View w0 w0.heap.size A (flat cnV l)) (hl : l.length = n) (hn4 : n ≤ 1000) (hn0 : 0 < n) (ha : a < 4294967296) (hb : b < 4294967296) :
    Calls Try.prog 27 #[.slice A n c, .int .u32 (a : Int), .int .u32 (b : Int)] w0 fun e w' => e = .returned (.tuple #[.agg (cnV (twoC l n a b)).toArray, .bool true]) ∧ Kp [] w0 w' := by
  have hS := (St.sv w0).vcons rfl hv
  have hfl := flat_length (enc := cnV) (l := l) cnV_len
  obtain ⟨b4, o4, rfl⟩ := view_some hv (by rw [hfl]; omega)
  have h1 := Nat.mod_lt a hn0
  have h2 := Nat.mod_lt b hn0
  refine ent (n := 51) Try.func27 rfl rfl ?_
  refine wp_seq_k ?_; intro K1 hK1
  refine wlit ?_
  refine wl_e rfl ?_; intro K hK
  refine ow_alloc hS tz_33 rfl ?_
  clear hS; intro g0_0 w hg0_0 hS
  refine hK _ _ ?_; clear hK K
  refine wl_v (x_assign ev_c) ?_
  refine wl_nil ?_
  refine then_n (hK1 _ _ ?_); clear hK1 K1
  refine wp_seq_k ?_; intro K2 hK2
  refine wp_seq_k ?_; intro K3 hK3
  refine wlit ?_
  refine wl_v (x_move (tmS rfl rfl)) ?_
  refine wl_v (x_len Try.underlying36 (tmS rfl rfl)) ?_
  refine wl_v (x_eql (tmI rfl rfl) (ev_cN 0)) ?_
  refine wl_nil ?_
  refine then_n (hK3 _ _ ?_); clear hK3 K3
  refine cnd (tm rfl) (fun hc0 => ?_) (fun hc0 => ?_)
  · exfalso
    simp only [nrm] at hc0
    omega
  try (exfalso; first | with_reducible exact absurd hc0 Bool.false_ne_true | with_reducible exact absurd hc0.symm Bool.false_ne_true | (simp only [nrm] at hc0; omega) | (simp at hc0; done))
  all_goals
   try simp only [nrm] at hc0
   refine wp_skip ?_
   refine then_n (hK2 _ _ ?_); clear hK2 K2
   refine wp_seq_k ?_; intro K4 hK4
   refine wlit ?_
   refine wl_v (x_move (tmS rfl rfl)) ?_
   refine wl_v (x_len Try.underlying36 (tmS rfl rfl)) ?_
   first
    | refine wl_v (x_convN Try.underlying3 Try.underlying31 (tmI rfl rfl) (fit_u32 (by omega))) ?_
    | refine wl_v (x_convU Try.underlying3 Try.underlying31 (tmI rfl rfl) rfl) ?_
    | refine wl_v (x_conv Try.underlying3 Try.underlying31 (tmI rfl rfl)) ?_
   refine wl_v (x_assign (tmI rfl rfl)) ?_
   refine wl_nil ?_
   refine then_n (hK4 _ _ ?_); clear hK4 K4
   refine wp_seq_k ?_; intro K5 hK5
   refine rg_startk 0 hS mixed_ ?_
   clear hS; intro w hS
   refine rg_take 0 rfl rfl (by kernel_rfl) (by kernel_rfl) (by kernel_rfl) (want_0) (fun w hok => x_move (tmS rfl rfl)) ?_
   refine rg_take 1 rfl rfl (by kernel_rfl) (by kernel_rfl) (by kernel_rfl) (want_0) (fun w hok => x_move (tmI rfl rfl)) ?_
   refine rg_take 2 rfl rfl (by kernel_rfl) (by kernel_rfl) (by kernel_rfl) (want_0) (fun w hok => x_move (tmI rfl rfl)) ?_
   first
    | refine rg_take 3 rfl rfl (by kernel_rfl) (by kernel_rfl) (by kernel_rfl) (want_0) (fun w hok => x_remN (tmI rfl rfl) (tmI rfl rfl) (by omega)) ?_
    | refine rg_take 3 rfl rfl (by kernel_rfl) (by kernel_rfl) (by kernel_rfl) (want_0) (fun w hok => x_rem (tmI rfl rfl) (tmI rfl rfl) (by omega)) ?_
   refine rg_take 4 rfl rfl (by kernel_rfl) (by kernel_rfl) (by kernel_rfl) (want_0) (fun w hok => x_ixs Try.underlying36 ts_33 (tmS rfl rfl) (tmI rfl rfl) (by omega)) ?_
   refine rg_take 5 rfl rfl (by kernel_rfl) (by kernel_rfl) (by kernel_rfl) (want_0) (fun w hok => x_loadA Try.underlying33 rfl (by exact ts_33) (tmP rfl rfl) (rangeVs hok 1 rfl (fun _ => rfl) (by omega))) ?_
   refine rg_take 6 rfl rfl (by kernel_rfl) (by kernel_rfl) (by kernel_rfl) (want_0) (fun w hok => x_move (tmS rfl rfl)) ?_
   refine rg_take 7 rfl rfl (by kernel_rfl) (by kernel_rfl) (by kernel_rfl) (want_0) (fun w hok => x_move (tmI rfl rfl)) ?_
   refine rg_take 8 rfl rfl (by kernel_rfl) (by kernel_rfl) (by kernel_rfl) (want_0) (fun w hok => x_move (tmI rfl rfl)) ?_
   first
    | refine rg_take 9 rfl rfl (by kernel_rfl) (by kernel_rfl) (by kernel_rfl) (want_0) (fun w hok => x_remN (tmI rfl rfl) (tmI rfl rfl) (by omega)) ?_
    | refine rg_take 9 rfl rfl (by kernel_rfl) (by kernel_rfl) (by kernel_rfl) (want_0) (fun w hok => x_rem (tmI rfl rfl) (tmI rfl rfl) (by omega)) ?_
   refine rg_take 10 rfl rfl (by kernel_rfl) (by kernel_rfl) (by kernel_rfl) (want_0) (fun w hok => x_ixs Try.underlying36 ts_33 (tmS rfl rfl) (tmI rfl rfl) (by omega)) ?_
   refine rg_take 11 rfl rfl (by kernel_rfl) (by kernel_rfl) (by kernel_rfl) (want_0) (fun w hok => x_loadA Try.underlying33 rfl (by exact ts_33) (tmP rfl rfl) (rangeVs hok 1 rfl (fun _ => rfl) (by omega))) ?_
   refine rg_step2 12 13 rfl rfl (by kernel_rfl) (want_0) (want_0) (oks_drop hS 0 rfl) ?_ ?_
   · intro K hK
     refine ow_alloc hS tz_33 rfl ?_
     clear hS; intro g4_12 w hg4_12 hS
     refine hK _ _ ?_; clear hK K
     refine rg_step 13 rfl (by kernel_rfl) (want_0) (oks_drop hS 1 rfl) ?_; intro K hK
     refine ow_alloc hS tz_33 rfl ?_
     clear hS; intro g4_13 w hg4_13 hS
     refine hK _ _ ?_; clear hK K
     refine rg_step 14 rfl (by kernel_rfl) (want_0) (oks_drop hS 2 rfl) ?_; intro K hK
     refine ow_storeA hS 1 rfl ts_33 (tmP rfl rfl) (tmA rfl rfl) rfl rfl rfl ?_
     clear hS; intro w hS
     try replace hS := St.nm (M' := [.blk _ _ [_, _, _, _], .blk _ _ [_, _, _, _], .blk _ _ [_, _, _, _], .vw _ _]) hS rfl
     refine hK _ _ ?_; clear hK K
     refine rg_step 15 rfl (by kernel_rfl) (want_0) (oks_drop hS 2 rfl) ?_; intro K hK
     refine ow_storeA hS 0 rfl ts_33 (tmP rfl rfl) (tmA rfl rfl) rfl rfl rfl ?_
     clear hS; intro w hS
     try replace hS := St.nm (M' := [.blk _ _ [_, _, _, _], .blk _ _ [_, _, _, _], .blk _ _ [_, _, _, _], .vw _ _]) hS rfl
     refine hK _ _ ?_; clear hK K
     refine rg_done (oks_drop hS 2 rfl) (by kernel_rfl) ?_
     refine then_n (hK5 _ _ ?_); clear hK5 K5
     refine wp_seq_k ?_; intro K6 hK6
     refine wp_seq_k ?_; intro K7 hK7
     refine wlit ?_
     refine wl_v (x_fa 3 Try.underlying33 rfl rfl ts_31 (tmP rfl rfl)) ?_
     first
      | refine wl_v (x_load Try.underlying31 rfl (tmP rfl rfl) (cellB hS.ok 0 rfl rfl)) ?_
      | refine wl_v (x_load Try.underlying31 rfl (tmP rfl rfl) (cellB hS.ok 0 rfl (getm (by omega)))) ?_
     refine wl_v (x_fa 3 Try.underlying33 rfl rfl ts_31 (tmP rfl rfl)) ?_
     first
      | refine wl_v (x_load Try.underlying31 rfl (tmP rfl rfl) (cellB hS.ok 1 rfl rfl)) ?_
      | refine wl_v (x_load Try.underlying31 rfl (tmP rfl rfl) (cellB hS.ok 1 rfl (getm (by omega)))) ?_
     refine wl_v (x_lss (tmI rfl rfl) (tmI rfl rfl)) ?_
     refine wl_v (x_move (tmB rfl rfl)) ?_
     refine gs_wl (tm (t := 35) rfl) (fun hg5_5 => ?_) (fun hg5_5 => ?_)
     · have hg5_5' := hg5_5; (try simp only [nrm] at hg5_5'); try (exfalso; first | with_reducible exact absurd hg5_5 Bool.false_ne_true | with_reducible exact absurd hg5_5.symm Bool.false_ne_true | omega | (simp at hg5_5; done))
       all_goals
        refine wl_s rfl (want_n rfl rfl rfl rfl (by rw [hg5_5]; rfl)) ?_
        refine wl_s rfl (want_n rfl rfl rfl rfl (by rw [hg5_5]; rfl)) ?_
        refine wl_s rfl (want_n rfl rfl rfl rfl (by rw [hg5_5]; rfl)) ?_
        refine wl_s rfl (want_n rfl rfl rfl rfl (by rw [hg5_5]; rfl)) ?_
        refine wl_s rfl (want_n rfl rfl rfl rfl (by rw [hg5_5]; rfl)) ?_
        refine wl_s rfl (want_n rfl rfl rfl rfl (by rw [hg5_5]; rfl)) ?_
        refine wl_s rfl (want_u rfl rfl rfl rfl) ?_
        refine wl_s rfl (want_u rfl rfl rfl rfl) ?_
        refine wl_s rfl (want_u rfl rfl rfl rfl) ?_
        refine wl_s rfl (want_u rfl rfl rfl rfl) ?_
        refine wl_s rfl (want_u rfl rfl rfl rfl) ?_
        refine wl_s rfl (want_n rfl rfl rfl rfl (by rw [hg5_5]; rfl)) ?_
        refine wl_v (x_pickT (tmB rfl rfl) hg5_5 ev_c) ?_
        refine wl_nil ?_
        refine then_n (hK7 _ _ ?_); clear hK7 K7
        refine cnd_t (tmB rfl rfl) rfl ?_
        refine wp_seq_k ?_; intro K8 hK8
        have hx : twoC l n a b = l.getD (b % n) default := by
          unfold twoC
          refine if_pos ?_
          unfold LessC
          first | omega | (simp at *; omega)
        refine wlit ?_
        refine wl_v (x_loadA (cs := [_, _, _, _]) Try.underlying33 rfl ts_33 (tmP rfl rfl) (rangeB hS.ok 0 rfl rfl)) ?_
        refine wl_e rfl ?_; intro K hK
        refine ow_storeA hS 2 rfl ts_33 (tmP rfl rfl) (tmA rfl rfl) rfl rfl rfl ?_
        clear hS; intro w hS
        try replace hS := St.nm (M' := [.blk _ _ [_, _, _, _], .blk _ _ [_, _, _, _], .blk _ _ [_, _, _, _], .vw _ _]) hS rfl
        refine hK _ _ ?_; clear hK K
        refine wl_v (x_assign ev_c) ?_
        refine wl_nil ?_
        refine then_n (hK8 _ _ ?_); clear hK8 K8
        refine wp_ret ?_
        refine then_r ?_
        refine ret2 rfl (.cell rfl rfl (load_rowB (cs := [_, _, _, _]) hS.ok 2 rfl Try.underlying33 rfl ts_33 rfl)) (.tmp rfl (show _ = Value.bool _ from rfl)) ?_
        rw [hx]
        exact ⟨rfl, hS.kp⟩
     have hg5_5' := hg5_5; (try simp only [nrm] at hg5_5'); try (exfalso; first | with_reducible exact absurd hg5_5 Bool.false_ne_true | with_reducible exact absurd hg5_5.symm Bool.false_ne_true | omega | (simp at hg5_5; done))
     all_goals
      refine wl_gv (want_y rfl rfl rfl rfl (by rw [hg5_5]; rfl)) (x_fa 3 Try.underlying33 rfl rfl ts_31 (tmP rfl rfl)) ?_
      first
       | refine wl_gv (want_y rfl rfl rfl rfl (by rw [hg5_5]; rfl)) (x_load Try.underlying31 rfl (tmP rfl rfl) (cellB hS.ok 0 rfl rfl)) ?_
       | refine wl_gv (want_y rfl rfl rfl rfl (by rw [hg5_5]; rfl)) (x_load Try.underlying31 rfl (tmP rfl rfl) (cellB hS.ok 0 rfl (getm (by omega)))) ?_
      refine wl_gv (want_y rfl rfl rfl rfl (by rw [hg5_5]; rfl)) (x_fa 3 Try.underlying33 rfl rfl ts_31 (tmP rfl rfl)) ?_
      first
       | refine wl_gv (want_y rfl rfl rfl rfl (by rw [hg5_5]; rfl)) (x_load Try.underlying31 rfl (tmP rfl rfl) (cellB hS.ok 1 rfl rfl)) ?_
       | refine wl_gv (want_y rfl rfl rfl rfl (by rw [hg5_5]; rfl)) (x_load Try.underlying31 rfl (tmP rfl rfl) (cellB hS.ok 1 rfl (getm (by omega)))) ?_
      refine wl_gv (want_y rfl rfl rfl rfl (by rw [hg5_5]; rfl)) (x_eql (tmI rfl rfl) (tmI rfl rfl)) ?_
      refine wl_gv (want_y rfl rfl rfl rfl (by rw [hg5_5]; rfl)) (x_move (tmB rfl rfl)) ?_
      refine gs_wl (tm (t := 41) rfl) (fun hg5_11 => ?_) (fun hg5_11 => ?_)
      · have hg5_11' := hg5_11; (try simp only [nrm] at hg5_11'); try (exfalso; first | with_reducible exact absurd hg5_11 Bool.false_ne_true | with_reducible exact absurd hg5_11.symm Bool.false_ne_true | omega | (simp at hg5_11; done))
        all_goals
         refine wl_gv (want_y rfl rfl rfl rfl (by rw [hg5_11]; rfl)) (x_fa 0 Try.underlying33 rfl rfl ts_3 (tmP rfl rfl)) ?_
         first
          | refine wl_gv (want_y rfl rfl rfl rfl (by rw [hg5_11]; rfl)) (x_load Try.underlying3 rfl (tmP rfl rfl) (cellB hS.ok 0 rfl rfl)) ?_
          | refine wl_gv (want_y rfl rfl rfl rfl (by rw [hg5_11]; rfl)) (x_load Try.underlying3 rfl (tmP rfl rfl) (cellB hS.ok 0 rfl (getm (by omega)))) ?_
         refine wl_gv (want_y rfl rfl rfl rfl (by rw [hg5_11]; rfl)) (x_fa 0 Try.underlying33 rfl rfl ts_3 (tmP rfl rfl)) ?_
         first
          | refine wl_gv (want_y rfl rfl rfl rfl (by rw [hg5_11]; rfl)) (x_load Try.underlying3 rfl (tmP rfl rfl) (cellB hS.ok 1 rfl rfl)) ?_
          | refine wl_gv (want_y rfl rfl rfl rfl (by rw [hg5_11]; rfl)) (x_load Try.underlying3 rfl (tmP rfl rfl) (cellB hS.ok 1 rfl (getm (by omega)))) ?_
         refine wl_gv (want_y rfl rfl rfl rfl (by rw [hg5_11]; rfl)) (x_lss (tmI rfl rfl) (tmI rfl rfl)) ?_
         refine wl_gv (want_y rfl rfl rfl rfl (by rw [hg5_5]; rfl)) (x_pickT (tmB rfl rfl) hg5_11 (tmB rfl rfl)) ?_
         refine wl_v (x_pickF (tmB rfl rfl) hg5_5 (tmB rfl rfl)) ?_
         refine wl_nil ?_
         refine then_n (hK7 _ _ ?_); clear hK7 K7
         refine cnd (tm rfl) (fun hc1 => ?_) (fun hc1 => ?_)
         · try (exfalso; first | with_reducible exact absurd hc1 Bool.false_ne_true | with_reducible exact absurd hc1.symm Bool.false_ne_true | (simp only [nrm] at hc1; omega) | (simp at hc1; done))
           all_goals
            try simp only [nrm] at hc1
            refine wp_seq_k ?_; intro K10 hK10
            have hx : twoC l n a b = l.getD (b % n) default := by
              unfold twoC
              refine if_pos ?_
              unfold LessC
              first | omega | (simp at *; omega)
            refine wlit ?_
            refine wl_v (x_loadA (cs := [_, _, _, _]) Try.underlying33 rfl ts_33 (tmP rfl rfl) (rangeB hS.ok 0 rfl rfl)) ?_
            refine wl_e rfl ?_; intro K hK
            refine ow_storeA hS 2 rfl ts_33 (tmP rfl rfl) (tmA rfl rfl) rfl rfl rfl ?_
            clear hS; intro w hS
            try replace hS := St.nm (M' := [.blk _ _ [_, _, _, _], .blk _ _ [_, _, _, _], .blk _ _ [_, _, _, _], .vw _ _]) hS rfl
            refine hK _ _ ?_; clear hK K
            refine wl_v (x_assign ev_c) ?_
            refine wl_nil ?_
            refine then_n (hK10 _ _ ?_); clear hK10 K10
            refine wp_ret ?_
            refine then_r ?_
            refine ret2 rfl (.cell rfl rfl (load_rowB (cs := [_, _, _, _]) hS.ok 2 rfl Try.underlying33 rfl ts_33 rfl)) (.tmp rfl (show _ = Value.bool _ from rfl)) ?_
            rw [hx]
            exact ⟨rfl, hS.kp⟩
         try (exfalso; first | with_reducible exact absurd hc1 Bool.false_ne_true | with_reducible exact absurd hc1.symm Bool.false_ne_true | (simp only [nrm] at hc1; omega) | (simp at hc1; done))
         all_goals
          try simp only [nrm] at hc1
          refine wp_skip ?_
          refine then_n (hK6 _ _ ?_); clear hK6 K6
          refine wp_seq_k ?_; intro K12 hK12
          have hx : twoC l n a b = l.getD (a % n) default := by
            unfold twoC
            refine if_neg ?_
            unfold LessC
            first | omega | (simp at *; omega)
          refine wlit ?_
          refine wl_v (x_loadA (cs := [_, _, _, _]) Try.underlying33 rfl ts_33 (tmP rfl rfl) (rangeB hS.ok 1 rfl rfl)) ?_
          refine wl_e rfl ?_; intro K hK
          refine ow_storeA hS 2 rfl ts_33 (tmP rfl rfl) (tmA rfl rfl) rfl rfl rfl ?_
          clear hS; intro w hS
          try replace hS := St.nm (M' := [.blk _ _ [_, _, _, _], .blk _ _ [_, _, _, _], .blk _ _ [_, _, _, _], .vw _ _]) hS rfl
          refine hK _ _ ?_; clear hK K
          refine wl_v (x_assign ev_c) ?_
          refine wl_nil ?_
          refine then_n (hK12 _ _ ?_); clear hK12 K12
          refine wp_ret ?_
          refine ret2 rfl (.cell rfl rfl (load_rowB (cs := [_, _, _, _]) hS.ok 2 rfl Try.underlying33 rfl ts_33 rfl)) (.tmp rfl (show _ = Value.bool _ from rfl)) ?_
          rw [hx]
          exact ⟨rfl, hS.kp⟩
      have hg5_11' := hg5_11; (try simp only [nrm] at hg5_11'); try (exfalso; first | with_reducible exact absurd hg5_11 Bool.false_ne_true | with_reducible exact absurd hg5_11.symm Bool.false_ne_true | omega | (simp at hg5_11; done))
      all_goals
       refine wl_s rfl (want_n rfl rfl rfl rfl (by rw [hg5_11]; rfl)) ?_
       refine wl_s rfl (want_n rfl rfl rfl rfl (by rw [hg5_11]; rfl)) ?_
       refine wl_s rfl (want_n rfl rfl rfl rfl (by rw [hg5_11]; rfl)) ?_
       refine wl_s rfl (want_n rfl rfl rfl rfl (by rw [hg5_11]; rfl)) ?_
       refine wl_s rfl (want_n rfl rfl rfl rfl (by rw [hg5_11]; rfl)) ?_
       refine wl_gv (want_y rfl rfl rfl rfl (by rw [hg5_5]; rfl)) (x_pickF (tmB rfl rfl) hg5_11 ev_c) ?_
       refine wl_v (x_pickF (tmB rfl rfl) hg5_5 (tmB rfl rfl)) ?_
       refine wl_nil ?_
       refine then_n (hK7 _ _ ?_); clear hK7 K7
       refine cnd_f (tmB rfl rfl) rfl ?_
       refine wp_skip ?_
       refine then_n (hK6 _ _ ?_); clear hK6 K6
       refine wp_seq_k ?_; intro K14 hK14
       have hx : twoC l n a b = l.getD (a % n) default := by
         unfold twoC
         refine if_neg ?_
         unfold LessC
         first | omega | (simp at *; omega)
       refine wlit ?_
       refine wl_v (x_loadA (cs := [_, _, _, _]) Try.underlying33 rfl ts_33 (tmP rfl rfl) (rangeB hS.ok 1 rfl rfl)) ?_
       refine wl_e rfl ?_; intro K hK
       refine ow_storeA hS 2 rfl ts_33 (tmP rfl rfl) (tmA rfl rfl) rfl rfl rfl ?_
       clear hS; intro w hS
       try replace hS := St.nm (M' := [.blk _ _ [_, _, _, _], .blk _ _ [_, _, _, _], .blk _ _ [_, _, _, _], .vw _ _]) hS rfl
       refine hK _ _ ?_; clear hK K
       refine wl_v (x_assign ev_c) ?_
       refine wl_nil ?_
       refine then_n (hK14 _ _ ?_); clear hK14 K14
       refine wp_ret ?_
       refine ret2 rfl (.cell rfl rfl (load_rowB (cs := [_, _, _, _]) hS.ok 2 rfl Try.underlying33 rfl ts_33 rfl)) (.tmp rfl (show _ = Value.bool _ from rfl)) ?_
       rw [hx]
       exact ⟨rfl, hS.kp⟩
   · intro K hK
     refine ow_alloc hS tz_33 rfl ?_
     clear hS; intro g4_13 w hg4_13 hS
     refine hK _ _ ?_; clear hK K
     refine rg_step 12 rfl (by kernel_rfl) (want_0) (oks_drop hS 1 rfl) ?_; intro K hK
     refine ow_alloc hS tz_33 rfl ?_
     clear hS; intro g4_12 w hg4_12 hS
     refine hK _ _ ?_; clear hK K
     refine rg_step 14 rfl (by kernel_rfl) (want_0) (oks_drop hS 2 rfl) ?_; intro K hK
     refine ow_storeA hS 0 rfl ts_33 (tmP rfl rfl) (tmA rfl rfl) rfl rfl rfl ?_
     clear hS; intro w hS
     try replace hS := St.nm (M' := [.blk _ _ [_, _, _, _], .blk _ _ [_, _, _, _], .blk _ _ [_, _, _, _], .vw _ _]) hS rfl
     refine hK _ _ ?_; clear hK K
     refine rg_step 15 rfl (by kernel_rfl) (want_0) (oks_drop hS 2 rfl) ?_; intro K hK
     refine ow_storeA hS 1 rfl ts_33 (tmP rfl rfl) (tmA rfl rfl) rfl rfl rfl ?_
     clear hS; intro w hS
     try replace hS := St.nm (M' := [.blk _ _ [_, _, _, _], .blk _ _ [_, _, _, _], .blk _ _ [_, _, _, _], .vw _ _]) hS rfl
     refine hK _ _ ?_; clear hK K
     refine rg_done (oks_drop hS 2 rfl) (by kernel_rfl) ?_
     refine then_n (hK5 _ _ ?_); clear hK5 K5
     refine wp_seq_k ?_; intro K16 hK16
     refine wp_seq_k ?_; intro K17 hK17
     refine wlit ?_
     refine wl_v (x_fa 3 Try.underlying33 rfl rfl ts_31 (tmP rfl rfl)) ?_
     first
      | refine wl_v (x_load Try.underlying31 rfl (tmP rfl rfl) (cellB hS.ok 1 rfl rfl)) ?_
      | refine wl_v (x_load Try.underlying31 rfl (tmP rfl rfl) (cellB hS.ok 1 rfl (getm (by omega)))) ?_
     refine wl_v (x_fa 3 Try.underlying33 rfl rfl ts_31 (tmP rfl rfl)) ?_
     first
      | refine wl_v (x_load Try.underlying31 rfl (tmP rfl rfl) (cellB hS.ok 0 rfl rfl)) ?_
      | refine wl_v (x_load Try.underlying31 rfl (tmP rfl rfl) (cellB hS.ok 0 rfl (getm (by omega)))) ?_
     refine wl_v (x_lss (tmI rfl rfl) (tmI rfl rfl)) ?_
     refine wl_v (x_move (tmB rfl rfl)) ?_
     refine gs_wl (tm (t := 35) rfl) (fun hg5_5 => ?_) (fun hg5_5 => ?_)
     · have hg5_5' := hg5_5; (try simp only [nrm] at hg5_5'); try (exfalso; first | with_reducible exact absurd hg5_5 Bool.false_ne_true | with_reducible exact absurd hg5_5.symm Bool.false_ne_true | omega | (simp at hg5_5; done))
       all_goals
        refine wl_s rfl (want_n rfl rfl rfl rfl (by rw [hg5_5]; rfl)) ?_
        refine wl_s rfl (want_n rfl rfl rfl rfl (by rw [hg5_5]; rfl)) ?_
        refine wl_s rfl (want_n rfl rfl rfl rfl (by rw [hg5_5]; rfl)) ?_
        refine wl_s rfl (want_n rfl rfl rfl rfl (by rw [hg5_5]; rfl)) ?_
        refine wl_s rfl (want_n rfl rfl rfl rfl (by rw [hg5_5]; rfl)) ?_
        refine wl_s rfl (want_n rfl rfl rfl rfl (by rw [hg5_5]; rfl)) ?_
        refine wl_s rfl (want_u rfl rfl rfl rfl) ?_
        refine wl_s rfl (want_u rfl rfl rfl rfl) ?_
        refine wl_s rfl (want_u rfl rfl rfl rfl) ?_
        refine wl_s rfl (want_u rfl rfl rfl rfl) ?_
        refine wl_s rfl (want_u rfl rfl rfl rfl) ?_
        refine wl_s rfl (want_n rfl rfl rfl rfl (by rw [hg5_5]; rfl)) ?_
        refine wl_v (x_pickT (tmB rfl rfl) hg5_5 ev_c) ?_
        refine wl_nil ?_
        refine then_n (hK17 _ _ ?_); clear hK17 K17
        refine cnd_t (tmB rfl rfl) rfl ?_
        refine wp_seq_k ?_; intro K18 hK18
        have hx : twoC l n a b = l.getD (b % n) default := by
          unfold twoC
          refine if_pos ?_
          unfold LessC
          first | omega | (simp at *; omega)
        refine wlit ?_
        refine wl_v (x_loadA (cs := [_, _, _, _]) Try.underlying33 rfl ts_33 (tmP rfl rfl) (rangeB hS.ok 1 rfl rfl)) ?_
        refine wl_e rfl ?_; intro K hK
        refine ow_storeA hS 2 rfl ts_33 (tmP rfl rfl) (tmA rfl rfl) rfl rfl rfl ?_
        clear hS; intro w hS
        try replace hS := St.nm (M' := [.blk _ _ [_, _, _, _], .blk _ _ [_, _, _, _], .blk _ _ [_, _, _, _], .vw _ _]) hS rfl
        refine hK _ _ ?_; clear hK K
        refine wl_v (x_assign ev_c) ?_
        refine wl_nil ?_
        refine then_n (hK18 _ _ ?_); clear hK18 K18
        refine wp_ret ?_
        refine then_r ?_
        refine ret2 rfl (.cell rfl rfl (load_rowB (cs := [_, _, _, _]) hS.ok 2 rfl Try.underlying33 rfl ts_33 rfl)) (.tmp rfl (show _ = Value.bool _ from rfl)) ?_
        rw [hx]
        exact ⟨rfl, hS.kp⟩
     have hg5_5' := hg5_5; (try simp only [nrm] at hg5_5'); try (exfalso; first | with_reducible exact absurd hg5_5 Bool.false_ne_true | with_reducible exact absurd hg5_5.symm Bool.false_ne_true | omega | (simp at hg5_5; done))
     all_goals
      refine wl_gv (want_y rfl rfl rfl rfl (by rw [hg5_5]; rfl)) (x_fa 3 Try.underlying33 rfl rfl ts_31 (tmP rfl rfl)) ?_
      first
       | refine wl_gv (want_y rfl rfl rfl rfl (by rw [hg5_5]; rfl)) (x_load Try.underlying31 rfl (tmP rfl rfl) (cellB hS.ok 1 rfl rfl)) ?_
       | refine wl_gv (want_y rfl rfl rfl rfl (by rw [hg5_5]; rfl)) (x_load Try.underlying31 rfl (tmP rfl rfl) (cellB hS.ok 1 rfl (getm (by omega)))) ?_
      refine wl_gv (want_y rfl rfl rfl rfl (by rw [hg5_5]; rfl)) (x_fa 3 Try.underlying33 rfl rfl ts_31 (tmP rfl rfl)) ?_
      first
       | refine wl_gv (want_y rfl rfl rfl rfl (by rw [hg5_5]; rfl)) (x_load Try.underlying31 rfl (tmP rfl rfl) (cellB hS.ok 0 rfl rfl)) ?_
       | refine wl_gv (want_y rfl rfl rfl rfl (by rw [hg5_5]; rfl)) (x_load Try.underlying31 rfl (tmP rfl rfl) (cellB hS.ok 0 rfl (getm (by omega)))) ?_
      refine wl_gv (want_y rfl rfl rfl rfl (by rw [hg5_5]; rfl)) (x_eql (tmI rfl rfl) (tmI rfl rfl)) ?_
      refine wl_gv (want_y rfl rfl rfl rfl (by rw [hg5_5]; rfl)) (x_move (tmB rfl rfl)) ?_
      refine gs_wl (tm (t := 41) rfl) (fun hg5_11 => ?_) (fun hg5_11 => ?_)
      · have hg5_11' := hg5_11; (try simp only [nrm] at hg5_11'); try (exfalso; first | with_reducible exact absurd hg5_11 Bool.false_ne_true | with_reducible exact absurd hg5_11.symm Bool.false_ne_true | omega | (simp at hg5_11; done))
        all_goals
         refine wl_gv (want_y rfl rfl rfl rfl (by rw [hg5_11]; rfl)) (x_fa 0 Try.underlying33 rfl rfl ts_3 (tmP rfl rfl)) ?_
         first
          | refine wl_gv (want_y rfl rfl rfl rfl (by rw [hg5_11]; rfl)) (x_load Try.underlying3 rfl (tmP rfl rfl) (cellB hS.ok 1 rfl rfl)) ?_
          | refine wl_gv (want_y rfl rfl rfl rfl (by rw [hg5_11]; rfl)) (x_load Try.underlying3 rfl (tmP rfl rfl) (cellB hS.ok 1 rfl (getm (by omega)))) ?_
         refine wl_gv (want_y rfl rfl rfl rfl (by rw [hg5_11]; rfl)) (x_fa 0 Try.underlying33 rfl rfl ts_3 (tmP rfl rfl)) ?_
         first
          | refine wl_gv (want_y rfl rfl rfl rfl (by rw [hg5_11]; rfl)) (x_load Try.underlying3 rfl (tmP rfl rfl) (cellB hS.ok 0 rfl rfl)) ?_
          | refine wl_gv (want_y rfl rfl rfl rfl (by rw [hg5_11]; rfl)) (x_load Try.underlying3 rfl (tmP rfl rfl) (cellB hS.ok 0 rfl (getm (by omega)))) ?_
         refine wl_gv (want_y rfl rfl rfl rfl (by rw [hg5_11]; rfl)) (x_lss (tmI rfl rfl) (tmI rfl rfl)) ?_
         refine wl_gv (want_y rfl rfl rfl rfl (by rw [hg5_5]; rfl)) (x_pickT (tmB rfl rfl) hg5_11 (tmB rfl rfl)) ?_
         refine wl_v (x_pickF (tmB rfl rfl) hg5_5 (tmB rfl rfl)) ?_
         refine wl_nil ?_
         refine then_n (hK17 _ _ ?_); clear hK17 K17
         refine cnd (tm rfl) (fun hc1 => ?_) (fun hc1 => ?_)
         · try (exfalso; first | with_reducible exact absurd hc1 Bool.false_ne_true | with_reducible exact absurd hc1.symm Bool.false_ne_true | (simp only [nrm] at hc1; omega) | (simp at hc1; done))
           all_goals
            try simp only [nrm] at hc1
            refine wp_seq_k ?_; intro K20 hK20
            have hx : twoC l n a b = l.getD (b % n) default := by
              unfold twoC
              refine if_pos ?_
              unfold LessC
              first | omega | (simp at *; omega)
            refine wlit ?_
            refine wl_v (x_loadA (cs := [_, _, _, _]) Try.underlying33 rfl ts_33 (tmP rfl rfl) (rangeB hS.ok 1 rfl rfl)) ?_
            refine wl_e rfl ?_; intro K hK
            refine ow_storeA hS 2 rfl ts_33 (tmP rfl rfl) (tmA rfl rfl) rfl rfl rfl ?_
            clear hS; intro w hS
            try replace hS := St.nm (M' := [.blk _ _ [_, _, _, _], .blk _ _ [_, _, _, _], .blk _ _ [_, _, _, _], .vw _ _]) hS rfl
            refine hK _ _ ?_; clear hK K
            refine wl_v (x_assign ev_c) ?_
            refine wl_nil ?_
            refine then_n (hK20 _ _ ?_); clear hK20 K20
            refine wp_ret ?_
            refine then_r ?_
            refine ret2 rfl (.cell rfl rfl (load_rowB (cs := [_, _, _, _]) hS.ok 2 rfl Try.underlying33 rfl ts_33 rfl)) (.tmp rfl (show _ = Value.bool _ from rfl)) ?_
            rw [hx]
            exact ⟨rfl, hS.kp⟩
         try (exfalso; first | with_reducible exact absurd hc1 Bool.false_ne_true | with_reducible exact absurd hc1.symm Bool.false_ne_true | (simp only [nrm] at hc1; omega) | (simp at hc1; done))
         all_goals
          try simp only [nrm] at hc1
          refine wp_skip ?_
          refine then_n (hK16 _ _ ?_); clear hK16 K16
          refine wp_seq_k ?_; intro K22 hK22
          have hx : twoC l n a b = l.getD (a % n) default := by
            unfold twoC
            refine if_neg ?_
            unfold LessC
            first | omega | (simp at *; omega)
          refine wlit ?_
          refine wl_v (x_loadA (cs := [_, _, _, _]) Try.underlying33 rfl ts_33 (tmP rfl rfl) (rangeB hS.ok 0 rfl rfl)) ?_
          refine wl_e rfl ?_; intro K hK
          refine ow_storeA hS 2 rfl ts_33 (tmP rfl rfl) (tmA rfl rfl) rfl rfl rfl ?_
          clear hS; intro w hS
          try replace hS := St.nm (M' := [.blk _ _ [_, _, _, _], .blk _ _ [_, _, _, _], .blk _ _ [_, _, _, _], .vw _ _]) hS rfl
          refine hK _ _ ?_; clear hK K
          refine wl_v (x_assign ev_c) ?_
          refine wl_nil ?_
          refine then_n (hK22 _ _ ?_); clear hK22 K22
          refine wp_ret ?_
          refine ret2 rfl (.cell rfl rfl (load_rowB (cs := [_, _, _, _]) hS.ok 2 rfl Try.underlying33 rfl ts_33 rfl)) (.tmp rfl (show _ = Value.bool _ from rfl)) ?_
          rw [hx]
          exact ⟨rfl, hS.kp⟩
      have hg5_11' := hg5_11; (try simp only [nrm] at hg5_11'); try (exfalso; first | with_reducible exact absurd hg5_11 Bool.false_ne_true | with_reducible exact absurd hg5_11.symm Bool.false_ne_true | omega | (simp at hg5_11; done))
      all_goals
       refine wl_s rfl (want_n rfl rfl rfl rfl (by rw [hg5_11]; rfl)) ?_
       refine wl_s rfl (want_n rfl rfl rfl rfl (by rw [hg5_11]; rfl)) ?_
       refine wl_s rfl (want_n rfl rfl rfl rfl (by rw [hg5_11]; rfl)) ?_
       refine wl_s rfl (want_n rfl rfl rfl rfl (by rw [hg5_11]; rfl)) ?_
       refine wl_s rfl (want_n rfl rfl rfl rfl (by rw [hg5_11]; rfl)) ?_
       refine wl_gv (want_y rfl rfl rfl rfl (by rw [hg5_5]; rfl)) (x_pickF (tmB rfl rfl) hg5_11 ev_c) ?_
       refine wl_v (x_pickF (tmB rfl rfl) hg5_5 (tmB rfl rfl)) ?_
       refine wl_nil ?_
       refine then_n (hK17 _ _ ?_); clear hK17 K17
       refine cnd_f (tmB rfl rfl) rfl ?_
       refine wp_skip ?_
       refine then_n (hK16 _ _ ?_); clear hK16 K16
       refine wp_seq_k ?_; intro K24 hK24
       have hx : twoC l n a b = l.getD (a % n) default := by
         unfold twoC
         refine if_neg ?_
         unfold LessC
         first | omega | (simp at *; omega)
       refine wlit ?_
       refine wl_v (x_loadA (cs := [_, _, _, _]) Try.underlying33 rfl ts_33 (tmP rfl rfl) (rangeB hS.ok 0 rfl rfl)) ?_
       refine wl_e rfl ?_; intro K hK
       refine ow_storeA hS 2 rfl ts_33 (tmP rfl rfl) (tmA rfl rfl) rfl rfl rfl ?_
       clear hS; intro w hS
       try replace hS := St.nm (M' := [.blk _ _ [_, _, _, _], .blk _ _ [_, _, _, _], .blk _ _ [_, _, _, _], .vw _ _]) hS rfl
       refine hK _ _ ?_; clear hK K
       refine wl_v (x_assign ev_c) ?_
       refine wl_nil ?_
       refine then_n (hK24 _ _ ?_); clear hK24 K24
       refine wp_ret ?_
       refine ret2 rfl (.cell rfl rfl (load_rowB (cs := [_, _, _, _]) hS.ok 2 rfl Try.underlying33 rfl ts_33 rfl)) (.tmp rfl (show _ = Value.bool _ from rfl)) ?_
       rw [hx]
       exact ⟨rfl, hS.kp⟩
set_option maxRecDepth 100000 in
set_option maxHeartbeats 4000000 in
theorem rtwo_c (n : Nat) (A : Option Addr) (c : Nat) (l : List Cn) (a b : Nat) (w0 : World) (hv : View w0 w0.heap.size A (flat cnV l)) (hl : l.length = n) (hn4 : n ≤ 1000) (hn0 : 0 < n) (ha : a < 4294967296) (hb : b < 4294967296) :
    Calls Try.prog 24 #[.slice A n c, .int .u32 (a : Int), .int .u32 (b : Int)] w0 fun e w' => e = .returned (.int .i64 ((twoI l n a b : Nat) : Int)) ∧ Kp [] w0 w' := by
  have hS := (St.sv w0).vcons rfl hv
  have hfl := flat_length (enc := cnV) (l := l) cnV_len
  obtain ⟨b4, o4, rfl⟩ := view_some hv (by rw [hfl]; omega)
  have h1 := Nat.mod_lt a hn0
  have h2 := Nat.mod_lt b hn0
  refine ent (n := 46) Try.func24 rfl rfl ?_
  refine wp_seq_k ?_; intro K1 hK1
  refine wlit ?_
  refine wl_v (x_assign (ev_cN 0)) ?_
  refine wl_nil ?_
  refine then_n (hK1 _ _ ?_); clear hK1 K1
  refine wp_seq_k ?_; intro K2 hK2
  refine rg_startk 0 hS mixed_ ?_
  clear hS; intro w hS
  refine rg_take 0 rfl rfl (by kernel_rfl) (by kernel_rfl) (by kernel_rfl) (want_0) (fun w hok => x_move (tmI rfl rfl)) ?_
  first
   | refine rg_take 1 rfl rfl (by kernel_rfl) (by kernel_rfl) (by kernel_rfl) (want_0) (fun w hok => x_convN Try.underlying31 Try.underlying3 (tmI rfl rfl) (fit_i64 (by omega))) ?_
   | refine rg_take 1 rfl rfl (by kernel_rfl) (by kernel_rfl) (by kernel_rfl) (want_0) (fun w hok => x_conv Try.underlying31 Try.underlying3 (tmI rfl rfl)) ?_
  refine rg_take 2 rfl rfl (by kernel_rfl) (by kernel_rfl) (by kernel_rfl) (want_0) (fun w hok => x_move (tmS rfl rfl)) ?_
  refine rg_take 3 rfl rfl (by kernel_rfl) (by kernel_rfl) (by kernel_rfl) (want_0) (fun w hok => x_len Try.underlying30 (tmS rfl rfl)) ?_
  first
   | refine rg_take 4 rfl rfl (by kernel_rfl) (by kernel_rfl) (by kernel_rfl) (want_0) (fun w hok => x_remN (tmI rfl rfl) (tmI rfl rfl) (by omega)) ?_
   | refine rg_take 4 rfl rfl (by kernel_rfl) (by kernel_rfl) (by kernel_rfl) (want_0) (fun w hok => x_rem (tmI rfl rfl) (tmI rfl rfl) (by omega)) ?_
  refine rg_take 5 rfl rfl (by kernel_rfl) (by kernel_rfl) (by kernel_rfl) (want_0) (fun w hok => x_move (tmI rfl rfl)) ?_
  first
   | refine rg_take 6 rfl rfl (by kernel_rfl) (by kernel_rfl) (by kernel_rfl) (want_0) (fun w hok => x_convN Try.underlying31 Try.underlying3 (tmI rfl rfl) (fit_i64 (by omega))) ?_
   | refine rg_take 6 rfl rfl (by kernel_rfl) (by kernel_rfl) (by kernel_rfl) (want_0) (fun w hok => x_conv Try.underlying31 Try.underlying3 (tmI rfl rfl)) ?_
  refine rg_take 7 rfl rfl (by kernel_rfl) (by kernel_rfl) (by kernel_rfl) (want_0) (fun w hok => x_move (tmS rfl rfl)) ?_
  refine rg_take 8 rfl rfl (by kernel_rfl) (by kernel_rfl) (by kernel_rfl) (want_0) (fun w hok => x_len Try.underlying30 (tmS rfl rfl)) ?_
  first
   | refine rg_take 9 rfl rfl (by kernel_rfl) (by kernel_rfl) (by kernel_rfl) (want_0) (fun w hok => x_remN (tmI rfl rfl) (tmI rfl rfl) (by omega)) ?_
   | refine rg_take 9 rfl rfl (by kernel_rfl) (by kernel_rfl) (by kernel_rfl) (want_0) (fun w hok => x_rem (tmI rfl rfl) (tmI rfl rfl) (by omega)) ?_
  refine rg_take 10 rfl rfl (by kernel_rfl) (by kernel_rfl) (by kernel_rfl) (want_0) (fun w hok => x_assign (tmI rfl rfl)) ?_
  refine rg_take 11 rfl rfl (by kernel_rfl) (by kernel_rfl) (by kernel_rfl) (want_0) (fun w hok => x_assign (tmI rfl rfl)) ?_
  refine rg_done (oks_drop hS 0 rfl) (by kernel_rfl) ?_
  refine then_n (hK2 _ _ ?_); clear hK2 K2
  refine wp_seq_k ?_; intro K3 hK3
  refine wp_seq_k ?_; intro K4 hK4
  refine rg_startk 0 hS mixed_ ?_
  clear hS; intro w hS
  refine rg_take 0 rfl rfl (by kernel_rfl) (by kernel_rfl) (by kernel_rfl) (want_0) (fun w hok => x_move (tmS rfl rfl)) ?_
  refine rg_take 1 rfl rfl (by kernel_rfl) (by kernel_rfl) (by kernel_rfl) (want_0) (fun w hok => x_move (tmI rfl rfl)) ?_
  refine rg_take 2 rfl rfl (by kernel_rfl) (by kernel_rfl) (by kernel_rfl) (want_0) (fun w hok => x_ixs Try.underlying30 ts_40 (tmS rfl rfl) (tmI rfl rfl) (by omega)) ?_
  refine rg_take 3 rfl rfl (by kernel_rfl) (by kernel_rfl) (by kernel_rfl) (want_0) (fun w hok => x_fa 3 Try.underlying40 rfl rfl ts_31 (tmP rfl rfl)) ?_
  first
   | refine rg_take 4 rfl rfl (by kernel_rfl) (by kernel_rfl) (by kernel_rfl) (want_0) (fun w hok => x_load Try.underlying31 rfl (tmP rfl rfl) (cellV hok 0 rfl rfl)) ?_
   | refine rg_take 4 rfl rfl (by kernel_rfl) (by kernel_rfl) (by kernel_rfl) (want_0) (fun w hok => x_load Try.underlying31 rfl (tmP rfl rfl) (cellV hok 0 rfl (getm (by omega)))) ?_
   | refine rg_take 4 rfl rfl (by kernel_rfl) (by kernel_rfl) (by kernel_rfl) (want_0) (fun w hok => x_load Try.underlying31 rfl (tmP rfl rfl) (cellVs hok 0 rfl (fun _ => rfl) rfl (by omega) rfl)) ?_
  refine rg_take 5 rfl rfl (by kernel_rfl) (by kernel_rfl) (by kernel_rfl) (want_0) (fun w hok => x_move (tmS rfl rfl)) ?_
  refine rg_take 6 rfl rfl (by kernel_rfl) (by kernel_rfl) (by kernel_rfl) (want_0) (fun w hok => x_move (tmI rfl rfl)) ?_
  refine rg_take 7 rfl rfl (by kernel_rfl) (by kernel_rfl) (by kernel_rfl) (want_0) (fun w hok => x_ixs Try.underlying30 ts_40 (tmS rfl rfl) (tmI rfl rfl) (by omega)) ?_
  refine rg_take 8 rfl rfl (by kernel_rfl) (by kernel_rfl) (by kernel_rfl) (want_0) (fun w hok => x_fa 3 Try.underlying40 rfl rfl ts_31 (tmP rfl rfl)) ?_
  first
   | refine rg_take 9 rfl rfl (by kernel_rfl) (by kernel_rfl) (by kernel_rfl) (want_0) (fun w hok => x_load Try.underlying31 rfl (tmP rfl rfl) (cellV hok 0 rfl rfl)) ?_
   | refine rg_take 9 rfl rfl (by kernel_rfl) (by kernel_rfl) (by kernel_rfl) (want_0) (fun w hok => x_load Try.underlying31 rfl (tmP rfl rfl) (cellV hok 0 rfl (getm (by omega)))) ?_
   | refine rg_take 9 rfl rfl (by kernel_rfl) (by kernel_rfl) (by kernel_rfl) (want_0) (fun w hok => x_load Try.underlying31 rfl (tmP rfl rfl) (cellVs hok 0 rfl (fun _ => rfl) rfl (by omega) rfl)) ?_
  refine rg_take 10 rfl rfl (by kernel_rfl) (by kernel_rfl) (by kernel_rfl) (want_0) (fun w hok => x_lss (tmI rfl rfl) (tmI rfl rfl)) ?_
  refine rg_done (oks_drop hS 0 rfl) (by kernel_rfl) ?_
  refine then_n (hK4 _ _ ?_); clear hK4 K4
  refine cnd (tm rfl) (fun hc0 => ?_) (fun hc0 => ?_)
  · try (exfalso; first | with_reducible exact absurd hc0 Bool.false_ne_true | with_reducible exact absurd hc0.symm Bool.false_ne_true | (simp only [nrm] at hc0; omega) | (simp at hc0; done))
    all_goals
     try simp only [nrm] at hc0
     refine wp_seq_k ?_; intro K5 hK5
     refine wlit ?_
     refine wl_v (x_move (tmI rfl rfl)) ?_
     refine wl_v (x_assign (tmI rfl rfl)) ?_
     refine wl_nil ?_
     refine then_n (hK5 _ _ ?_); clear hK5 K5
     refine wp_ret ?_
     refine then_r ?_
     refine ret1 rfl (.tmp rfl (show _ = Value.int _ _ from rfl)) ?_
     refine ⟨?_, hS.kp⟩
     unfold twoI
     first
       | (rw [if_pos (by omega)]; done)
       | (rw [if_neg (by omega), if_pos (by omega)]; done)
       | (rw [if_neg (by omega), if_neg (by omega)]; done)
       | sorry
  try (exfalso; first | with_reducible exact absurd hc0 Bool.false_ne_true | with_reducible exact absurd hc0.symm Bool.false_ne_true | (simp only [nrm] at hc0; omega) | (simp at hc0; done))
  all_goals
   try simp only [nrm] at hc0
   refine wp_skip ?_
   refine then_n (hK3 _ _ ?_); clear hK3 K3
   refine wp_seq_k ?_; intro K6 hK6
   refine wp_seq_k ?_; intro K7 hK7
   refine rg_startk 0 hS mixed_ ?_
   clear hS; intro w hS
   refine rg_take 0 rfl rfl (by kernel_rfl) (by kernel_rfl) (by kernel_rfl) (want_0) (fun w hok => x_move (tmS rfl rfl)) ?_
   refine rg_take 1 rfl rfl (by kernel_rfl) (by kernel_rfl) (by kernel_rfl) (want_0) (fun w hok => x_move (tmI rfl rfl)) ?_
   refine rg_take 2 rfl rfl (by kernel_rfl) (by kernel_rfl) (by kernel_rfl) (want_0) (fun w hok => x_ixs Try.underlying30 ts_40 (tmS rfl rfl) (tmI rfl rfl) (by omega)) ?_
   refine rg_take 3 rfl rfl (by kernel_rfl) (by kernel_rfl) (by kernel_rfl) (want_0) (fun w hok => x_fa 3 Try.underlying40 rfl rfl ts_31 (tmP rfl rfl)) ?_
   first
    | refine rg_take 4 rfl rfl (by kernel_rfl) (by kernel_rfl) (by kernel_rfl) (want_0) (fun w hok => x_load Try.underlying31 rfl (tmP rfl rfl) (cellV hok 0 rfl rfl)) ?_
    | refine rg_take 4 rfl rfl (by kernel_rfl) (by kernel_rfl) (by kernel_rfl) (want_0) (fun w hok => x_load Try.underlying31 rfl (tmP rfl rfl) (cellV hok 0 rfl (getm (by omega)))) ?_
    | refine rg_take 4 rfl rfl (by kernel_rfl) (by kernel_rfl) (by kernel_rfl) (want_0) (fun w hok => x_load Try.underlying31 rfl (tmP rfl rfl) (cellVs hok 0 rfl (fun _ => rfl) rfl (by omega) rfl)) ?_
   refine rg_take 5 rfl rfl (by kernel_rfl) (by kernel_rfl) (by kernel_rfl) (want_0) (fun w hok => x_move (tmS rfl rfl)) ?_
   refine rg_take 6 rfl rfl (by kernel_rfl) (by kernel_rfl) (by kernel_rfl) (want_0) (fun w hok => x_move (tmI rfl rfl)) ?_
   refine rg_take 7 rfl rfl (by kernel_rfl) (by kernel_rfl) (by kernel_rfl) (want_0) (fun w hok => x_ixs Try.underlying30 ts_40 (tmS rfl rfl) (tmI rfl rfl) (by omega)) ?_
   refine rg_take 8 rfl rfl (by kernel_rfl) (by kernel_rfl) (by kernel_rfl) (want_0) (fun w hok => x_fa 3 Try.underlying40 rfl rfl ts_31 (tmP rfl rfl)) ?_
   first
    | refine rg_take 9 rfl rfl (by kernel_rfl) (by kernel_rfl) (by kernel_rfl) (want_0) (fun w hok => x_load Try.underlying31 rfl (tmP rfl rfl) (cellV hok 0 rfl rfl)) ?_
    | refine rg_take 9 rfl rfl (by kernel_rfl) (by kernel_rfl) (by kernel_rfl) (want_0) (fun w hok => x_load Try.underlying31 rfl (tmP rfl rfl) (cellV hok 0 rfl (getm (by omega)))) ?_
    | refine rg_take 9 rfl rfl (by kernel_rfl) (by kernel_rfl) (by kernel_rfl) (want_0) (fun w hok => x_load Try.underlying31 rfl (tmP rfl rfl) (cellVs hok 0 rfl (fun _ => rfl) rfl (by omega) rfl)) ?_
   refine rg_take 10 rfl rfl (by kernel_rfl) (by kernel_rfl) (by kernel_rfl) (want_0) (fun w hok => x_lss (tmI rfl rfl) (tmI rfl rfl)) ?_
   refine rg_done (oks_drop hS 0 rfl) (by kernel_rfl) ?_
   refine then_n (hK7 _ _ ?_); clear hK7 K7
   refine cnd (tm rfl) (fun hc1 => ?_) (fun hc1 => ?_)
   · try (exfalso; first | with_reducible exact absurd hc1 Bool.false_ne_true | with_reducible exact absurd hc1.symm Bool.false_ne_true | (simp only [nrm] at hc1; omega) | (simp at hc1; done))
     all_goals
      try simp only [nrm] at hc1
      refine wp_seq_k ?_; intro K8 hK8
      refine wlit ?_
      refine wl_v (x_move (tmI rfl rfl)) ?_
      refine wl_v (x_assign (tmI rfl rfl)) ?_
      refine wl_nil ?_
      refine then_n (hK8 _ _ ?_); clear hK8 K8
      refine wp_ret ?_
      refine then_r ?_
      refine ret1 rfl (.tmp rfl (show _ = Value.int _ _ from rfl)) ?_
      refine ⟨?_, hS.kp⟩
      unfold twoI
      first
        | (rw [if_pos (by omega)]; done)
        | (rw [if_neg (by omega), if_pos (by omega)]; done)
        | (rw [if_neg (by omega), if_neg (by omega)]; done)
        | sorry
   try (exfalso; first | with_reducible exact absurd hc1 Bool.false_ne_true | with_reducible exact absurd hc1.symm Bool.false_ne_true | (simp only [nrm] at hc1; omega) | (simp at hc1; done))
   all_goals
    try simp only [nrm] at hc1
    refine wp_skip ?_
    refine then_n (hK6 _ _ ?_); clear hK6 K6
    refine wp_seq_k ?_; intro K9 hK9
    refine wlit ?_
    refine wl_v (x_move (tmI rfl rfl)) ?_
    refine wl_v (x_move (tmI rfl rfl)) ?_
    first
     | refine wl_v (x_min (tmI rfl rfl) (tmI rfl rfl)) ?_
     | refine wl_v (x_minI (tmI rfl rfl) (tmI rfl rfl)) ?_
    refine wl_v (x_assign (tmI rfl rfl)) ?_
    refine wl_nil ?_
    refine then_n (hK9 _ _ ?_); clear hK9 K9
    refine wp_ret ?_
    refine ret1 rfl (.tmp rfl (show _ = Value.int _ _ from rfl)) ?_
    refine ⟨?_, hS.kp⟩
    unfold twoI
    first
      | (rw [if_pos (by omega)]; done)
      | (rw [if_neg (by omega), if_pos (by omega)]; done)
      | (rw [if_neg (by omega), if_neg (by omega)]; done)
      | sorry
set_option maxRecDepth 100000 in
set_option maxHeartbeats 4000000 in
theorem rleast_c (n : Nat) (A : Option Addr) (c : Nat) (l : List Cn) (w0 : World) (hv : View w0 w0.heap.size A (flat cnV l)) (hl : l.length = n) (hn4 : n ≤ 1000) :
    Calls Try.prog 23 #[.slice A n c] w0 fun e w' => ∃ z, e = .returned (.int .i64 z) ∧ ((n = 0 ∧ z = -1) ∨ ∃ b : Nat, z = (b : Int) ∧ FirstLeast l n b) ∧ Kp [] w0 w' := by
  have hS := (St.sv w0).vcons rfl hv
  have hfl := flat_length (enc := cnV) (l := l) cnV_len
  refine ent (n := 28) Try.func23 rfl rfl ?_
  refine wp_seq_k ?_; intro K1 hK1
  refine wlit ?_
  refine wl_v (x_assign (ev_cN 0)) ?_
  refine wl_nil ?_
  refine then_n (hK1 _ _ ?_); clear hK1 K1
  refine wp_seq_k ?_; intro K2 hK2
  refine wlit ?_
  refine wl_v (x_assign ev_c) ?_
  refine wl_nil ?_
  refine then_n (hK2 _ _ ?_); clear hK2 K2
  refine wp_seq_k ?_; intro K3 hK3
  refine wp_seq_k ?_; intro K4 hK4
  refine wlit ?_
  refine wl_v (x_assign (ev_cN 0)) ?_
  refine wl_nil ?_
  refine then_n (hK4 _ _ ?_); clear hK4 K4
  refine wp_block ?_
  refine lp [3, 4, 5, 6, 7, 8, 9, 10, 11, 12, 13, 14, 15, 16, 17, 18, 19, 20, 21, 22, 23, 24, 25, 26] (fun mz g w => ∃ (k : Nat), ∃ (z : Int), mz = n - k ∧ g 4 = .int .i64 (k : Int) ∧ g 3 = .int .i64 z ∧ St [] w0 [.vw A (flat cnV l)] w ∧ (k ≤ n) ∧ ((k = 0 ∧ z = -1) ∨ (0 ≤ z ∧ FirstLeast l k z.toNat))) ?_ ?_
  · exact ⟨_, 0, -1, rfl, (by first | rfl | go_num | exact congrArg (Value.int _) (by first | omega | (simp; done) | (simp; omega))), (by first | rfl | go_num | exact congrArg (Value.int _) (by first | omega | (simp; done) | (simp; omega))), hS, (by omega), (by first | exact .inl ⟨rfl, rfl⟩ | exact hz1)⟩
  · clear hS; intro mz g w hI
    obtain ⟨k, z, rfl, hs4, hs3, hS, hk, hz⟩ := hI
    refine fr_know (d := 4) hs4 ?_; clear hs4
    refine fr_know (d := 3) hs3 ?_; clear hs3
    refine wp_seq_k ?_; intro K5 hK5
    refine wp_seq_k ?_; intro K6 hK6
    refine wlit ?_
    refine wl_v (x_move (tmI rfl rfl)) ?_
    refine wl_v (x_move (tmS rfl rfl)) ?_
    refine wl_v (x_len Try.underlying30 (tmS rfl rfl)) ?_
    refine wl_v (x_lss (tmI rfl rfl) (tmI rfl rfl)) ?_
    refine wl_nil ?_
    refine then_n (hK6 _ _ ?_); clear hK6 K6
    refine cnd (tm rfl) (fun hc0 => ?_) (fun hc0 => ?_)
    · try (exfalso; first | with_reducible exact absurd hc0 Bool.false_ne_true | with_reducible exact absurd hc0.symm Bool.false_ne_true | (simp only [nrm] at hc0; omega) | (simp at hc0; done))
      all_goals
       try simp only [nrm] at hc0
       obtain ⟨b4, o4, rfl⟩ := view_some hv (by rw [hfl]; omega)
       refine wp_skip ?_
       refine then_n (hK5 _ _ ?_); clear hK5 K5
       refine wp_seq_k ?_; intro K7 hK7
       refine wp_block ?_
       refine wp_seq_k ?_; intro K8 hK8
       refine rg_startk 0 hS mixed_ ?_
       clear hS; intro w hS
       refine rg_take 0 rfl rfl (by kernel_rfl) (by kernel_rfl) (by kernel_rfl) (want_0) (fun w hok => x_move (tmI rfl rfl)) ?_
       refine rg_take 1 rfl rfl (by kernel_rfl) (by kernel_rfl) (by kernel_rfl) (want_0) (fun w hok => x_lss (tmI rfl rfl) (ev_cN 0)) ?_
       refine rg_take 2 rfl rfl (by kernel_rfl) (by kernel_rfl) (by kernel_rfl) (want_0) (fun w hok => x_move (tmB rfl rfl)) ?_
       refine gs_rg (tm (t := 13) rfl) (fun hg5_2 => ?_) (fun hg5_2 => ?_)
       · have hg5_2' := hg5_2; (try simp only [nrm] at hg5_2'); try (exfalso; first | with_reducible exact absurd hg5_2 Bool.false_ne_true | with_reducible exact absurd hg5_2.symm Bool.false_ne_true | omega | (simp at hg5_2; done))
         all_goals
          refine rg_skip 3 rfl rfl (by kernel_rfl) (by kernel_rfl) (by kernel_rfl) (want_n rfl rfl rfl rfl (by rw [hg5_2]; rfl)) ?_
          refine rg_skip 4 rfl rfl (by kernel_rfl) (by kernel_rfl) (by kernel_rfl) (want_n rfl rfl rfl rfl (by rw [hg5_2]; rfl)) ?_
          refine rg_skip 5 rfl rfl (by kernel_rfl) (by kernel_rfl) (by kernel_rfl) (want_n rfl rfl rfl rfl (by rw [hg5_2]; rfl)) ?_
          refine rg_skip 6 rfl rfl (by kernel_rfl) (by kernel_rfl) (by kernel_rfl) (want_n rfl rfl rfl rfl (by rw [hg5_2]; rfl)) ?_
          refine rg_skip 7 rfl rfl (by kernel_rfl) (by kernel_rfl) (by kernel_rfl) (want_n rfl rfl rfl rfl (by rw [hg5_2]; rfl)) ?_
          refine rg_skip 8 rfl rfl (by kernel_rfl) (by kernel_rfl) (by kernel_rfl) (want_n rfl rfl rfl rfl (by rw [hg5_2]; rfl)) ?_
          refine rg_skip 9 rfl rfl (by kernel_rfl) (by kernel_rfl) (by kernel_rfl) (want_n rfl rfl rfl rfl (by rw [hg5_2]; rfl)) ?_
          refine rg_skip 10 rfl rfl (by kernel_rfl) (by kernel_rfl) (by kernel_rfl) (want_n rfl rfl rfl rfl (by rw [hg5_2]; rfl)) ?_
          refine rg_skip 11 rfl rfl (by kernel_rfl) (by kernel_rfl) (by kernel_rfl) (want_n rfl rfl rfl rfl (by rw [hg5_2]; rfl)) ?_
          refine rg_skip 12 rfl rfl (by kernel_rfl) (by kernel_rfl) (by kernel_rfl) (want_n rfl rfl rfl rfl (by rw [hg5_2]; rfl)) ?_
          refine rg_skip 13 rfl rfl (by kernel_rfl) (by kernel_rfl) (by kernel_rfl) (want_n rfl rfl rfl rfl (by rw [hg5_2]; rfl)) ?_
          refine rg_take 14 rfl rfl (by kernel_rfl) (by kernel_rfl) (by kernel_rfl) (want_0) (fun w hok => x_pickT (tmB rfl rfl) hg5_2 ev_c) ?_
          refine rg_done (oks_drop hS 0 rfl) (by kernel_rfl) ?_
          refine then_n (hK8 _ _ ?_); clear hK8 K8
          refine cnd_t (tmB rfl rfl) rfl ?_
          have hz1 : (k + 1 = 0 ∧ (k : Int) = -1) ∨ (0 ≤ (k : Int) ∧ FirstLeast l (k + 1) (k : Int).toNat) := by
            refine .inr ⟨by omega, ?_⟩
            rw [Int.toNat_natCast]
            first
              | (have hk0 : k = 0 := by
                   rcases hz with ⟨h, _⟩ | ⟨h, _⟩
                   · exact h
                   · simp at hg5_2
                     omega
                 subst hk0
                 exact FirstLeast.one l)
              | exact hf.go (by first | omega | (simp at *; omega))
          refine wlit ?_
          refine wl_v (x_move (tmI rfl rfl)) ?_
          refine wl_v (x_assign (tmI rfl rfl)) ?_
          refine wl_nil ?_
          refine inb_n ?_
          refine then_n (hK7 _ _ ?_); clear hK7 K7
          refine wlit ?_
          refine wl_v (x_move (tmI rfl rfl)) ?_
          first
           | refine wl_v (x_addN (tmI rfl rfl) (ev_cN 1) (fit_i64 (by omega))) ?_
           | refine wl_v (x_addI (tmI rfl rfl) (ev_cN 1) (IntWalk.i64_in _ (by omega))) ?_
           | refine wl_v (x_add (tmI rfl rfl) (ev_cN 1)) ?_
          refine wl_v (x_assign (tmI rfl rfl)) ?_
          refine wl_nil ?_
          first
           | exact then_n ⟨_, _, rfl, (by show _ < _; omega), (by repeat (first | exact agree_self | exact agree_refl | refine agree_upd rfl ?_ | refine agree_mix rfl ?_)), k + 1, _, rfl, (by first | rfl | go_num | exact congrArg (Value.int _) (by first | omega | (simp; done) | (simp; omega))), (by first | rfl | go_num | exact congrArg (Value.int _) (by first | omega | (simp; done) | (simp; omega))), hS, (by omega), (by first | exact .inl ⟨rfl, rfl⟩ | exact hz1)⟩
           | exact then_n ⟨_, _, rfl, (by show _ < _; omega), (by repeat (first | exact agree_self | exact agree_refl | refine agree_upd rfl ?_ | refine agree_mix rfl ?_)), k + 1, _, rfl, (by first | rfl | go_num | exact congrArg (Value.int _) (by first | omega | (simp; done) | (simp; omega))), (by first | rfl | go_num | exact congrArg (Value.int _) (by first | omega | (simp; done) | (simp; omega))), hS, (by omega), (by first | exact .inl ⟨rfl, rfl⟩ | exact hz1)⟩
       have hg5_2' := hg5_2; (try simp only [nrm] at hg5_2'); try (exfalso; first | with_reducible exact absurd hg5_2 Bool.false_ne_true | with_reducible exact absurd hg5_2.symm Bool.false_ne_true | omega | (simp at hg5_2; done))
       all_goals
        have hz0 : 0 ≤ z := by simpa using hg5_2
        have hf : FirstLeast l k z.toNat := by
          rcases hz with ⟨_, h⟩ | ⟨_, h⟩
          · omega
          · exact h
        obtain ⟨j, rfl⟩ := Int.eq_ofNat_of_zero_le hz0
        rw [Int.toNat_natCast] at hf
        have hjk := hf.1
        refine rg_take 3 rfl rfl (by kernel_rfl) (by kernel_rfl) (by kernel_rfl) (want_y rfl rfl rfl rfl (by rw [hg5_2]; rfl)) (fun w hok => x_move (tmS rfl rfl)) ?_
        refine rg_take 4 rfl rfl (by kernel_rfl) (by kernel_rfl) (by kernel_rfl) (want_y rfl rfl rfl rfl (by rw [hg5_2]; rfl)) (fun w hok => x_move (tmI rfl rfl)) ?_
        refine rg_take 5 rfl rfl (by kernel_rfl) (by kernel_rfl) (by kernel_rfl) (want_y rfl rfl rfl rfl (by rw [hg5_2]; rfl)) (fun w hok => x_ixs Try.underlying30 ts_40 (tmS rfl rfl) (tmI rfl rfl) (by omega)) ?_
        refine rg_take 6 rfl rfl (by kernel_rfl) (by kernel_rfl) (by kernel_rfl) (want_y rfl rfl rfl rfl (by rw [hg5_2]; rfl)) (fun w hok => x_fa 3 Try.underlying40 rfl rfl ts_31 (tmP rfl rfl)) ?_
        first
         | refine rg_take 7 rfl rfl (by kernel_rfl) (by kernel_rfl) (by kernel_rfl) (want_y rfl rfl rfl rfl (by rw [hg5_2]; rfl)) (fun w hok => x_load Try.underlying31 rfl (tmP rfl rfl) (cellV hok 0 rfl rfl)) ?_
         | refine rg_take 7 rfl rfl (by kernel_rfl) (by kernel_rfl) (by kernel_rfl) (want_y rfl rfl rfl rfl (by rw [hg5_2]; rfl)) (fun w hok => x_load Try.underlying31 rfl (tmP rfl rfl) (cellV hok 0 rfl (getm (by omega)))) ?_
         | refine rg_take 7 rfl rfl (by kernel_rfl) (by kernel_rfl) (by kernel_rfl) (want_y rfl rfl rfl rfl (by rw [hg5_2]; rfl)) (fun w hok => x_load Try.underlying31 rfl (tmP rfl rfl) (cellVs hok 0 rfl (fun _ => rfl) rfl (by omega) rfl)) ?_
        refine rg_take 8 rfl rfl (by kernel_rfl) (by kernel_rfl) (by kernel_rfl) (want_y rfl rfl rfl rfl (by rw [hg5_2]; rfl)) (fun w hok => x_move (tmS rfl rfl)) ?_
        refine rg_take 9 rfl rfl (by kernel_rfl) (by kernel_rfl) (by kernel_rfl) (want_y rfl rfl rfl rfl (by rw [hg5_2]; rfl)) (fun w hok => x_move (tmI rfl rfl)) ?_
        refine rg_take 10 rfl rfl (by kernel_rfl) (by kernel_rfl) (by kernel_rfl) (want_y rfl rfl rfl rfl (by rw [hg5_2]; rfl)) (fun w hok => x_ixs Try.underlying30 ts_40 (tmS rfl rfl) (tmI rfl rfl) (by omega)) ?_
        refine rg_take 11 rfl rfl (by kernel_rfl) (by kernel_rfl) (by kernel_rfl) (want_y rfl rfl rfl rfl (by rw [hg5_2]; rfl)) (fun w hok => x_fa 3 Try.underlying40 rfl rfl ts_31 (tmP rfl rfl)) ?_
        first
         | refine rg_take 12 rfl rfl (by kernel_rfl) (by kernel_rfl) (by kernel_rfl) (want_y rfl rfl rfl rfl (by rw [hg5_2]; rfl)) (fun w hok => x_load Try.underlying31 rfl (tmP rfl rfl) (cellV hok 0 rfl rfl)) ?_
         | refine rg_take 12 rfl rfl (by kernel_rfl) (by kernel_rfl) (by kernel_rfl) (want_y rfl rfl rfl rfl (by rw [hg5_2]; rfl)) (fun w hok => x_load Try.underlying31 rfl (tmP rfl rfl) (cellV hok 0 rfl (getm (by omega)))) ?_
         | refine rg_take 12 rfl rfl (by kernel_rfl) (by kernel_rfl) (by kernel_rfl) (want_y rfl rfl rfl rfl (by rw [hg5_2]; rfl)) (fun w hok => x_load Try.underlying31 rfl (tmP rfl rfl) (cellVs hok 0 rfl (fun _ => rfl) rfl (by omega) rfl)) ?_
        refine rg_take 13 rfl rfl (by kernel_rfl) (by kernel_rfl) (by kernel_rfl) (want_y rfl rfl rfl rfl (by rw [hg5_2]; rfl)) (fun w hok => x_lss (tmI rfl rfl) (tmI rfl rfl)) ?_
        refine rg_take 14 rfl rfl (by kernel_rfl) (by kernel_rfl) (by kernel_rfl) (want_0) (fun w hok => x_pickF (tmB rfl rfl) hg5_2 (tmB rfl rfl)) ?_
        refine rg_done (oks_drop hS 0 rfl) (by kernel_rfl) ?_
        refine then_n (hK8 _ _ ?_); clear hK8 K8
        refine cnd (tm rfl) (fun hc1 => ?_) (fun hc1 => ?_)
        · try (exfalso; first | with_reducible exact absurd hc1 Bool.false_ne_true | with_reducible exact absurd hc1.symm Bool.false_ne_true | (simp only [nrm] at hc1; omega) | (simp at hc1; done))
          all_goals
           try simp only [nrm] at hc1
           have hz1 : (k + 1 = 0 ∧ (k : Int) = -1) ∨ (0 ≤ (k : Int) ∧ FirstLeast l (k + 1) (k : Int).toNat) := by
             refine .inr ⟨by omega, ?_⟩
             rw [Int.toNat_natCast]
             first
               | (have hk0 : k = 0 := by
                    rcases hz with ⟨h, _⟩ | ⟨h, _⟩
                    · exact h
                    · simp at hg5_2
                      omega
                  subst hk0
                  exact FirstLeast.one l)
               | exact hf.go (by first | omega | (simp at *; omega))
           refine wlit ?_
           refine wl_v (x_move (tmI rfl rfl)) ?_
           refine wl_v (x_assign (tmI rfl rfl)) ?_
           refine wl_nil ?_
           refine inb_n ?_
           refine then_n (hK7 _ _ ?_); clear hK7 K7
           refine wlit ?_
           refine wl_v (x_move (tmI rfl rfl)) ?_
           first
            | refine wl_v (x_addN (tmI rfl rfl) (ev_cN 1) (fit_i64 (by omega))) ?_
            | refine wl_v (x_addI (tmI rfl rfl) (ev_cN 1) (IntWalk.i64_in _ (by omega))) ?_
            | refine wl_v (x_add (tmI rfl rfl) (ev_cN 1)) ?_
           refine wl_v (x_assign (tmI rfl rfl)) ?_
           refine wl_nil ?_
           first
            | exact then_n ⟨_, _, rfl, (by show _ < _; omega), (by repeat (first | exact agree_self | exact agree_refl | refine agree_upd rfl ?_ | refine agree_mix rfl ?_)), k + 1, _, rfl, (by first | rfl | go_num | exact congrArg (Value.int _) (by first | omega | (simp; done) | (simp; omega))), (by first | rfl | go_num | exact congrArg (Value.int _) (by first | omega | (simp; done) | (simp; omega))), hS, (by omega), (by first | exact .inl ⟨rfl, rfl⟩ | exact hz1)⟩
            | exact then_n ⟨_, _, rfl, (by show _ < _; omega), (by repeat (first | exact agree_self | exact agree_refl | refine agree_upd rfl ?_ | refine agree_mix rfl ?_)), k + 1, _, rfl, (by first | rfl | go_num | exact congrArg (Value.int _) (by first | omega | (simp; done) | (simp; omega))), (by first | rfl | go_num | exact congrArg (Value.int _) (by first | omega | (simp; done) | (simp; omega))), hS, (by omega), (by first | exact .inl ⟨rfl, rfl⟩ | exact hz1)⟩
        try (exfalso; first | with_reducible exact absurd hc1 Bool.false_ne_true | with_reducible exact absurd hc1.symm Bool.false_ne_true | (simp only [nrm] at hc1; omega) | (simp at hc1; done))
        all_goals
         try simp only [nrm] at hc1
         have hz1 : (k + 1 = 0 ∧ (j : Int) = -1) ∨ (0 ≤ (j : Int) ∧ FirstLeast l (k + 1) (j : Int).toNat) := by
           refine .inr ⟨by omega, ?_⟩
           rw [Int.toNat_natCast]
           exact hf.stay (by first | omega | (simp at *; omega))
         refine wp_skip ?_
         refine inb_n ?_
         refine then_n (hK7 _ _ ?_); clear hK7 K7
         refine wlit ?_
         refine wl_v (x_move (tmI rfl rfl)) ?_
         first
          | refine wl_v (x_addN (tmI rfl rfl) (ev_cN 1) (fit_i64 (by omega))) ?_
          | refine wl_v (x_addI (tmI rfl rfl) (ev_cN 1) (IntWalk.i64_in _ (by omega))) ?_
          | refine wl_v (x_add (tmI rfl rfl) (ev_cN 1)) ?_
         refine wl_v (x_assign (tmI rfl rfl)) ?_
         refine wl_nil ?_
         first
          | exact then_n ⟨_, _, rfl, (by show _ < _; omega), (by repeat (first | exact agree_self | exact agree_refl | refine agree_upd rfl ?_ | refine agree_mix rfl ?_)), k + 1, _, rfl, (by first | rfl | go_num | exact congrArg (Value.int _) (by first | omega | (simp; done) | (simp; omega))), (by first | rfl | go_num | exact congrArg (Value.int _) (by first | omega | (simp; done) | (simp; omega))), hS, (by omega), (by first | exact .inl ⟨rfl, rfl⟩ | exact hz1)⟩
          | exact then_n ⟨_, _, rfl, (by show _ < _; omega), (by repeat (first | exact agree_self | exact agree_refl | refine agree_upd rfl ?_ | refine agree_mix rfl ?_)), k + 1, _, rfl, (by first | rfl | go_num | exact congrArg (Value.int _) (by first | omega | (simp; done) | (simp; omega))), (by first | rfl | go_num | exact congrArg (Value.int _) (by first | omega | (simp; done) | (simp; omega))), hS, (by omega), (by first | exact .inl ⟨rfl, rfl⟩ | exact hz1)⟩
    try (exfalso; first | with_reducible exact absurd hc0 Bool.false_ne_true | with_reducible exact absurd hc0.symm Bool.false_ne_true | (simp only [nrm] at hc0; omega) | (simp at hc0; done))
    all_goals
     try simp only [nrm] at hc0
     refine wp_exit ?_
     refine then_x ?_; clear hK5 K5
     refine then_x ?_
     refine inb_x ?_
     refine then_n (hK3 _ _ ?_); clear hK3 K3
     refine wp_seq_k ?_; intro K9 hK9
     refine wlit ?_
     refine wl_v (x_move (tmI rfl rfl)) ?_
     refine wl_v (x_assign (tmI rfl rfl)) ?_
     refine wl_nil ?_
     refine then_n (hK9 _ _ ?_); clear hK9 K9
     refine wp_ret ?_
     refine ret1 rfl (.tmp rfl (show _ = Value.int _ _ from rfl)) ?_
     obtain rfl : k = n := by omega
     refine ⟨_, rfl, ?_, hS.kp⟩
     rcases hz with h | ⟨h0, h⟩
     · exact .inl h
     · exact .inr ⟨_, (Int.toNat_of_nonneg h0).symm, h⟩
/-- Is x among the first n? -/
def InL (l : List Cn) (n : Nat) (x : Cn) : Prop := ∃ i, i < n ∧ l.getD i default = x
theorem cn_eq {x y : Cn} (h1 : x.slot = y.slot) (h2 : x.backend = y.backend) (h3 : x.weight = y.weight) (h4 : x.load = y.load) : x = y := by
  obtain ⟨a, b, c, d⟩ := x
  obtain ⟨a', b', c', d'⟩ := y
  simp only at h1 h2 h3 h4
  subst h1 h2 h3 h4
  rfl
theorem cn_iff (x y : Cn) : (decide (x.slot = y.slot) && (decide (x.backend = y.backend) && (decide (x.weight = y.weight) && (decide (x.load = y.load) && true)))) = true ↔ x = y := by
  constructor
  · intro h
    simp only [Bool.and_eq_true, decide_eq_true_eq, and_true] at h
    exact cn_eq h.1 h.2.1 h.2.2.1 h.2.2.2
  · rintro rfl
    simp
set_option maxRecDepth 100000 in
set_option maxHeartbeats 4000000 in
theorem index_c (n : Nat) (A : Option Addr) (c : Nat) (l : List Cn) (x : Cn) (w0 : World) (hv : View w0 w0.heap.size A (flat cnV l)) (hl : l.length = n) (hn4 : n ≤ 1000) :
    Calls Try.prog 29 #[.slice A n c, .agg (cnV x).toArray] w0 fun e w' => ∃ z, e = .returned (.int .i64 z) ∧ (0 ≤ z ↔ InL l n x) ∧ Kp [] w0 w' := by
  have hS := (St.sv w0).vcons rfl hv
  have hfl := flat_length (enc := cnV) (l := l) cnV_len
  refine ent (n := 19) Try.func29 rfl rfl ?_
  refine wp_seq_k ?_; intro K1 hK1
  refine wlit ?_
  refine wl_e rfl ?_; intro K hK
  refine ow_box hS (tmA rfl rfl) rfl ?_
  clear hS; intro g0_0 w hg0_0 hS
  refine hK _ _ ?_; clear hK K
  refine wl_v (x_assign (ev_cN 0)) ?_
  refine wl_nil ?_
  refine then_n (hK1 _ _ ?_); clear hK1 K1
  refine wp_seq_k ?_; intro K2 hK2
  refine wp_seq_k ?_; intro K3 hK3
  refine wlit ?_
  refine wl_v (x_move (tmS rfl rfl)) ?_
  refine wl_v (x_len Try.underlying36 (tmS rfl rfl)) ?_
  refine wl_v (x_move (ev_cN 0)) ?_
  refine wl_nil ?_
  refine then_n (hK3 _ _ ?_); clear hK3 K3
  refine wp_block ?_
  refine lp [4, 5, 8, 9, 10, 11, 12, 13, 14, 15, 16, 17, 18] (fun mz g w => ∃ (k : Nat), mz = n - k ∧ g 8 = .int .i64 (k : Int) ∧ St [] w0 [.blk g0_0 33 (cnV x), .vw A (flat cnV l)] w ∧ (k ≤ n) ∧ (¬ InL l k x)) ?_ ?_
  · exact ⟨_, 0, rfl, (by first | rfl | go_num | exact congrArg (Value.int _) (by first | omega | (simp; done) | (simp; omega))), hS, (by omega), (by first | exact hz1 | (rintro ⟨i, hi, _⟩; omega))⟩
  · clear hS; intro mz g w hI
    obtain ⟨k, rfl, hs8, hS, hk, hz⟩ := hI
    refine fr_know (d := 8) hs8 ?_; clear hs8
    refine wp_seq_k ?_; intro K4 hK4
    refine wlit ?_
    refine wl_v (x_lss (tmI rfl rfl) (tmI rfl rfl)) ?_
    refine wl_nil ?_
    refine then_n (hK4 _ _ ?_); clear hK4 K4
    refine wp_seq_k ?_; intro K5 hK5
    refine cnd (tm rfl) (fun hc0 => ?_) (fun hc0 => ?_)
    · try (exfalso; first | with_reducible exact absurd hc0 Bool.false_ne_true | with_reducible exact absurd hc0.symm Bool.false_ne_true | (simp only [nrm] at hc0; omega) | (simp at hc0; done))
      all_goals
       try simp only [nrm] at hc0
       obtain ⟨b4, o4, rfl⟩ := view_some hv (by rw [hfl]; omega)
       refine wp_skip ?_
       refine then_n (hK5 _ _ ?_); clear hK5 K5
       refine wp_seq_k ?_; intro K6 hK6
       refine wp_block ?_
       refine wp_seq_k ?_; intro K7 hK7
       refine wlit ?_
       refine wl_v (x_move (tmI rfl rfl)) ?_
       refine wl_v (x_assign (tmI rfl rfl)) ?_
       refine wl_nil ?_
       refine then_n (hK7 _ _ ?_); clear hK7 K7
       refine wp_seq_k ?_; intro K8 hK8
       refine rg_startk 0 hS mixed_ ?_
       clear hS; intro w hS
       refine rg_take 0 rfl rfl (by kernel_rfl) (by kernel_rfl) (by kernel_rfl) (want_0) (fun w hok => x_loadA (cs := [_, _, _, _]) Try.underlying33 rfl ts_33 (tmP rfl rfl) (rangeB hok 0 rfl rfl)) ?_
       refine rg_take 1 rfl rfl (by kernel_rfl) (by kernel_rfl) (by kernel_rfl) (want_0) (fun w hok => x_move (tmS rfl rfl)) ?_
       refine rg_take 2 rfl rfl (by kernel_rfl) (by kernel_rfl) (by kernel_rfl) (want_0) (fun w hok => x_move (tmI rfl rfl)) ?_
       refine rg_take 3 rfl rfl (by kernel_rfl) (by kernel_rfl) (by kernel_rfl) (want_0) (fun w hok => x_ixs Try.underlying36 ts_33 (tmS rfl rfl) (tmI rfl rfl) (by omega)) ?_
       refine rg_take 4 rfl rfl (by kernel_rfl) (by kernel_rfl) (by kernel_rfl) (want_0) (fun w hok => x_loadA Try.underlying33 rfl (by exact ts_33) (tmP rfl rfl) (rangeVs hok 1 rfl (fun _ => rfl) (by omega))) ?_
       refine rg_take 5 rfl rfl (by kernel_rfl) (by kernel_rfl) (by kernel_rfl) (want_0) (fun w hok => x_Aeql (by kernel_rfl) (tmA rfl rfl) (tmA rfl rfl) (eqv_A Try.underlying33 (by kernel_rfl) (fe_cons rfl (pt_1 Try.underlying3 rfl rfl) (pt_1 Try.underlying3 rfl rfl) (eqv_i Try.underlying3) <| fe_cons rfl (pt_1 Try.underlying3 rfl rfl) (pt_1 Try.underlying3 rfl rfl) (eqv_i Try.underlying3) <| fe_cons rfl (pt_1 Try.underlying3 rfl rfl) (pt_1 Try.underlying3 rfl rfl) (eqv_i Try.underlying3) <| fe_cons rfl (pt_1 Try.underlying31 rfl rfl) (pt_1 Try.underlying31 rfl rfl) (eqv_i Try.underlying31) <| fe_nil))) ?_
       refine rg_done (oks_drop hS 0 rfl) (by kernel_rfl) ?_
       refine then_n (hK8 _ _ ?_); clear hK8 K8
       refine cnd (tm rfl) (fun hc1 => ?_) (fun hc1 => ?_)
       · try (exfalso; first | with_reducible exact absurd hc1 Bool.false_ne_true | with_reducible exact absurd hc1.symm Bool.false_ne_true | (simp only [nrm] at hc1; omega) | (simp at hc1; done))
         all_goals
          try simp only [nrm] at hc1
          refine wp_seq_k ?_; intro K9 hK9
          refine wlit ?_
          refine wl_v (x_move (tmI rfl rfl)) ?_
          refine wl_v (x_assign (tmI rfl rfl)) ?_
          refine wl_nil ?_
          refine then_n (hK9 _ _ ?_); clear hK9 K9
          refine wp_ret ?_
          refine inb_r ?_
          refine then_r ?_
          refine then_r ?_
          refine inb_r ?_
          refine then_r ?_
          refine ret1 rfl (.tmp rfl (show _ = Value.int _ _ from rfl)) ?_
          first
            | (refine ⟨_, rfl, ⟨fun _ => ⟨k, by omega, ?_⟩, fun _ => by omega⟩, hS.kp⟩
               exact ((cn_iff _ _).1 hc1).symm)
            | (obtain rfl : k = n := by omega
               exact ⟨-1, rfl, ⟨fun h => by omega, fun h => absurd h hz⟩, hS.kp⟩)
       try (exfalso; first | with_reducible exact absurd hc1 Bool.false_ne_true | with_reducible exact absurd hc1.symm Bool.false_ne_true | (simp only [nrm] at hc1; omega) | (simp at hc1; done))
       all_goals
        try simp only [nrm] at hc1
        have hne : x ≠ l.getD k default := fun h => by
          rw [(cn_iff _ _).2 h] at hc1
          cases hc1
        have hz1 : ¬ InL l (k + 1) x := by
          rintro ⟨i, hi, h⟩
          by_cases hik : i = k
          · subst hik; exact hne h.symm
          · exact hz ⟨i, by omega, h⟩
        refine wp_skip ?_
        refine inb_n ?_
        refine then_n (hK6 _ _ ?_); clear hK6 K6
        refine wlit ?_
        first
         | refine wl_v (x_addN (tmI rfl rfl) (ev_cN 1) (fit_i64 (by omega))) ?_
         | refine wl_v (x_addI (tmI rfl rfl) (ev_cN 1) (IntWalk.i64_in _ (by omega))) ?_
         | refine wl_v (x_add (tmI rfl rfl) (ev_cN 1)) ?_
        refine wl_v (x_move (tmI rfl rfl)) ?_
        refine wl_nil ?_
        exact then_n ⟨_, _, rfl, (by show _ < _; omega), (by repeat (first | exact agree_self | exact agree_refl | refine agree_upd rfl ?_ | refine agree_mix rfl ?_)), k + 1, rfl, (by first | rfl | go_num | exact congrArg (Value.int _) (by first | omega | (simp; done) | (simp; omega))), hS, (by omega), (by first | exact hz1 | (rintro ⟨i, hi, _⟩; omega))⟩
    try (exfalso; first | with_reducible exact absurd hc0 Bool.false_ne_true | with_reducible exact absurd hc0.symm Bool.false_ne_true | (simp only [nrm] at hc0; omega) | (simp at hc0; done))
    all_goals
     try simp only [nrm] at hc0
     refine wp_exit ?_
     refine then_x ?_; clear hK5 K5
     refine then_x ?_
     refine inb_x ?_
     refine then_n (hK2 _ _ ?_); clear hK2 K2
     refine wp_seq_k ?_; intro K10 hK10
     refine wlit ?_
     refine wl_v (x_assign ev_c) ?_
     refine wl_nil ?_
     refine then_n (hK10 _ _ ?_); clear hK10 K10
     refine wp_ret ?_
     refine ret1 rfl (.tmp rfl (show _ = Value.int _ _ from rfl)) ?_
     first
       | (refine ⟨_, rfl, ⟨fun _ => ⟨k, by omega, ?_⟩, fun _ => by omega⟩, hS.kp⟩
          exact ((cn_iff _ _).1 hc1).symm)
       | (obtain rfl : k = n := by omega
          exact ⟨-1, rfl, ⟨fun h => by omega, fun h => absurd h hz⟩, hS.kp⟩)
set_option maxRecDepth 100000 in
set_option maxHeartbeats 4000000 in
theorem contains_c (n : Nat) (A : Option Addr) (c : Nat) (l : List Cn) (x : Cn) (w0 : World) (hv : View w0 w0.heap.size A (flat cnV l)) (hl : l.length = n) (hn4 : n ≤ 1000) :
    Calls Try.prog 25 #[.slice A n c, .agg (cnV x).toArray] w0 fun e w' => ∃ r, e = .returned (.bool r) ∧ (r = true ↔ InL l n x) ∧ Kp [] w0 w' := by
  have hS := (St.sv w0).vcons rfl hv
  refine ent (n := 9) Try.func25 rfl rfl ?_
  refine wp_seq_k ?_; intro K1 hK1
  refine wlit ?_
  refine wl_e rfl ?_; intro K hK
  refine ow_box hS (tmA rfl rfl) rfl ?_
  clear hS; intro g0_0 w hg0_0 hS
  refine hK _ _ ?_; clear hK K
  refine wl_v (x_assign ev_c) ?_
  refine wl_nil ?_
  refine then_n (hK1 _ _ ?_); clear hK1 K1
  refine wp_seq_k ?_; intro K2 hK2
  refine wlit ?_
  refine wl_v (x_move (tmS rfl rfl)) ?_
  refine wl_v (x_loadA (cs := [_, _, _, _]) Try.underlying33 rfl ts_33 (tmP rfl rfl) (rangeB hS.ok 0 rfl rfl)) ?_
  refine wl_e rfl ?_; intro K hK
  refine ow_call Try.func29 rfl rfl (evs_cons (tmS rfl rfl) <| evs_cons (tmA rfl rfl) <| evs_nil) (index_c n A c l x _ (viewV hS.ok 1 rfl) hl hn4) ?_
  rintro e w ⟨z, rfl, hz, hk⟩
  refine ⟨_, rfl, ?_⟩
  replace hS := hS.kept hk
  clear hk
  refine hK _ _ ?_; clear hK K
  refine wl_v (x_geq (tmI rfl rfl) (ev_cN 0)) ?_
  refine wl_v (x_assign (tmB rfl rfl)) ?_
  refine wl_nil ?_
  refine then_n (hK2 _ _ ?_); clear hK2 K2
  refine wp_ret ?_
  refine ret1 rfl (.tmp rfl (show _ = Value.bool _ from rfl)) ?_
  refine ⟨_, rfl, ?_, hS.kp⟩
  rw [← hz]
  simp
/-- Which choice a way may make. -/
def FitsP (way : Int) (l : List Cn) (n a b : Nat) (x : Cn) : Prop :=
  (way = 1 ∧ InL l n x) ∨ (way = 2 ∧ InL l n x ∧ 0 < x.weight) ∨ (way = 3 ∧ 0 < n ∧ bstC l n = x) ∨ (way = 4 ∧ 0 < n ∧ twoC l n a b = x)
set_option maxRecDepth 100000 in
set_option maxHeartbeats 4000000 in
theorem fits_c (way : Int) (n : Nat) (A : Option Addr) (c : Nat) (l : List Cn) (a b : Nat) (x : Cn) (w0 : World) (hv : View w0 w0.heap.size A (flat cnV l)) (hl : l.length = n) (hn4 : n ≤ 1000) (hn0 : 0 < n) (ha : a < 4294967296) (hb : b < 4294967296) :
    Calls Try.prog 15 #[.int .i64 way, .slice A n c, .int .u32 (a : Int), .int .u32 (b : Int), .agg (cnV x).toArray] w0 fun e w' => ∃ r, e = .returned (.bool r) ∧ (r = true ↔ FitsP way l n a b x) ∧ Kp [] w0 w' := by
  have hS := (St.sv w0).vcons rfl hv
  refine ent (n := 59) Try.func15 rfl rfl ?_
  refine wp_seq_k ?_; intro K1 hK1
  refine wlit ?_
  refine wl_e rfl ?_; intro K hK
  refine ow_box hS (tmA rfl rfl) rfl ?_
  clear hS; intro g0_0 w hg0_0 hS
  refine hK _ _ ?_; clear hK K
  refine wl_v (x_assign ev_c) ?_
  refine wl_nil ?_
  refine then_n (hK1 _ _ ?_); clear hK1 K1
  refine wp_seq_k ?_; intro K2 hK2
  refine wp_seq_k ?_; intro K3 hK3
  refine wlit ?_
  refine wl_v (x_move (tmI rfl rfl)) ?_
  refine wl_nil ?_
  refine then_n (hK3 _ _ ?_); clear hK3 K3
  refine wp_block ?_
  refine wp_seq_k ?_; intro K4 hK4
  refine wlit ?_
  refine wl_v (x_eql (tmI rfl rfl) (ev_cN 1)) ?_
  refine wl_v (x_assign (tmB rfl rfl)) ?_
  refine wl_nil ?_
  refine then_n (hK4 _ _ ?_); clear hK4 K4
  refine cnd (tm rfl) (fun hc0 => ?_) (fun hc0 => ?_)
  · try (exfalso; first | with_reducible exact absurd hc0 Bool.false_ne_true | with_reducible exact absurd hc0.symm Bool.false_ne_true | (simp only [nrm] at hc0; omega) | (simp at hc0; done))
    all_goals
     try simp only [nrm] at hc0
     refine wp_seq_k ?_; intro K5 hK5
     refine wlit ?_
     refine wl_v (x_move (tmS rfl rfl)) ?_
     refine wl_v (x_loadA (cs := [_, _, _, _]) Try.underlying33 rfl ts_33 (tmP rfl rfl) (rangeB hS.ok 0 rfl rfl)) ?_
     refine wl_e rfl ?_; intro K hK
     refine ow_call Try.func25 rfl rfl (evs_cons (tmS rfl rfl) <| evs_cons (tmA rfl rfl) <| evs_nil) (contains_c n A c l x _ (viewV hS.ok 1 rfl) hl hn4) ?_
     rintro e w ⟨r, rfl, hr, hk⟩
     refine ⟨_, rfl, ?_⟩
     replace hS := hS.kept hk
     clear hk
     refine hK _ _ ?_; clear hK K
     refine wl_v (x_assign (tmB rfl rfl)) ?_
     refine wl_nil ?_
     refine then_n (hK5 _ _ ?_); clear hK5 K5
     refine wp_ret ?_
     refine inb_r ?_
     refine then_r ?_
     refine ret1 rfl (.tmp rfl (show _ = Value.bool _ from rfl)) ?_
     refine ⟨_, rfl, ?_, hS.kp⟩
     first
       | (rw [hr]
          have hw : way = 1 := by simpa using hc0
          subst hw
          simp [FitsP]
          done)
       | (have hw : way = 2 := by simpa using hc1
          subst hw
          have hin : InL l n x := hr.1 (by simpa using hg5_3)
          simp [FitsP, hin]
          done)
       | (have hw : way = 2 := by simpa using hc1
          subst hw
          have hin : ¬ InL l n x := fun h => by
            have h1 := hr.2 h
            rw [h1] at hg5_3
            cases hg5_3
          simp [FitsP, hin, hg5_3]
          done)
       | (have hw : way = 3 := by simpa using hc2
          subst hw
          refine (cn_iff _ _).trans ?_
          simp [FitsP, hn0]
          done)
       | (have hw : way = 4 := by simpa using hc3
          subst hw
          refine (cn_iff _ _).trans ?_
          simp [FitsP, hn0]
          done)
       | (simp at hc0 hc1 hc2 hc3
          simp [FitsP, hc0, hc1, hc2, hc3]
          done)
  try (exfalso; first | with_reducible exact absurd hc0 Bool.false_ne_true | with_reducible exact absurd hc0.symm Bool.false_ne_true | (simp only [nrm] at hc0; omega) | (simp at hc0; done))
  all_goals
   try simp only [nrm] at hc0
   refine wp_seq_k ?_; intro K6 hK6
   refine wlit ?_
   refine wl_v (x_eql (tmI rfl rfl) (ev_cN 2)) ?_
   refine wl_v (x_assign (tmB rfl rfl)) ?_
   refine wl_nil ?_
   refine then_n (hK6 _ _ ?_); clear hK6 K6
   refine cnd (tm rfl) (fun hc1 => ?_) (fun hc1 => ?_)
   · try (exfalso; first | with_reducible exact absurd hc1 Bool.false_ne_true | with_reducible exact absurd hc1.symm Bool.false_ne_true | (simp only [nrm] at hc1; omega) | (simp at hc1; done))
     all_goals
      try simp only [nrm] at hc1
      refine wp_seq_k ?_; intro K7 hK7
      refine wlit ?_
      refine wl_v (x_move (tmS rfl rfl)) ?_
      refine wl_v (x_loadA (cs := [_, _, _, _]) Try.underlying33 rfl ts_33 (tmP rfl rfl) (rangeB hS.ok 0 rfl rfl)) ?_
      refine wl_e rfl ?_; intro K hK
      refine ow_call Try.func25 rfl rfl (evs_cons (tmS rfl rfl) <| evs_cons (tmA rfl rfl) <| evs_nil) (contains_c n A c l x _ (viewV hS.ok 1 rfl) hl hn4) ?_
      rintro e w ⟨r, rfl, hr, hk⟩
      refine ⟨_, rfl, ?_⟩
      replace hS := hS.kept hk
      clear hk
      refine hK _ _ ?_; clear hK K
      refine wl_v (x_move (tmB rfl rfl)) ?_
      refine gs_wl (tm (t := 26) rfl) (fun hg5_3 => ?_) (fun hg5_3 => ?_)
      · have hg5_3' := hg5_3; (try simp only [nrm] at hg5_3'); try (exfalso; first | with_reducible exact absurd hg5_3 Bool.false_ne_true | with_reducible exact absurd hg5_3.symm Bool.false_ne_true | omega | (simp at hg5_3; done))
        all_goals
         refine wl_gv (want_y rfl rfl rfl rfl (by rw [hg5_3]; rfl)) (x_fa 2 Try.underlying33 rfl rfl ts_3 (tmP rfl rfl)) ?_
         first
          | refine wl_gv (want_y rfl rfl rfl rfl (by rw [hg5_3]; rfl)) (x_load Try.underlying3 rfl (tmP rfl rfl) (cellB hS.ok 0 rfl rfl)) ?_
          | refine wl_gv (want_y rfl rfl rfl rfl (by rw [hg5_3]; rfl)) (x_load Try.underlying3 rfl (tmP rfl rfl) (cellB hS.ok 0 rfl (getm (by omega)))) ?_
         refine wl_gv (want_y rfl rfl rfl rfl (by rw [hg5_3]; rfl)) (x_gtr (tmI rfl rfl) (ev_cN 0)) ?_
         refine wl_v (x_pickT (tmB rfl rfl) hg5_3 (tmB rfl rfl)) ?_
         refine wl_v (x_assign (tmB rfl rfl)) ?_
         refine wl_nil ?_
         refine then_n (hK7 _ _ ?_); clear hK7 K7
         refine wp_ret ?_
         refine inb_r ?_
         refine then_r ?_
         refine ret1 rfl (.tmp rfl (show _ = Value.bool _ from rfl)) ?_
         refine ⟨_, rfl, ?_, hS.kp⟩
         first
           | (rw [hr]
              have hw : way = 1 := by simpa using hc0
              subst hw
              simp [FitsP]
              done)
           | (have hw : way = 2 := by simpa using hc1
              subst hw
              have hin : InL l n x := hr.1 (by simpa using hg5_3)
              simp [FitsP, hin]
              done)
           | (have hw : way = 2 := by simpa using hc1
              subst hw
              have hin : ¬ InL l n x := fun h => by
                have h1 := hr.2 h
                rw [h1] at hg5_3
                cases hg5_3
              simp [FitsP, hin, hg5_3]
              done)
           | (have hw : way = 3 := by simpa using hc2
              subst hw
              refine (cn_iff _ _).trans ?_
              simp [FitsP, hn0]
              done)
           | (have hw : way = 4 := by simpa using hc3
              subst hw
              refine (cn_iff _ _).trans ?_
              simp [FitsP, hn0]
              done)
           | (simp at hc0 hc1 hc2 hc3
              simp [FitsP, hc0, hc1, hc2, hc3]
              done)
      have hg5_3' := hg5_3; (try simp only [nrm] at hg5_3'); try (exfalso; first | with_reducible exact absurd hg5_3 Bool.false_ne_true | with_reducible exact absurd hg5_3.symm Bool.false_ne_true | omega | (simp at hg5_3; done))
      all_goals
       refine wl_s rfl (want_n rfl rfl rfl rfl (by rw [hg5_3]; rfl)) ?_
       refine wl_s rfl (want_n rfl rfl rfl rfl (by rw [hg5_3]; rfl)) ?_
       refine wl_s rfl (want_n rfl rfl rfl rfl (by rw [hg5_3]; rfl)) ?_
       refine wl_v (x_pickF (tmB rfl rfl) hg5_3 ev_c) ?_
       refine wl_v (x_assign (tmB rfl rfl)) ?_
       refine wl_nil ?_
       refine then_n (hK7 _ _ ?_); clear hK7 K7
       refine wp_ret ?_
       refine inb_r ?_
       refine then_r ?_
       refine ret1 rfl (.tmp rfl (show _ = Value.bool _ from rfl)) ?_
       refine ⟨_, rfl, ?_, hS.kp⟩
       first
         | (rw [hr]
            have hw : way = 1 := by simpa using hc0
            subst hw
            simp [FitsP]
            done)
         | (have hw : way = 2 := by simpa using hc1
            subst hw
            have hin : InL l n x := hr.1 (by simpa using hg5_3)
            simp [FitsP, hin]
            done)
         | (have hw : way = 2 := by simpa using hc1
            subst hw
            have hin : ¬ InL l n x := fun h => by
              have h1 := hr.2 h
              rw [h1] at hg5_3
              cases hg5_3
            simp [FitsP, hin, hg5_3]
            done)
         | (have hw : way = 3 := by simpa using hc2
            subst hw
            refine (cn_iff _ _).trans ?_
            simp [FitsP, hn0]
            done)
         | (have hw : way = 4 := by simpa using hc3
            subst hw
            refine (cn_iff _ _).trans ?_
            simp [FitsP, hn0]
            done)
         | (simp at hc0 hc1 hc2 hc3
            simp [FitsP, hc0, hc1, hc2, hc3]
            done)
   try (exfalso; first | with_reducible exact absurd hc1 Bool.false_ne_true | with_reducible exact absurd hc1.symm Bool.false_ne_true | (simp only [nrm] at hc1; omega) | (simp at hc1; done))
   all_goals
    try simp only [nrm] at hc1
    refine wp_seq_k ?_; intro K8 hK8
    refine wlit ?_
    refine wl_v (x_eql (tmI rfl rfl) (ev_cN 3)) ?_
    refine wl_v (x_assign (tmB rfl rfl)) ?_
    refine wl_nil ?_
    refine then_n (hK8 _ _ ?_); clear hK8 K8
    refine cnd (tm rfl) (fun hc2 => ?_) (fun hc2 => ?_)
    · try (exfalso; first | with_reducible exact absurd hc2 Bool.false_ne_true | with_reducible exact absurd hc2.symm Bool.false_ne_true | (simp only [nrm] at hc2; omega) | (simp at hc2; done))
      all_goals
       try simp only [nrm] at hc2
       refine wp_seq_k ?_; intro K9 hK9
       refine wlit ?_
       refine wl_v (x_move (tmS rfl rfl)) ?_
       refine wl_e rfl ?_; intro K hK
       refine ow_call Try.func26 rfl rfl (evs_cons (tmS rfl rfl) <| evs_nil) (least_pick_c n A c l _ (viewV hS.ok 1 rfl) hl (by omega) hn0) ?_
       rintro e w ⟨rfl, hk⟩
       refine ⟨_, rfl, ?_⟩
       replace hS := hS.kept hk
       clear hk
       refine hK _ _ ?_; clear hK K
       refine wl_v (x_move (tmT rfl rfl)) ?_
       refine wl_v (x_ext (tmT rfl rfl) rfl) ?_
       refine wl_v (x_ext (tmT rfl rfl) rfl) ?_
       refine wl_e rfl ?_; intro K hK
       refine ow_alloc hS tz_33 rfl ?_
       clear hS; intro g7_5 w hg7_5 hS
       refine hK _ _ ?_; clear hK K
       refine wl_e rfl ?_; intro K hK
       refine ow_storeA hS 0 rfl ts_33 (tmP rfl rfl) (tmA rfl rfl) rfl rfl rfl ?_
       clear hS; intro w hS
       try replace hS := St.nm (M' := [.blk _ _ [_, _, _, _], .blk _ _ [_, _, _, _], .vw _ _]) hS rfl
       refine hK _ _ ?_; clear hK K
       refine wl_v (x_assign (tmB rfl rfl)) ?_
       refine wl_nil ?_
       refine then_n (hK9 _ _ ?_); clear hK9 K9
       refine wp_seq_k ?_; intro K10 hK10
       refine wlit ?_
       refine wl_v (x_move (tmB rfl rfl)) ?_
       refine wl_v (x_move (tmB rfl rfl)) ?_
       refine gs_wl (tm (t := 39) rfl) (fun hg8_1 => ?_) (fun hg8_1 => ?_)
       · have hg8_1' := hg8_1; (try simp only [nrm] at hg8_1'); try (exfalso; first | with_reducible exact absurd hg8_1 Bool.false_ne_true | with_reducible exact absurd hg8_1.symm Bool.false_ne_true | omega | (simp at hg8_1; done))
         all_goals
          refine wl_gv (want_y rfl rfl rfl rfl (by rw [hg8_1]; rfl)) (x_loadA (cs := [_, _, _, _]) Try.underlying33 rfl ts_33 (tmP rfl rfl) (rangeB hS.ok 0 rfl rfl)) ?_
          refine wl_gv (want_y rfl rfl rfl rfl (by rw [hg8_1]; rfl)) (x_loadA (cs := [_, _, _, _]) Try.underlying33 rfl ts_33 (tmP rfl rfl) (rangeB hS.ok 1 rfl rfl)) ?_
          refine wl_gv (want_y rfl rfl rfl rfl (by rw [hg8_1]; rfl)) (x_Aeql (by kernel_rfl) (tmA rfl rfl) (tmA rfl rfl) (eqv_A Try.underlying33 (by kernel_rfl) (fe_cons rfl (pt_1 Try.underlying3 rfl rfl) (pt_1 Try.underlying3 rfl rfl) (eqv_i Try.underlying3) <| fe_cons rfl (pt_1 Try.underlying3 rfl rfl) (pt_1 Try.underlying3 rfl rfl) (eqv_i Try.underlying3) <| fe_cons rfl (pt_1 Try.underlying3 rfl rfl) (pt_1 Try.underlying3 rfl rfl) (eqv_i Try.underlying3) <| fe_cons rfl (pt_1 Try.underlying31 rfl rfl) (pt_1 Try.underlying31 rfl rfl) (eqv_i Try.underlying31) <| fe_nil))) ?_
          refine wl_v (x_pickT (tmB rfl rfl) hg8_1 (tmB rfl rfl)) ?_
          refine wl_v (x_assign (tmB rfl rfl)) ?_
          refine wl_nil ?_
          refine then_n (hK10 _ _ ?_); clear hK10 K10
          refine wp_ret ?_
          refine inb_r ?_
          refine then_r ?_
          refine ret1 rfl (.tmp rfl (show _ = Value.bool _ from rfl)) ?_
          refine ⟨_, rfl, ?_, hS.kp⟩
          first
            | (rw [hr]
               have hw : way = 1 := by simpa using hc0
               subst hw
               simp [FitsP]
               done)
            | (have hw : way = 2 := by simpa using hc1
               subst hw
               have hin : InL l n x := hr.1 (by simpa using hg5_3)
               simp [FitsP, hin]
               done)
            | (have hw : way = 2 := by simpa using hc1
               subst hw
               have hin : ¬ InL l n x := fun h => by
                 have h1 := hr.2 h
                 rw [h1] at hg5_3
                 cases hg5_3
               simp [FitsP, hin, hg5_3]
               done)
            | (have hw : way = 3 := by simpa using hc2
               subst hw
               refine (cn_iff _ _).trans ?_
               simp [FitsP, hn0]
               done)
            | (have hw : way = 4 := by simpa using hc3
               subst hw
               refine (cn_iff _ _).trans ?_
               simp [FitsP, hn0]
               done)
            | (simp at hc0 hc1 hc2 hc3
               simp [FitsP, hc0, hc1, hc2, hc3]
               done)
       have hg8_1' := hg8_1; (try simp only [nrm] at hg8_1'); try (exfalso; first | with_reducible exact absurd hg8_1 Bool.false_ne_true | with_reducible exact absurd hg8_1.symm Bool.false_ne_true | omega | (simp at hg8_1; done))
       all_goals
        refine wl_s rfl (want_n rfl rfl rfl rfl (by rw [hg8_1]; rfl)) ?_
        refine wl_s rfl (want_n rfl rfl rfl rfl (by rw [hg8_1]; rfl)) ?_
        refine wl_s rfl (want_n rfl rfl rfl rfl (by rw [hg8_1]; rfl)) ?_
        refine wl_v (x_pickF (tmB rfl rfl) hg8_1 ev_c) ?_
        refine wl_v (x_assign (tmB rfl rfl)) ?_
        refine wl_nil ?_
        refine then_n (hK10 _ _ ?_); clear hK10 K10
        refine wp_ret ?_
        refine inb_r ?_
        refine then_r ?_
        refine ret1 rfl (.tmp rfl (show _ = Value.bool _ from rfl)) ?_
        refine ⟨_, rfl, ?_, hS.kp⟩
        first
          | (rw [hr]
             have hw : way = 1 := by simpa using hc0
             subst hw
             simp [FitsP]
             done)
          | (have hw : way = 2 := by simpa using hc1
             subst hw
             have hin : InL l n x := hr.1 (by simpa using hg5_3)
             simp [FitsP, hin]
             done)
          | (have hw : way = 2 := by simpa using hc1
             subst hw
             have hin : ¬ InL l n x := fun h => by
               have h1 := hr.2 h
               rw [h1] at hg5_3
               cases hg5_3
             simp [FitsP, hin, hg5_3]
             done)
          | (have hw : way = 3 := by simpa using hc2
             subst hw
             refine (cn_iff _ _).trans ?_
             simp [FitsP, hn0]
             done)
          | (have hw : way = 4 := by simpa using hc3
             subst hw
             refine (cn_iff _ _).trans ?_
             simp [FitsP, hn0]
             done)
          | (simp at hc0 hc1 hc2 hc3
             simp [FitsP, hc0, hc1, hc2, hc3]
             done)
    try (exfalso; first | with_reducible exact absurd hc2 Bool.false_ne_true | with_reducible exact absurd hc2.symm Bool.false_ne_true | (simp only [nrm] at hc2; omega) | (simp at hc2; done))
    all_goals
     try simp only [nrm] at hc2
     refine wp_seq_k ?_; intro K11 hK11
     refine wlit ?_
     refine wl_v (x_eql (tmI rfl rfl) (ev_cN 4)) ?_
     refine wl_v (x_assign (tmB rfl rfl)) ?_
     refine wl_nil ?_
     refine then_n (hK11 _ _ ?_); clear hK11 K11
     refine cnd (tm rfl) (fun hc3 => ?_) (fun hc3 => ?_)
     · try (exfalso; first | with_reducible exact absurd hc3 Bool.false_ne_true | with_reducible exact absurd hc3.symm Bool.false_ne_true | (simp only [nrm] at hc3; omega) | (simp at hc3; done))
       all_goals
        try simp only [nrm] at hc3
        refine wp_seq_k ?_; intro K12 hK12
        refine wlit ?_
        refine wl_v (x_move (tmS rfl rfl)) ?_
        refine wl_v (x_move (tmI rfl rfl)) ?_
        refine wl_v (x_move (tmI rfl rfl)) ?_
        refine wl_e rfl ?_; intro K hK
        refine ow_call Try.func27 rfl rfl (evs_cons (tmS rfl rfl) <| evs_cons (tmI rfl rfl) <| evs_cons (tmI rfl rfl) <| evs_nil) (two_c n A c l a b _ (viewV hS.ok 1 rfl) hl hn4 hn0 ha hb) ?_
        rintro e w ⟨rfl, hk⟩
        refine ⟨_, rfl, ?_⟩
        replace hS := hS.kept hk
        clear hk
        refine hK _ _ ?_; clear hK K
        refine wl_v (x_move (tmT rfl rfl)) ?_
        refine wl_v (x_ext (tmT rfl rfl) rfl) ?_
        refine wl_v (x_ext (tmT rfl rfl) rfl) ?_
        refine wl_e rfl ?_; intro K hK
        refine ow_alloc hS tz_33 rfl ?_
        clear hS; intro g10_7 w hg10_7 hS
        refine hK _ _ ?_; clear hK K
        refine wl_e rfl ?_; intro K hK
        refine ow_storeA hS 0 rfl ts_33 (tmP rfl rfl) (tmA rfl rfl) rfl rfl rfl ?_
        clear hS; intro w hS
        try replace hS := St.nm (M' := [.blk _ _ [_, _, _, _], .blk _ _ [_, _, _, _], .vw _ _]) hS rfl
        refine hK _ _ ?_; clear hK K
        refine wl_v (x_assign (tmB rfl rfl)) ?_
        refine wl_nil ?_
        refine then_n (hK12 _ _ ?_); clear hK12 K12
        refine wp_seq_k ?_; intro K13 hK13
        refine wlit ?_
        refine wl_v (x_move (tmB rfl rfl)) ?_
        refine wl_v (x_move (tmB rfl rfl)) ?_
        refine gs_wl (tm (t := 54) rfl) (fun hg11_1 => ?_) (fun hg11_1 => ?_)
        · have hg11_1' := hg11_1; (try simp only [nrm] at hg11_1'); try (exfalso; first | with_reducible exact absurd hg11_1 Bool.false_ne_true | with_reducible exact absurd hg11_1.symm Bool.false_ne_true | omega | (simp at hg11_1; done))
          all_goals
           refine wl_gv (want_y rfl rfl rfl rfl (by rw [hg11_1]; rfl)) (x_loadA (cs := [_, _, _, _]) Try.underlying33 rfl ts_33 (tmP rfl rfl) (rangeB hS.ok 0 rfl rfl)) ?_
           refine wl_gv (want_y rfl rfl rfl rfl (by rw [hg11_1]; rfl)) (x_loadA (cs := [_, _, _, _]) Try.underlying33 rfl ts_33 (tmP rfl rfl) (rangeB hS.ok 1 rfl rfl)) ?_
           refine wl_gv (want_y rfl rfl rfl rfl (by rw [hg11_1]; rfl)) (x_Aeql (by kernel_rfl) (tmA rfl rfl) (tmA rfl rfl) (eqv_A Try.underlying33 (by kernel_rfl) (fe_cons rfl (pt_1 Try.underlying3 rfl rfl) (pt_1 Try.underlying3 rfl rfl) (eqv_i Try.underlying3) <| fe_cons rfl (pt_1 Try.underlying3 rfl rfl) (pt_1 Try.underlying3 rfl rfl) (eqv_i Try.underlying3) <| fe_cons rfl (pt_1 Try.underlying3 rfl rfl) (pt_1 Try.underlying3 rfl rfl) (eqv_i Try.underlying3) <| fe_cons rfl (pt_1 Try.underlying31 rfl rfl) (pt_1 Try.underlying31 rfl rfl) (eqv_i Try.underlying31) <| fe_nil))) ?_
           refine wl_v (x_pickT (tmB rfl rfl) hg11_1 (tmB rfl rfl)) ?_
           refine wl_v (x_assign (tmB rfl rfl)) ?_
           refine wl_nil ?_
           refine then_n (hK13 _ _ ?_); clear hK13 K13
           refine wp_ret ?_
           refine inb_r ?_
           refine then_r ?_
           refine ret1 rfl (.tmp rfl (show _ = Value.bool _ from rfl)) ?_
           refine ⟨_, rfl, ?_, hS.kp⟩
           first
             | (rw [hr]
                have hw : way = 1 := by simpa using hc0
                subst hw
                simp [FitsP]
                done)
             | (have hw : way = 2 := by simpa using hc1
                subst hw
                have hin : InL l n x := hr.1 (by simpa using hg5_3)
                simp [FitsP, hin]
                done)
             | (have hw : way = 2 := by simpa using hc1
                subst hw
                have hin : ¬ InL l n x := fun h => by
                  have h1 := hr.2 h
                  rw [h1] at hg5_3
                  cases hg5_3
                simp [FitsP, hin, hg5_3]
                done)
             | (have hw : way = 3 := by simpa using hc2
                subst hw
                refine (cn_iff _ _).trans ?_
                simp [FitsP, hn0]
                done)
             | (have hw : way = 4 := by simpa using hc3
                subst hw
                refine (cn_iff _ _).trans ?_
                simp [FitsP, hn0]
                done)
             | (simp at hc0 hc1 hc2 hc3
                simp [FitsP, hc0, hc1, hc2, hc3]
                done)
        have hg11_1' := hg11_1; (try simp only [nrm] at hg11_1'); try (exfalso; first | with_reducible exact absurd hg11_1 Bool.false_ne_true | with_reducible exact absurd hg11_1.symm Bool.false_ne_true | omega | (simp at hg11_1; done))
        all_goals
         refine wl_s rfl (want_n rfl rfl rfl rfl (by rw [hg11_1]; rfl)) ?_
         refine wl_s rfl (want_n rfl rfl rfl rfl (by rw [hg11_1]; rfl)) ?_
         refine wl_s rfl (want_n rfl rfl rfl rfl (by rw [hg11_1]; rfl)) ?_
         refine wl_v (x_pickF (tmB rfl rfl) hg11_1 ev_c) ?_
         refine wl_v (x_assign (tmB rfl rfl)) ?_
         refine wl_nil ?_
         refine then_n (hK13 _ _ ?_); clear hK13 K13
         refine wp_ret ?_
         refine inb_r ?_
         refine then_r ?_
         refine ret1 rfl (.tmp rfl (show _ = Value.bool _ from rfl)) ?_
         refine ⟨_, rfl, ?_, hS.kp⟩
         first
           | (rw [hr]
              have hw : way = 1 := by simpa using hc0
              subst hw
              simp [FitsP]
              done)
           | (have hw : way = 2 := by simpa using hc1
              subst hw
              have hin : InL l n x := hr.1 (by simpa using hg5_3)
              simp [FitsP, hin]
              done)
           | (have hw : way = 2 := by simpa using hc1
              subst hw
              have hin : ¬ InL l n x := fun h => by
                have h1 := hr.2 h
                rw [h1] at hg5_3
                cases hg5_3
              simp [FitsP, hin, hg5_3]
              done)
           | (have hw : way = 3 := by simpa using hc2
              subst hw
              refine (cn_iff _ _).trans ?_
              simp [FitsP, hn0]
              done)
           | (have hw : way = 4 := by simpa using hc3
              subst hw
              refine (cn_iff _ _).trans ?_
              simp [FitsP, hn0]
              done)
           | (simp at hc0 hc1 hc2 hc3
              simp [FitsP, hc0, hc1, hc2, hc3]
              done)
     try (exfalso; first | with_reducible exact absurd hc3 Bool.false_ne_true | with_reducible exact absurd hc3.symm Bool.false_ne_true | (simp only [nrm] at hc3; omega) | (simp at hc3; done))
     all_goals
      try simp only [nrm] at hc3
      refine wp_skip ?_
      refine inb_n ?_
      refine then_n (hK2 _ _ ?_); clear hK2 K2
      refine wp_seq_k ?_; intro K14 hK14
      refine wlit ?_
      refine wl_v (x_assign ev_c) ?_
      refine wl_nil ?_
      refine then_n (hK14 _ _ ?_); clear hK14 K14
      refine wp_ret ?_
      refine ret1 rfl (.tmp rfl (show _ = Value.bool _ from rfl)) ?_
      refine ⟨_, rfl, ?_, hS.kp⟩
      first
        | (rw [hr]
           have hw : way = 1 := by simpa using hc0
           subst hw
           simp [FitsP]
           done)
        | (have hw : way = 2 := by simpa using hc1
           subst hw
           have hin : InL l n x := hr.1 (by simpa using hg5_3)
           simp [FitsP, hin]
           done)
        | (have hw : way = 2 := by simpa using hc1
           subst hw
           have hin : ¬ InL l n x := fun h => by
             have h1 := hr.2 h
             rw [h1] at hg5_3
             cases hg5_3
           simp [FitsP, hin, hg5_3]
           done)
        | (have hw : way = 3 := by simpa using hc2
           subst hw
           refine (cn_iff _ _).trans ?_
           simp [FitsP, hn0]
           done)
        | (have hw : way = 4 := by simpa using hc3
           subst hw
           refine (cn_iff _ _).trans ?_
           simp [FitsP, hn0]
           done)
        | (simp at hc0 hc1 hc2 hc3
           simp [FitsP, hc0, hc1, hc2, hc3]
           done)
set_option maxRecDepth 100000 in
set_option maxHeartbeats 4000000 in
theorem least0_c (A : Option Addr) (c : Nat) (w0 : World) :
    Calls Try.prog 26 #[.slice A 0 c] w0 fun e w' => e = .returned (.tuple #[.agg (cnV default).toArray, .bool false]) ∧ Kp [] w0 w' := by
  have hS := St.sv w0
  refine ent (n := 36) Try.func26 rfl rfl ?_
  refine wp_seq_k ?_; intro K1 hK1
  refine wlit ?_
  refine wl_e rfl ?_; intro K hK
  refine ow_alloc hS tz_33 rfl ?_
  clear hS; intro g0_0 w hg0_0 hS
  refine hK _ _ ?_; clear hK K
  refine wl_v (x_assign ev_c) ?_
  refine wl_nil ?_
  refine then_n (hK1 _ _ ?_); clear hK1 K1
  refine wp_seq_k ?_; intro K2 hK2
  refine wp_seq_k ?_; intro K3 hK3
  refine wlit ?_
  refine wl_v (x_move (tmS rfl rfl)) ?_
  refine wl_v (x_len Try.underlying36 (tmS rfl rfl)) ?_
  refine wl_v (x_eql (tmI rfl rfl) (ev_cN 0)) ?_
  refine wl_nil ?_
  refine then_n (hK3 _ _ ?_); clear hK3 K3
  refine cnds (tm rfl) (fun hc0 => ?_) (fun hc0 => ?_)
  · exfalso
    simp at hc0
  try (exfalso; first | with_reducible exact absurd hc0 Bool.false_ne_true | with_reducible exact absurd hc0.symm Bool.false_ne_true | (simp only [nrm] at hc0; omega) | (simp at hc0; done))
  all_goals
   try simp only [nrm] at hc0
   refine wp_seq_k ?_; intro K4 hK4
   refine wlit ?_
   refine wl_v (x_build (bc_skip (.int .i64 0) <| bc_skip (.int .i64 0) <| bc_skip (.int .i64 0) <| bc_skip (.int .u32 0) <| bc_nil) (by kernel_rfl)) ?_
   refine wl_e rfl ?_; intro K hK
   refine ow_storeA hS 0 rfl ts_33 (tmP rfl rfl) (tmA rfl rfl) rfl rfl rfl ?_
   clear hS; intro w hS
   try replace hS := St.nm (M' := [.blk _ _ [_, _, _, _], _]) hS rfl
   refine hK _ _ ?_; clear hK K
   refine wl_v (x_assign ev_c) ?_
   refine wl_nil ?_
   refine then_n (hK4 _ _ ?_); clear hK4 K4
   refine wp_ret ?_
   refine then_r ?_
   refine ret2 rfl (.cell rfl rfl (load_rowB (cs := [_, _, _, _]) hS.ok 0 rfl Try.underlying33 rfl ts_33 rfl)) (.tmp rfl (show _ = Value.bool _ from rfl)) ?_
   exact ⟨rfl, hS.kp⟩
set_option maxRecDepth 100000 in
set_option maxHeartbeats 4000000 in
theorem two0_c (A : Option Addr) (c : Nat) (a b : Int) (w0 : World) :
    Calls Try.prog 27 #[.slice A 0 c, .int .u32 a, .int .u32 b] w0 fun e w' => e = .returned (.tuple #[.agg (cnV default).toArray, .bool false]) ∧ Kp [] w0 w' := by
  have hS := St.sv w0
  refine ent (n := 51) Try.func27 rfl rfl ?_
  refine wp_seq_k ?_; intro K1 hK1
  refine wlit ?_
  refine wl_e rfl ?_; intro K hK
  refine ow_alloc hS tz_33 rfl ?_
  clear hS; intro g0_0 w hg0_0 hS
  refine hK _ _ ?_; clear hK K
  refine wl_v (x_assign ev_c) ?_
  refine wl_nil ?_
  refine then_n (hK1 _ _ ?_); clear hK1 K1
  refine wp_seq_k ?_; intro K2 hK2
  refine wp_seq_k ?_; intro K3 hK3
  refine wlit ?_
  refine wl_v (x_move (tmS rfl rfl)) ?_
  refine wl_v (x_len Try.underlying36 (tmS rfl rfl)) ?_
  refine wl_v (x_eql (tmI rfl rfl) (ev_cN 0)) ?_
  refine wl_nil ?_
  refine then_n (hK3 _ _ ?_); clear hK3 K3
  refine cnds (tm rfl) (fun hc0 => ?_) (fun hc0 => ?_)
  · exfalso
    simp at hc0
  try (exfalso; first | with_reducible exact absurd hc0 Bool.false_ne_true | with_reducible exact absurd hc0.symm Bool.false_ne_true | (simp only [nrm] at hc0; omega) | (simp at hc0; done))
  all_goals
   try simp only [nrm] at hc0
   refine wp_seq_k ?_; intro K4 hK4
   refine wlit ?_
   refine wl_v (x_build (bc_skip (.int .i64 0) <| bc_skip (.int .i64 0) <| bc_skip (.int .i64 0) <| bc_skip (.int .u32 0) <| bc_nil) (by kernel_rfl)) ?_
   refine wl_e rfl ?_; intro K hK
   refine ow_storeA hS 0 rfl ts_33 (tmP rfl rfl) (tmA rfl rfl) rfl rfl rfl ?_
   clear hS; intro w hS
   try replace hS := St.nm (M' := [.blk _ _ [_, _, _, _], _]) hS rfl
   refine hK _ _ ?_; clear hK K
   refine wl_v (x_assign ev_c) ?_
   refine wl_nil ?_
   refine then_n (hK4 _ _ ?_); clear hK4 K4
   refine wp_ret ?_
   refine then_r ?_
   refine ret2 rfl (.cell rfl rfl (load_rowB (cs := [_, _, _, _]) hS.ok 0 rfl Try.underlying33 rfl ts_33 rfl)) (.tmp rfl (show _ = Value.bool _ from rfl)) ?_
   exact ⟨rfl, hS.kp⟩
theorem no_in (x : Cn) : ¬ InL [] 0 x := by
  rintro ⟨i, hi, _⟩
  omega
set_option maxRecDepth 100000 in
set_option maxHeartbeats 4000000 in
theorem fits0_c (way : Int) (A : Option Addr) (c : Nat) (a b : Nat) (x : Cn) (w0 : World) :
    Calls Try.prog 15 #[.int .i64 way, .slice A 0 c, .int .u32 (a : Int), .int .u32 (b : Int), .agg (cnV x).toArray] w0 fun e w' => e = .returned (.bool false) ∧ Kp [] w0 w' := by
  have hS := St.sv w0
  refine ent (n := 59) Try.func15 rfl rfl ?_
  refine wp_seq_k ?_; intro K1 hK1
  refine wlit ?_
  refine wl_e rfl ?_; intro K hK
  refine ow_box hS (tmA rfl rfl) rfl ?_
  clear hS; intro g0_0 w hg0_0 hS
  refine hK _ _ ?_; clear hK K
  refine wl_v (x_assign ev_c) ?_
  refine wl_nil ?_
  refine then_n (hK1 _ _ ?_); clear hK1 K1
  refine wp_seq_k ?_; intro K2 hK2
  refine wp_seq_k ?_; intro K3 hK3
  refine wlit ?_
  refine wl_v (x_move (tmI rfl rfl)) ?_
  refine wl_nil ?_
  refine then_n (hK3 _ _ ?_); clear hK3 K3
  refine wp_block ?_
  refine wp_seq_k ?_; intro K4 hK4
  refine wlit ?_
  refine wl_v (x_eql (tmI rfl rfl) (ev_cN 1)) ?_
  refine wl_v (x_assign (tmB rfl rfl)) ?_
  refine wl_nil ?_
  refine then_n (hK4 _ _ ?_); clear hK4 K4
  refine cnd (tm rfl) (fun hc0 => ?_) (fun hc0 => ?_)
  · try (exfalso; first | with_reducible exact absurd hc0 Bool.false_ne_true | with_reducible exact absurd hc0.symm Bool.false_ne_true | (simp only [nrm] at hc0; omega) | (simp at hc0; done))
    all_goals
     try simp only [nrm] at hc0
     refine wp_seq_k ?_; intro K5 hK5
     refine wlit ?_
     refine wl_v (x_move (tmS rfl rfl)) ?_
     refine wl_v (x_loadA (cs := [_, _, _, _]) Try.underlying33 rfl ts_33 (tmP rfl rfl) (rangeB hS.ok 0 rfl rfl)) ?_
     refine wl_e rfl ?_; intro K hK
     refine ow_call Try.func25 rfl rfl (evs_cons (tmS rfl rfl) <| evs_cons (tmA rfl rfl) <| evs_nil) (contains_c 0 A c [] x _ View.nil_ rfl (by omega)) ?_
     rintro e w ⟨r, rfl, hr, hk⟩
     refine ⟨_, rfl, ?_⟩
     replace hS := hS.kept hk
     clear hk
     have hrf : r = false := by
       cases r
       · rfl
       · exact absurd (hr.1 rfl) (no_in x)
     subst hrf
     refine hK _ _ ?_; clear hK K
     refine wl_v (x_assign (tmB rfl rfl)) ?_
     refine wl_nil ?_
     refine then_n (hK5 _ _ ?_); clear hK5 K5
     refine wp_ret ?_
     refine inb_r ?_
     refine then_r ?_
     refine ret1 rfl (.tmp rfl (show _ = Value.bool _ from rfl)) ?_
     exact ⟨rfl, hS.kp⟩
  try (exfalso; first | with_reducible exact absurd hc0 Bool.false_ne_true | with_reducible exact absurd hc0.symm Bool.false_ne_true | (simp only [nrm] at hc0; omega) | (simp at hc0; done))
  all_goals
   try simp only [nrm] at hc0
   refine wp_seq_k ?_; intro K6 hK6
   refine wlit ?_
   refine wl_v (x_eql (tmI rfl rfl) (ev_cN 2)) ?_
   refine wl_v (x_assign (tmB rfl rfl)) ?_
   refine wl_nil ?_
   refine then_n (hK6 _ _ ?_); clear hK6 K6
   refine cnd (tm rfl) (fun hc1 => ?_) (fun hc1 => ?_)
   · try (exfalso; first | with_reducible exact absurd hc1 Bool.false_ne_true | with_reducible exact absurd hc1.symm Bool.false_ne_true | (simp only [nrm] at hc1; omega) | (simp at hc1; done))
     all_goals
      try simp only [nrm] at hc1
      refine wp_seq_k ?_; intro K7 hK7
      refine wlit ?_
      refine wl_v (x_move (tmS rfl rfl)) ?_
      refine wl_v (x_loadA (cs := [_, _, _, _]) Try.underlying33 rfl ts_33 (tmP rfl rfl) (rangeB hS.ok 0 rfl rfl)) ?_
      refine wl_e rfl ?_; intro K hK
      refine ow_call Try.func25 rfl rfl (evs_cons (tmS rfl rfl) <| evs_cons (tmA rfl rfl) <| evs_nil) (contains_c 0 A c [] x _ View.nil_ rfl (by omega)) ?_
      rintro e w ⟨r, rfl, hr, hk⟩
      refine ⟨_, rfl, ?_⟩
      replace hS := hS.kept hk
      clear hk
      have hrf : r = false := by
        cases r
        · rfl
        · exact absurd (hr.1 rfl) (no_in x)
      subst hrf
      refine hK _ _ ?_; clear hK K
      refine wl_v (x_move (tmB rfl rfl)) ?_
      refine gs_wl (tm (t := 26) rfl) (fun hg5_3 => ?_) (fun hg5_3 => ?_)
      · exfalso
        cases hg5_3
      have hg5_3' := hg5_3; (try simp only [nrm] at hg5_3'); try (exfalso; first | with_reducible exact absurd hg5_3 Bool.false_ne_true | with_reducible exact absurd hg5_3.symm Bool.false_ne_true | omega | (simp at hg5_3; done))
      all_goals
       refine wl_s rfl (want_n rfl rfl rfl rfl (by rw [hg5_3]; rfl)) ?_
       refine wl_s rfl (want_n rfl rfl rfl rfl (by rw [hg5_3]; rfl)) ?_
       refine wl_s rfl (want_n rfl rfl rfl rfl (by rw [hg5_3]; rfl)) ?_
       refine wl_v (x_pickF (tmB rfl rfl) hg5_3 ev_c) ?_
       refine wl_v (x_assign (tmB rfl rfl)) ?_
       refine wl_nil ?_
       refine then_n (hK7 _ _ ?_); clear hK7 K7
       refine wp_ret ?_
       refine inb_r ?_
       refine then_r ?_
       refine ret1 rfl (.tmp rfl (show _ = Value.bool _ from rfl)) ?_
       exact ⟨rfl, hS.kp⟩
   try (exfalso; first | with_reducible exact absurd hc1 Bool.false_ne_true | with_reducible exact absurd hc1.symm Bool.false_ne_true | (simp only [nrm] at hc1; omega) | (simp at hc1; done))
   all_goals
    try simp only [nrm] at hc1
    refine wp_seq_k ?_; intro K8 hK8
    refine wlit ?_
    refine wl_v (x_eql (tmI rfl rfl) (ev_cN 3)) ?_
    refine wl_v (x_assign (tmB rfl rfl)) ?_
    refine wl_nil ?_
    refine then_n (hK8 _ _ ?_); clear hK8 K8
    refine cnd (tm rfl) (fun hc2 => ?_) (fun hc2 => ?_)
    · try (exfalso; first | with_reducible exact absurd hc2 Bool.false_ne_true | with_reducible exact absurd hc2.symm Bool.false_ne_true | (simp only [nrm] at hc2; omega) | (simp at hc2; done))
      all_goals
       try simp only [nrm] at hc2
       refine wp_seq_k ?_; intro K9 hK9
       refine wlit ?_
       refine wl_v (x_move (tmS rfl rfl)) ?_
       refine wl_e rfl ?_; intro K hK
       refine ow_call Try.func26 rfl rfl (evs_cons (tmS rfl rfl) <| evs_nil) (least0_c A c _) ?_
       rintro e w ⟨rfl, hk⟩
       refine ⟨_, rfl, ?_⟩
       replace hS := hS.kept hk
       clear hk
       refine hK _ _ ?_; clear hK K
       refine wl_v (x_move (tmT rfl rfl)) ?_
       refine wl_v (x_ext (tmT rfl rfl) rfl) ?_
       refine wl_v (x_ext (tmT rfl rfl) rfl) ?_
       refine wl_e rfl ?_; intro K hK
       refine ow_alloc hS tz_33 rfl ?_
       clear hS; intro g7_5 w hg7_5 hS
       refine hK _ _ ?_; clear hK K
       refine wl_e rfl ?_; intro K hK
       refine ow_storeA hS 0 rfl ts_33 (tmP rfl rfl) (tmA rfl rfl) rfl rfl rfl ?_
       clear hS; intro w hS
       try replace hS := St.nm (M' := [.blk _ _ [_, _, _, _], .blk _ _ [_, _, _, _], _]) hS rfl
       refine hK _ _ ?_; clear hK K
       refine wl_v (x_assign (tmB rfl rfl)) ?_
       refine wl_nil ?_
       refine then_n (hK9 _ _ ?_); clear hK9 K9
       refine wp_seq_k ?_; intro K10 hK10
       refine wlit ?_
       refine wl_v (x_move (tmB rfl rfl)) ?_
       refine wl_v (x_move (tmB rfl rfl)) ?_
       refine gs_wl (tm (t := 39) rfl) (fun hg8_1 => ?_) (fun hg8_1 => ?_)
       · exfalso
         cases hg8_1
       have hg8_1' := hg8_1; (try simp only [nrm] at hg8_1'); try (exfalso; first | with_reducible exact absurd hg8_1 Bool.false_ne_true | with_reducible exact absurd hg8_1.symm Bool.false_ne_true | omega | (simp at hg8_1; done))
       all_goals
        refine wl_s rfl (want_n rfl rfl rfl rfl (by rw [hg8_1]; rfl)) ?_
        refine wl_s rfl (want_n rfl rfl rfl rfl (by rw [hg8_1]; rfl)) ?_
        refine wl_s rfl (want_n rfl rfl rfl rfl (by rw [hg8_1]; rfl)) ?_
        refine wl_v (x_pickF (tmB rfl rfl) hg8_1 ev_c) ?_
        refine wl_v (x_assign (tmB rfl rfl)) ?_
        refine wl_nil ?_
        refine then_n (hK10 _ _ ?_); clear hK10 K10
        refine wp_ret ?_
        refine inb_r ?_
        refine then_r ?_
        refine ret1 rfl (.tmp rfl (show _ = Value.bool _ from rfl)) ?_
        exact ⟨rfl, hS.kp⟩
    try (exfalso; first | with_reducible exact absurd hc2 Bool.false_ne_true | with_reducible exact absurd hc2.symm Bool.false_ne_true | (simp only [nrm] at hc2; omega) | (simp at hc2; done))
    all_goals
     try simp only [nrm] at hc2
     refine wp_seq_k ?_; intro K11 hK11
     refine wlit ?_
     refine wl_v (x_eql (tmI rfl rfl) (ev_cN 4)) ?_
     refine wl_v (x_assign (tmB rfl rfl)) ?_
     refine wl_nil ?_
     refine then_n (hK11 _ _ ?_); clear hK11 K11
     refine cnd (tm rfl) (fun hc3 => ?_) (fun hc3 => ?_)
     · try (exfalso; first | with_reducible exact absurd hc3 Bool.false_ne_true | with_reducible exact absurd hc3.symm Bool.false_ne_true | (simp only [nrm] at hc3; omega) | (simp at hc3; done))
       all_goals
        try simp only [nrm] at hc3
        refine wp_seq_k ?_; intro K12 hK12
        refine wlit ?_
        refine wl_v (x_move (tmS rfl rfl)) ?_
        refine wl_v (x_move (tmI rfl rfl)) ?_
        refine wl_v (x_move (tmI rfl rfl)) ?_
        refine wl_e rfl ?_; intro K hK
        refine ow_call Try.func27 rfl rfl (evs_cons (tmS rfl rfl) <| evs_cons (tmI rfl rfl) <| evs_cons (tmI rfl rfl) <| evs_nil) (two0_c A c _ _ _) ?_
        rintro e w ⟨rfl, hk⟩
        refine ⟨_, rfl, ?_⟩
        replace hS := hS.kept hk
        clear hk
        refine hK _ _ ?_; clear hK K
        refine wl_v (x_move (tmT rfl rfl)) ?_
        refine wl_v (x_ext (tmT rfl rfl) rfl) ?_
        refine wl_v (x_ext (tmT rfl rfl) rfl) ?_
        refine wl_e rfl ?_; intro K hK
        refine ow_alloc hS tz_33 rfl ?_
        clear hS; intro g10_7 w hg10_7 hS
        refine hK _ _ ?_; clear hK K
        refine wl_e rfl ?_; intro K hK
        refine ow_storeA hS 0 rfl ts_33 (tmP rfl rfl) (tmA rfl rfl) rfl rfl rfl ?_
        clear hS; intro w hS
        try replace hS := St.nm (M' := [.blk _ _ [_, _, _, _], .blk _ _ [_, _, _, _], _]) hS rfl
        refine hK _ _ ?_; clear hK K
        refine wl_v (x_assign (tmB rfl rfl)) ?_
        refine wl_nil ?_
        refine then_n (hK12 _ _ ?_); clear hK12 K12
        refine wp_seq_k ?_; intro K13 hK13
        refine wlit ?_
        refine wl_v (x_move (tmB rfl rfl)) ?_
        refine wl_v (x_move (tmB rfl rfl)) ?_
        refine gs_wl (tm (t := 54) rfl) (fun hg11_1 => ?_) (fun hg11_1 => ?_)
        · exfalso
          cases hg11_1
        have hg11_1' := hg11_1; (try simp only [nrm] at hg11_1'); try (exfalso; first | with_reducible exact absurd hg11_1 Bool.false_ne_true | with_reducible exact absurd hg11_1.symm Bool.false_ne_true | omega | (simp at hg11_1; done))
        all_goals
         refine wl_s rfl (want_n rfl rfl rfl rfl (by rw [hg11_1]; rfl)) ?_
         refine wl_s rfl (want_n rfl rfl rfl rfl (by rw [hg11_1]; rfl)) ?_
         refine wl_s rfl (want_n rfl rfl rfl rfl (by rw [hg11_1]; rfl)) ?_
         refine wl_v (x_pickF (tmB rfl rfl) hg11_1 ev_c) ?_
         refine wl_v (x_assign (tmB rfl rfl)) ?_
         refine wl_nil ?_
         refine then_n (hK13 _ _ ?_); clear hK13 K13
         refine wp_ret ?_
         refine inb_r ?_
         refine then_r ?_
         refine ret1 rfl (.tmp rfl (show _ = Value.bool _ from rfl)) ?_
         exact ⟨rfl, hS.kp⟩
     try (exfalso; first | with_reducible exact absurd hc3 Bool.false_ne_true | with_reducible exact absurd hc3.symm Bool.false_ne_true | (simp only [nrm] at hc3; omega) | (simp at hc3; done))
     all_goals
      try simp only [nrm] at hc3
      refine wp_skip ?_
      refine inb_n ?_
      refine then_n (hK2 _ _ ?_); clear hK2 K2
      refine wp_seq_k ?_; intro K14 hK14
      refine wlit ?_
      refine wl_v (x_assign ev_c) ?_
      refine wl_nil ?_
      refine then_n (hK14 _ _ ?_); clear hK14 K14
      refine wp_ret ?_
      refine ret1 rfl (.tmp rfl (show _ = Value.bool _ from rfl)) ?_
      exact ⟨rfl, hS.kp⟩
theorem fits_j (way : Int) (n : Nat) (A : Option Addr) (c : Nat) (l : List Cn) (a b : Nat) (x : Cn) (w0 : World) (hv : View w0 w0.heap.size A (flat cnV l)) (hl : l.length = n) (hn4 : n ≤ 1000) (ha : a < 4294967296) (hb : b < 4294967296) :
    Calls Try.prog 15 #[.int .i64 way, .slice A n c, .int .u32 (a : Int), .int .u32 (b : Int), .agg (cnV x).toArray] w0 fun e w' => ∃ r, e = .returned (.bool r) ∧ (r = true ↔ FitsP way l n a b x) ∧ Kp [] w0 w' := by
  rcases Nat.eq_zero_or_pos n with h | h
  · subst h
    obtain rfl := List.eq_nil_of_length_eq_zero hl
    refine Calls.mono (fits0_c way A c a b x w0) fun e w' h => ⟨false, h.1, ?_, h.2⟩
    refine ⟨(fun h => by cases h), fun h => ?_⟩
    rcases h with ⟨_, h⟩ | ⟨_, h, _⟩ | ⟨_, h, _⟩ | ⟨_, h, _⟩
    · exact absurd h (no_in x)
    · exact absurd h (no_in x)
    · omega
    · omega
  · exact fits_c way n A c l a b x w0 hv hl hn4 h ha hb
end PolicyF
end Go.Proofs.Yteocdobepgbnkaa
