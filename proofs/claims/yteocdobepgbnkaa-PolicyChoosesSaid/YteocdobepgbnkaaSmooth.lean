
/- smooth: weighing, knows, learn, Pick, Owed by contracts. Conditions: none but bounds. -/
import Derived.Test.YteocdobepgbnkaaTy
namespace Go.Proofs.Yteocdobepgbnkaa
open Go.RowKit

structure Cn where
  slot : Int
  backend : Int
  weight : Int
  load : Int
instance : Inhabited Cn := ⟨⟨0, 0, 0, 0⟩⟩
def cnV (p : Cn) : List Value := [.int .i64 p.slot, .int .i64 p.backend, .int .i64 p.weight, .int .u32 p.load]
structure Cr where
  backend : Int
  weight : Int
  owed : Int
instance : Inhabited Cr := ⟨⟨0, 0, 0⟩⟩
def crV (p : Cr) : List Value := [.int .i64 p.backend, .int .i64 p.weight, .int .i64 p.owed]

theorem cnV_len (x : Cn) : (cnV x).length = 4 := rfl
theorem crV_len (x : Cr) : (crV x).length = 3 := rfl

/-- What of the first k weighs something. -/
def wfT (l : List Cn) : Nat → List Cn
  | 0 => []
  | k + 1 => if 0 < (l.getD k default).weight then wfT l k ++ [l.getD k default] else wfT l k
theorem wfT_le (l : List Cn) (k : Nat) : (wfT l k).length ≤ k := by
  induction k with
  | zero => simp [wfT]
  | succ k ih =>
    simp only [wfT]
    split
    · rw [List.length_append, List.length_singleton]; omega
    · omega
theorem one_cn (p : Cn) : ∀ u ∈ cnV p, u.oneCell' = true := by
  intro u hu
  simp [cnV] at hu
  rcases hu with rfl | rfl | rfl | rfl <;> rfl

set_option maxRecDepth 100000 in
set_option maxHeartbeats 4000000 in
theorem weighing_c (n : Nat) (A : Option Addr) (c : Nat) (l : List Cn) (w0 : World) (hv : View w0 w0.heap.size A (flat cnV l)) (hl : l.length = n) (hn4 : n ≤ 1000000) :
    Calls Try.prog 19 #[.slice A n c] w0 fun e w' => ∃ q A' c', e = .returned (.slice A' q c') ∧ q = (wfT l n).length ∧ New w0 w' (.row (.slice A' q c') 33 4 q (flat cnV (wfT l n))) ∧ Kp [] w0 w' := by
  have hS := (St.sv w0).vcons rfl hv
  refine ent (n := 21) Try.func19 rfl rfl ?_
  refine wp_seq_k ?_; intro K1 hK1
  refine wlit ?_
  refine wl_v (x_assign ev_c) ?_
  refine wl_nil ?_
  refine then_n (hK1 _ _ ?_); clear hK1 K1
  refine wp_seq_k ?_; intro K2 hK2
  refine wlit ?_
  refine wl_v (x_assign ev_c) ?_
  refine wl_nil ?_
  refine then_n (hK2 _ _ ?_); clear hK2 K2
  refine wp_seq_k ?_; intro K3 hK3
  refine wp_seq_k ?_; intro K4 hK4
  refine wlit ?_
  refine wl_v (x_move (tmS rfl rfl)) ?_
  refine wl_v (x_len Try.underlying36 (tmS rfl rfl)) ?_
  refine wl_v (x_move (ev_cN 0)) ?_
  refine wl_nil ?_
  refine then_n (hK4 _ _ ?_); clear hK4 K4
  refine wp_block ?_
  have hS := hS.nilrow 33 4
  refine lp [3, 5, 8, 9, 10, 11, 12, 13, 14, 15, 16, 17, 18, 19] (fun mz g w => ∃ (k : Nat), ∃ (o : List Cn), ∃ (q : Nat), ∃ (A' : Option Addr), ∃ (c' : Nat), mz = n - k ∧ g 8 = .int .i64 (k : Int) ∧ g 3 = .slice A' q c' ∧ St [] w0 [.row (.slice A' q c') 33 4 q (flat cnV o), .vw A (flat cnV l)] w ∧ (k ≤ n) ∧ (o = wfT l k) ∧ (q = o.length)) ?_ ?_
  · exact ⟨_, 0, [], 0, none, 0, rfl, (by first | rfl | go_num | exact congrArg (Value.int _) (by first | omega | (simp; done) | (simp; omega))), (by first | rfl | go_num | exact congrArg (Value.int _) (by first | omega | (simp; done) | (simp; omega))), hS, (by omega), (by first | rfl | (simp only [wfT]; rw [if_pos hx, ← ho]) | (simp only [wfT]; rw [if_neg hx, ← ho])), (by first | rfl | exact hq | (simp; exact hq))⟩
  · clear hS; intro mz g w hI
    obtain ⟨k, o, q, A', c', rfl, hs8, hs3, hS, hk, ho, hq⟩ := hI
    refine fr_know (d := 8) hs8 ?_; clear hs8
    refine fr_know (d := 3) hs3 ?_; clear hs3
    refine wp_seq_k ?_; intro K5 hK5
    refine wlit ?_
    refine wl_v (x_lss (tmI rfl rfl) (tmI rfl rfl)) ?_
    refine wl_nil ?_
    refine then_n (hK5 _ _ ?_); clear hK5 K5
    refine wp_seq_k ?_; intro K6 hK6
    refine cnd (tm rfl) (fun hc0 => ?_) (fun hc0 => ?_)
    · try (exfalso; first | with_reducible exact absurd hc0 Bool.false_ne_true | with_reducible exact absurd hc0.symm Bool.false_ne_true | (simp only [nrm] at hc0; omega) | (simp at hc0; done))
      all_goals
       try simp only [nrm] at hc0
       obtain ⟨b4, o4, rfl⟩ := view_some hv (by rw [flat_length cnV_len]; omega)
       have hql : o.length ≤ k := by rw [ho]; exact wfT_le _ _
       refine wp_skip ?_
       refine then_n (hK6 _ _ ?_); clear hK6 K6
       refine wp_seq_k ?_; intro K7 hK7
       refine wp_block ?_
       refine wp_seq_k ?_; intro K8 hK8
       refine wlit ?_
       refine wl_v (x_ixs Try.underlying36 ts_33 (tmS rfl rfl) (tmI rfl rfl) (by omega)) ?_
       first
        | refine wl_v (x_loadA Try.underlying33 rfl (by exact ts_33) (tmP rfl rfl) (rangeRs hS.ok 0 rfl (fun _ => rfl) (by omega))) ?_
        | refine wl_v (x_loadA Try.underlying33 rfl (by exact ts_33) (tmP rfl rfl) (rangeVs hS.ok 1 rfl (fun _ => rfl) (by omega))) ?_
       refine wl_e rfl ?_; intro K hK
       refine ow_alloc hS tz_33 rfl ?_
       clear hS; intro g4_2 w hg4_2 hS
       refine hK _ _ ?_; clear hK K
       refine wl_e rfl ?_; intro K hK
       refine ow_storeA hS 0 rfl ts_33 (tmP rfl rfl) (tmA rfl rfl) rfl rfl rfl ?_
       clear hS; intro w hS
       try replace hS := St.nm (M' := [.blk _ _ [_, _, _, _], .row _ _ _ _ _, .vw _ _]) hS rfl
       refine hK _ _ ?_; clear hK K
       refine wl_nil ?_
       refine then_n (hK8 _ _ ?_); clear hK8 K8
       refine wp_seq_k ?_; intro K9 hK9
       refine wlit ?_
       refine wl_v (x_fa 2 Try.underlying33 rfl rfl ts_3 (tmP rfl rfl)) ?_
       first
        | refine wl_v (x_load Try.underlying3 rfl (tmP rfl rfl) (cellB hS.ok 0 rfl rfl)) ?_
        | refine wl_v (x_load Try.underlying3 rfl (tmP rfl rfl) (cellB hS.ok 0 rfl (getm (by omega)))) ?_
       refine wl_v (x_gtr (tmI rfl rfl) (ev_cN 0)) ?_
       refine wl_nil ?_
       refine then_n (hK9 _ _ ?_); clear hK9 K9
       refine cnd (tm rfl) (fun hc1 => ?_) (fun hc1 => ?_)
       · try (exfalso; first | with_reducible exact absurd hc1 Bool.false_ne_true | with_reducible exact absurd hc1.symm Bool.false_ne_true | (simp only [nrm] at hc1; omega) | (simp at hc1; done))
         all_goals
          try simp only [nrm] at hc1
          have hx : 0 < (l.getD k default).weight := by simpa using hc1
          refine wlit ?_
          refine wl_v (x_move (tmS rfl rfl)) ?_
          refine wl_v (x_loadA (cs := [_, _, _, _]) Try.underlying33 rfl ts_33 (tmP rfl rfl) (rangeB hS.ok 0 rfl rfl)) ?_
          refine wl_e rfl ?_; intro K hK
          refine ow_build hS Try.underlying36 tz_33 (bc_takeL (tmA rfl rfl) <| bc_nil) rfl rfl (by kernel_rfl) ?_
          clear hS; intro g6_2 w hg6_2 hS
          refine hK _ _ ?_; clear hK K
          refine wl_e rfl ?_; intro K hK
          (refine ow_append hS 2 0 rfl rfl Try.underlying36 tz_33 rfl (tmS rfl rfl) (tmS rfl rfl) rfl ⟨by decide, by decide, rfl⟩ (by simp only [maxLen]; omega) (by omega) ?_; clear hS; intro g6_3 cg6_3 w hS)
          refine hK _ _ ?_; clear hK K
          refine wl_v (x_assign (tmS rfl rfl)) ?_
          refine wl_nil ?_
          refine inb_n ?_
          refine then_n (hK7 _ _ ?_); clear hK7 K7
          refine wlit ?_
          first
           | refine wl_v (x_addN (tmI rfl rfl) (ev_cN 1) (fit_i64 (by omega))) ?_
           | refine wl_v (x_addI (tmI rfl rfl) (ev_cN 1) (IntWalk.i64_in _ (by omega))) ?_
           | refine wl_v (x_add (tmI rfl rfl) (ev_cN 1)) ?_
          refine wl_v (x_move (tmI rfl rfl)) ?_
          refine wl_nil ?_
          first
           | exact then_n ⟨_, _, rfl, (by show _ < _; omega), (by repeat (first | exact agree_self | exact agree_refl | refine agree_upd rfl ?_ | refine agree_mix rfl ?_)), k + 1, o ++ [l.getD k default], q + 1, _, _, rfl, (by first | rfl | go_num | exact congrArg (Value.int _) (by first | omega | (simp; done) | (simp; omega))), (by first | rfl | go_num | exact congrArg (Value.int _) (by first | omega | (simp; done) | (simp; omega))), (by rw [flat_snoc]; exact hS.pick [2, 3] rfl rfl), (by omega), (by first | rfl | (simp only [wfT]; rw [if_pos hx, ← ho]) | (simp only [wfT]; rw [if_neg hx, ← ho])), (by first | rfl | exact hq | (simp; exact hq))⟩
           | exact then_n ⟨_, _, rfl, (by show _ < _; omega), (by repeat (first | exact agree_self | exact agree_refl | refine agree_upd rfl ?_ | refine agree_mix rfl ?_)), k + 1, o, q, _, _, rfl, (by first | rfl | go_num | exact congrArg (Value.int _) (by first | omega | (simp; done) | (simp; omega))), (by first | rfl | go_num | exact congrArg (Value.int _) (by first | omega | (simp; done) | (simp; omega))), (by exact hS.pick [1, 2] rfl rfl), (by omega), (by first | rfl | (simp only [wfT]; rw [if_pos hx, ← ho]) | (simp only [wfT]; rw [if_neg hx, ← ho])), (by first | rfl | exact hq | (simp; exact hq))⟩
       try (exfalso; first | with_reducible exact absurd hc1 Bool.false_ne_true | with_reducible exact absurd hc1.symm Bool.false_ne_true | (simp only [nrm] at hc1; omega) | (simp at hc1; done))
       all_goals
        try simp only [nrm] at hc1
        have hx : ¬ 0 < (l.getD k default).weight := by simpa using hc1
        refine wp_skip ?_
        refine inb_n ?_
        refine then_n (hK7 _ _ ?_); clear hK7 K7
        refine wlit ?_
        first
         | refine wl_v (x_addN (tmI rfl rfl) (ev_cN 1) (fit_i64 (by omega))) ?_
         | refine wl_v (x_addI (tmI rfl rfl) (ev_cN 1) (IntWalk.i64_in _ (by omega))) ?_
         | refine wl_v (x_add (tmI rfl rfl) (ev_cN 1)) ?_
        refine wl_v (x_move (tmI rfl rfl)) ?_
        refine wl_nil ?_
        first
         | exact then_n ⟨_, _, rfl, (by show _ < _; omega), (by repeat (first | exact agree_self | exact agree_refl | refine agree_upd rfl ?_ | refine agree_mix rfl ?_)), k + 1, o ++ [l.getD k default], q + 1, _, _, rfl, (by first | rfl | go_num | exact congrArg (Value.int _) (by first | omega | (simp; done) | (simp; omega))), (by first | rfl | go_num | exact congrArg (Value.int _) (by first | omega | (simp; done) | (simp; omega))), (by rw [flat_snoc]; exact hS.pick [2, 3] rfl rfl), (by omega), (by first | rfl | (simp only [wfT]; rw [if_pos hx, ← ho]) | (simp only [wfT]; rw [if_neg hx, ← ho])), (by first | rfl | exact hq | (simp; exact hq))⟩
         | exact then_n ⟨_, _, rfl, (by show _ < _; omega), (by repeat (first | exact agree_self | exact agree_refl | refine agree_upd rfl ?_ | refine agree_mix rfl ?_)), k + 1, o, q, _, _, rfl, (by first | rfl | go_num | exact congrArg (Value.int _) (by first | omega | (simp; done) | (simp; omega))), (by first | rfl | go_num | exact congrArg (Value.int _) (by first | omega | (simp; done) | (simp; omega))), (by exact hS.pick [1, 2] rfl rfl), (by omega), (by first | rfl | (simp only [wfT]; rw [if_pos hx, ← ho]) | (simp only [wfT]; rw [if_neg hx, ← ho])), (by first | rfl | exact hq | (simp; exact hq))⟩
    try (exfalso; first | with_reducible exact absurd hc0 Bool.false_ne_true | with_reducible exact absurd hc0.symm Bool.false_ne_true | (simp only [nrm] at hc0; omega) | (simp at hc0; done))
    all_goals
     try simp only [nrm] at hc0
     refine wp_exit ?_
     refine then_x ?_; clear hK6 K6
     refine then_x ?_
     refine inb_x ?_
     refine then_n (hK3 _ _ ?_); clear hK3 K3
     refine wp_seq_k ?_; intro K10 hK10
     refine wlit ?_
     refine wl_v (x_move (tmS rfl rfl)) ?_
     refine wl_v (x_assign (tmS rfl rfl)) ?_
     refine wl_nil ?_
     refine then_n (hK10 _ _ ?_); clear hK10 K10
     refine wp_ret ?_
     refine ret1 rfl (.tmp rfl (show _ = Value.slice _ _ _ from rfl)) ?_
     obtain rfl : n = k := by omega
     rw [ho] at hS hq
     exact ⟨q, _, _, rfl, hq, hS.new 0 rfl rfl, hS.kp⟩

def SameP (l : List Cn) (ks : List Cr) : Prop := l.length = ks.length ∧ ∀ i, i < l.length → (l.getD i default).backend = (ks.getD i default).backend ∧ (l.getD i default).weight = (ks.getD i default).weight

set_option maxRecDepth 100000 in
set_option maxHeartbeats 4000000 in
theorem knows_yes (gs : Nat) (K : Option Addr) (m ck : Nat) (ks : List Cr) (n : Nat) (A : Option Addr) (c : Nat) (l : List Cn) (w0 : World) (hvs : View w0 w0.heap.size (some ⟨gs, 0, none⟩) [.slice K m ck]) (hvk : View w0 w0.heap.size K (flat crV ks)) (hv : View w0 w0.heap.size A (flat cnV l))
    (hl : l.length = n) (hm : ks.length = m) (hn4 : n ≤ 1000000) (hsame : SameP l ks) :
    Calls Try.prog 20 #[.pointer (some ⟨gs, 0, none⟩), .slice A n c] w0 fun e w' => e = .returned (.bool true) ∧ Kp [] w0 w' := by
  have hS := (((St.sv w0).vcons rfl hv).vcons rfl hvk).vcons rfl hvs
  have hnm : n = m := by rw [← hl, ← hm]; exact hsame.1
  refine ent (n := 47) Try.func20 rfl rfl ?_
  refine wp_seq_k ?_; intro K1 hK1
  refine wlit ?_
  refine wl_v (x_assign ev_c) ?_
  refine wl_nil ?_
  refine then_n (hK1 _ _ ?_); clear hK1 K1
  refine wp_seq_k ?_; intro K2 hK2
  refine wp_seq_k ?_; intro K3 hK3
  refine wlit ?_
  refine wl_v (x_move (tmS rfl rfl)) ?_
  refine wl_v (x_len Try.underlying36 (tmS rfl rfl)) ?_
  refine wl_v (x_move (tmP rfl rfl)) ?_
  refine wl_v (x_nil (A := none) (tmP rfl rfl)) ?_
  refine wl_v (x_fa 0 Try.underlying27 rfl rfl ts_25 (tmP rfl rfl)) ?_
  first
   | refine wl_v (x_load Try.underlying25 rfl (tmP rfl rfl) (cellV hS.ok 0 rfl rfl)) ?_
   | refine wl_v (x_load Try.underlying25 rfl (tmP rfl rfl) (cellV hS.ok 0 rfl (getm (by omega)))) ?_
   | refine wl_v (x_load Try.underlying25 rfl (tmP rfl rfl) (cellVs hS.ok 0 rfl (fun _ => rfl) rfl (by omega) rfl)) ?_
   | refine wl_v (x_load Try.underlying25 rfl (tmP rfl rfl) (cellV hS.ok 1 rfl rfl)) ?_
   | refine wl_v (x_load Try.underlying25 rfl (tmP rfl rfl) (cellV hS.ok 1 rfl (getm (by omega)))) ?_
   | refine wl_v (x_load Try.underlying25 rfl (tmP rfl rfl) (cellVs hS.ok 1 rfl (fun _ => rfl) rfl (by omega) rfl)) ?_
   | refine wl_v (x_load Try.underlying25 rfl (tmP rfl rfl) (cellV hS.ok 2 rfl rfl)) ?_
   | refine wl_v (x_load Try.underlying25 rfl (tmP rfl rfl) (cellV hS.ok 2 rfl (getm (by omega)))) ?_
   | refine wl_v (x_load Try.underlying25 rfl (tmP rfl rfl) (cellVs hS.ok 2 rfl (fun _ => rfl) rfl (by omega) rfl)) ?_
  refine wl_v (x_len Try.underlying25 (tmS rfl rfl)) ?_
  refine wl_v (x_neq (tmI rfl rfl) (tmI rfl rfl)) ?_
  refine wl_nil ?_
  refine then_n (hK3 _ _ ?_); clear hK3 K3
  refine cnd (tm rfl) (fun hc0 => ?_) (fun hc0 => ?_)
  · exfalso
    simp at hc0
    omega
  try (exfalso; first | with_reducible exact absurd hc0 Bool.false_ne_true | with_reducible exact absurd hc0.symm Bool.false_ne_true | (simp only [nrm] at hc0; omega) | (simp at hc0; done))
  all_goals
   try simp only [nrm] at hc0
   refine wp_skip ?_
   refine then_n (hK2 _ _ ?_); clear hK2 K2
   refine wp_seq_k ?_; intro K4 hK4
   refine wp_seq_k ?_; intro K5 hK5
   refine wlit ?_
   refine wl_v (x_move (tmS rfl rfl)) ?_
   refine wl_v (x_len Try.underlying36 (tmS rfl rfl)) ?_
   refine wl_v (x_move (ev_cN 0)) ?_
   refine wl_nil ?_
   refine then_n (hK5 _ _ ?_); clear hK5 K5
   refine wp_block ?_
   refine lp [4, 5, 6, 17, 18, 19, 20, 21, 22, 23, 24, 25, 26, 27, 28, 29, 30, 31, 32, 33, 34, 35, 36, 37, 38, 39, 40, 41, 42, 43, 44, 45, 46] (fun mz g w => ∃ (k : Nat), mz = m - k ∧ g 17 = .int .i64 (k : Int) ∧ St [] w0 [.vw (some ⟨gs, 0, none⟩) [.slice K m ck], .vw K (flat crV ks), .vw A (flat cnV l)] w ∧ (k ≤ m) ∧ (True)) ?_ ?_
   · exact ⟨_, 0, rfl, (by first | rfl | go_num | exact congrArg (Value.int _) (by first | omega | (simp; done) | (simp; omega))), hS, (by omega), (by trivial)⟩
   · clear hS; intro mz g w hI
     obtain ⟨k, rfl, hs17, hS, hk, hz⟩ := hI
     refine fr_know (d := 17) hs17 ?_; clear hs17
     refine wp_seq_k ?_; intro K6 hK6
     refine wlit ?_
     refine wl_v (x_lss (tmI rfl rfl) (tmI rfl rfl)) ?_
     refine wl_nil ?_
     refine then_n (hK6 _ _ ?_); clear hK6 K6
     refine wp_seq_k ?_; intro K7 hK7
     refine cnd (tm rfl) (fun hc1 => ?_) (fun hc1 => ?_)
     · try (exfalso; first | with_reducible exact absurd hc1 Bool.false_ne_true | with_reducible exact absurd hc1.symm Bool.false_ne_true | (simp only [nrm] at hc1; omega) | (simp at hc1; done))
       all_goals
        try simp only [nrm] at hc1
        obtain ⟨b4, o4, rfl⟩ := view_some hv (by rw [flat_length cnV_len]; omega)
        obtain ⟨bk, ok, rfl⟩ := view_some hvk (by rw [flat_length crV_len]; omega)
        refine wp_skip ?_
        refine then_n (hK7 _ _ ?_); clear hK7 K7
        refine wp_seq_k ?_; intro K8 hK8
        refine wp_block ?_
        refine wp_seq_k ?_; intro K9 hK9
        refine wlit ?_
        refine wl_v (x_move (tmI rfl rfl)) ?_
        refine wl_v (x_ixs Try.underlying36 ts_33 (tmS rfl rfl) (tmI rfl rfl) (by omega)) ?_
        first
         | refine wl_v (x_loadA Try.underlying33 rfl (by exact ts_33) (tmP rfl rfl) (rangeVs hS.ok 0 rfl (fun _ => rfl) (by omega))) ?_
         | refine wl_v (x_loadA Try.underlying33 rfl (by exact ts_33) (tmP rfl rfl) (rangeVs hS.ok 1 rfl (fun _ => rfl) (by omega))) ?_
         | refine wl_v (x_loadA Try.underlying33 rfl (by exact ts_33) (tmP rfl rfl) (rangeVs hS.ok 2 rfl (fun _ => rfl) (by omega))) ?_
        refine wl_e rfl ?_; intro K hK
        refine ow_alloc hS tz_33 rfl ?_
        clear hS; intro g5_3 w hg5_3 hS
        refine hK _ _ ?_; clear hK K
        refine wl_v (x_assign (tmI rfl rfl)) ?_
        refine wl_e rfl ?_; intro K hK
        refine ow_storeA hS 0 rfl ts_33 (tmP rfl rfl) (tmA rfl rfl) rfl rfl rfl ?_
        clear hS; intro w hS
        try replace hS := St.nm (M' := [.blk _ _ [_, _, _, _], .vw _ _, .vw _ _, .vw _ _]) hS rfl
        refine hK _ _ ?_; clear hK K
        refine wl_nil ?_
        refine then_n (hK9 _ _ ?_); clear hK9 K9
        refine wp_seq_k ?_; intro K10 hK10
        refine rg_startk 0 hS mixed_ ?_
        clear hS; intro w hS
        refine rg_take 0 rfl rfl (by kernel_rfl) (by kernel_rfl) (by kernel_rfl) (want_0) (fun w hok => x_fa 1 Try.underlying33 rfl rfl ts_3 (tmP rfl rfl)) ?_
        first
         | refine rg_take 1 rfl rfl (by kernel_rfl) (by kernel_rfl) (by kernel_rfl) (want_0) (fun w hok => x_load Try.underlying3 rfl (tmP rfl rfl) (cellB hok 0 rfl rfl)) ?_
         | refine rg_take 1 rfl rfl (by kernel_rfl) (by kernel_rfl) (by kernel_rfl) (want_0) (fun w hok => x_load Try.underlying3 rfl (tmP rfl rfl) (cellB hok 0 rfl (getm (by omega)))) ?_
        refine rg_take 2 rfl rfl (by kernel_rfl) (by kernel_rfl) (by kernel_rfl) (want_0) (fun w hok => x_move (tmP rfl rfl)) ?_
        refine rg_take 3 rfl rfl (by kernel_rfl) (by kernel_rfl) (by kernel_rfl) (want_0) (fun w hok => x_nil (A := none) (tmP rfl rfl)) ?_
        refine rg_take 4 rfl rfl (by kernel_rfl) (by kernel_rfl) (by kernel_rfl) (want_0) (fun w hok => x_fa 0 Try.underlying27 rfl rfl ts_25 (tmP rfl rfl)) ?_
        first
         | refine rg_take 5 rfl rfl (by kernel_rfl) (by kernel_rfl) (by kernel_rfl) (want_0) (fun w hok => x_load Try.underlying25 rfl (tmP rfl rfl) (cellV hok 1 rfl rfl)) ?_
         | refine rg_take 5 rfl rfl (by kernel_rfl) (by kernel_rfl) (by kernel_rfl) (want_0) (fun w hok => x_load Try.underlying25 rfl (tmP rfl rfl) (cellV hok 1 rfl (getm (by omega)))) ?_
         | refine rg_take 5 rfl rfl (by kernel_rfl) (by kernel_rfl) (by kernel_rfl) (want_0) (fun w hok => x_load Try.underlying25 rfl (tmP rfl rfl) (cellVs hok 1 rfl (fun _ => rfl) rfl (by omega) rfl)) ?_
         | refine rg_take 5 rfl rfl (by kernel_rfl) (by kernel_rfl) (by kernel_rfl) (want_0) (fun w hok => x_load Try.underlying25 rfl (tmP rfl rfl) (cellV hok 2 rfl rfl)) ?_
         | refine rg_take 5 rfl rfl (by kernel_rfl) (by kernel_rfl) (by kernel_rfl) (want_0) (fun w hok => x_load Try.underlying25 rfl (tmP rfl rfl) (cellV hok 2 rfl (getm (by omega)))) ?_
         | refine rg_take 5 rfl rfl (by kernel_rfl) (by kernel_rfl) (by kernel_rfl) (want_0) (fun w hok => x_load Try.underlying25 rfl (tmP rfl rfl) (cellVs hok 2 rfl (fun _ => rfl) rfl (by omega) rfl)) ?_
         | refine rg_take 5 rfl rfl (by kernel_rfl) (by kernel_rfl) (by kernel_rfl) (want_0) (fun w hok => x_load Try.underlying25 rfl (tmP rfl rfl) (cellV hok 3 rfl rfl)) ?_
         | refine rg_take 5 rfl rfl (by kernel_rfl) (by kernel_rfl) (by kernel_rfl) (want_0) (fun w hok => x_load Try.underlying25 rfl (tmP rfl rfl) (cellV hok 3 rfl (getm (by omega)))) ?_
         | refine rg_take 5 rfl rfl (by kernel_rfl) (by kernel_rfl) (by kernel_rfl) (want_0) (fun w hok => x_load Try.underlying25 rfl (tmP rfl rfl) (cellVs hok 3 rfl (fun _ => rfl) rfl (by omega) rfl)) ?_
        refine rg_take 6 rfl rfl (by kernel_rfl) (by kernel_rfl) (by kernel_rfl) (want_0) (fun w hok => x_move (tmI rfl rfl)) ?_
        refine rg_take 7 rfl rfl (by kernel_rfl) (by kernel_rfl) (by kernel_rfl) (want_0) (fun w hok => x_ixs Try.underlying25 ts_66 (tmS rfl rfl) (tmI rfl rfl) (by omega)) ?_
        refine rg_take 8 rfl rfl (by kernel_rfl) (by kernel_rfl) (by kernel_rfl) (want_0) (fun w hok => x_fa 0 Try.underlying66 rfl rfl ts_3 (tmP rfl rfl)) ?_
        first
         | refine rg_take 9 rfl rfl (by kernel_rfl) (by kernel_rfl) (by kernel_rfl) (want_0) (fun w hok => x_load Try.underlying3 rfl (tmP rfl rfl) (cellV hok 1 rfl rfl)) ?_
         | refine rg_take 9 rfl rfl (by kernel_rfl) (by kernel_rfl) (by kernel_rfl) (want_0) (fun w hok => x_load Try.underlying3 rfl (tmP rfl rfl) (cellV hok 1 rfl (getm (by omega)))) ?_
         | refine rg_take 9 rfl rfl (by kernel_rfl) (by kernel_rfl) (by kernel_rfl) (want_0) (fun w hok => x_load Try.underlying3 rfl (tmP rfl rfl) (cellVs hok 1 rfl (fun _ => rfl) rfl (by omega) rfl)) ?_
         | refine rg_take 9 rfl rfl (by kernel_rfl) (by kernel_rfl) (by kernel_rfl) (want_0) (fun w hok => x_load Try.underlying3 rfl (tmP rfl rfl) (cellV hok 2 rfl rfl)) ?_
         | refine rg_take 9 rfl rfl (by kernel_rfl) (by kernel_rfl) (by kernel_rfl) (want_0) (fun w hok => x_load Try.underlying3 rfl (tmP rfl rfl) (cellV hok 2 rfl (getm (by omega)))) ?_
         | refine rg_take 9 rfl rfl (by kernel_rfl) (by kernel_rfl) (by kernel_rfl) (want_0) (fun w hok => x_load Try.underlying3 rfl (tmP rfl rfl) (cellVs hok 2 rfl (fun _ => rfl) rfl (by omega) rfl)) ?_
         | refine rg_take 9 rfl rfl (by kernel_rfl) (by kernel_rfl) (by kernel_rfl) (want_0) (fun w hok => x_load Try.underlying3 rfl (tmP rfl rfl) (cellV hok 3 rfl rfl)) ?_
         | refine rg_take 9 rfl rfl (by kernel_rfl) (by kernel_rfl) (by kernel_rfl) (want_0) (fun w hok => x_load Try.underlying3 rfl (tmP rfl rfl) (cellV hok 3 rfl (getm (by omega)))) ?_
         | refine rg_take 9 rfl rfl (by kernel_rfl) (by kernel_rfl) (by kernel_rfl) (want_0) (fun w hok => x_load Try.underlying3 rfl (tmP rfl rfl) (cellVs hok 3 rfl (fun _ => rfl) rfl (by omega) rfl)) ?_
        refine rg_take 10 rfl rfl (by kernel_rfl) (by kernel_rfl) (by kernel_rfl) (want_0) (fun w hok => x_neq (tmI rfl rfl) (tmI rfl rfl)) ?_
        refine rg_take 11 rfl rfl (by kernel_rfl) (by kernel_rfl) (by kernel_rfl) (want_0) (fun w hok => x_move (tmB rfl rfl)) ?_
        refine gs_rg (tm (t := 33) rfl) (fun hg6_11 => ?_) (fun hg6_11 => ?_)
        · exfalso
          have h1 := (hsame.2 k (by omega)).1
          rw [h1] at hg6_11; simp at hg6_11
        have hg6_11' := hg6_11; (try simp only [nrm] at hg6_11'); try (exfalso; first | with_reducible exact absurd hg6_11 Bool.false_ne_true | with_reducible exact absurd hg6_11.symm Bool.false_ne_true | omega | (simp at hg6_11; done))
        all_goals
         refine rg_take 12 rfl rfl (by kernel_rfl) (by kernel_rfl) (by kernel_rfl) (want_y rfl rfl rfl rfl (by rw [hg6_11]; rfl)) (fun w hok => x_fa 2 Try.underlying33 rfl rfl ts_3 (tmP rfl rfl)) ?_
         first
          | refine rg_take 13 rfl rfl (by kernel_rfl) (by kernel_rfl) (by kernel_rfl) (want_y rfl rfl rfl rfl (by rw [hg6_11]; rfl)) (fun w hok => x_load Try.underlying3 rfl (tmP rfl rfl) (cellB hok 0 rfl rfl)) ?_
          | refine rg_take 13 rfl rfl (by kernel_rfl) (by kernel_rfl) (by kernel_rfl) (want_y rfl rfl rfl rfl (by rw [hg6_11]; rfl)) (fun w hok => x_load Try.underlying3 rfl (tmP rfl rfl) (cellB hok 0 rfl (getm (by omega)))) ?_
         refine rg_take 14 rfl rfl (by kernel_rfl) (by kernel_rfl) (by kernel_rfl) (want_y rfl rfl rfl rfl (by rw [hg6_11]; rfl)) (fun w hok => x_move (tmP rfl rfl)) ?_
         refine rg_take 15 rfl rfl (by kernel_rfl) (by kernel_rfl) (by kernel_rfl) (want_y rfl rfl rfl rfl (by rw [hg6_11]; rfl)) (fun w hok => x_nil (A := none) (tmP rfl rfl)) ?_
         refine rg_take 16 rfl rfl (by kernel_rfl) (by kernel_rfl) (by kernel_rfl) (want_y rfl rfl rfl rfl (by rw [hg6_11]; rfl)) (fun w hok => x_fa 0 Try.underlying27 rfl rfl ts_25 (tmP rfl rfl)) ?_
         first
          | refine rg_take 17 rfl rfl (by kernel_rfl) (by kernel_rfl) (by kernel_rfl) (want_y rfl rfl rfl rfl (by rw [hg6_11]; rfl)) (fun w hok => x_load Try.underlying25 rfl (tmP rfl rfl) (cellV hok 1 rfl rfl)) ?_
          | refine rg_take 17 rfl rfl (by kernel_rfl) (by kernel_rfl) (by kernel_rfl) (want_y rfl rfl rfl rfl (by rw [hg6_11]; rfl)) (fun w hok => x_load Try.underlying25 rfl (tmP rfl rfl) (cellV hok 1 rfl (getm (by omega)))) ?_
          | refine rg_take 17 rfl rfl (by kernel_rfl) (by kernel_rfl) (by kernel_rfl) (want_y rfl rfl rfl rfl (by rw [hg6_11]; rfl)) (fun w hok => x_load Try.underlying25 rfl (tmP rfl rfl) (cellVs hok 1 rfl (fun _ => rfl) rfl (by omega) rfl)) ?_
          | refine rg_take 17 rfl rfl (by kernel_rfl) (by kernel_rfl) (by kernel_rfl) (want_y rfl rfl rfl rfl (by rw [hg6_11]; rfl)) (fun w hok => x_load Try.underlying25 rfl (tmP rfl rfl) (cellV hok 2 rfl rfl)) ?_
          | refine rg_take 17 rfl rfl (by kernel_rfl) (by kernel_rfl) (by kernel_rfl) (want_y rfl rfl rfl rfl (by rw [hg6_11]; rfl)) (fun w hok => x_load Try.underlying25 rfl (tmP rfl rfl) (cellV hok 2 rfl (getm (by omega)))) ?_
          | refine rg_take 17 rfl rfl (by kernel_rfl) (by kernel_rfl) (by kernel_rfl) (want_y rfl rfl rfl rfl (by rw [hg6_11]; rfl)) (fun w hok => x_load Try.underlying25 rfl (tmP rfl rfl) (cellVs hok 2 rfl (fun _ => rfl) rfl (by omega) rfl)) ?_
          | refine rg_take 17 rfl rfl (by kernel_rfl) (by kernel_rfl) (by kernel_rfl) (want_y rfl rfl rfl rfl (by rw [hg6_11]; rfl)) (fun w hok => x_load Try.underlying25 rfl (tmP rfl rfl) (cellV hok 3 rfl rfl)) ?_
          | refine rg_take 17 rfl rfl (by kernel_rfl) (by kernel_rfl) (by kernel_rfl) (want_y rfl rfl rfl rfl (by rw [hg6_11]; rfl)) (fun w hok => x_load Try.underlying25 rfl (tmP rfl rfl) (cellV hok 3 rfl (getm (by omega)))) ?_
          | refine rg_take 17 rfl rfl (by kernel_rfl) (by kernel_rfl) (by kernel_rfl) (want_y rfl rfl rfl rfl (by rw [hg6_11]; rfl)) (fun w hok => x_load Try.underlying25 rfl (tmP rfl rfl) (cellVs hok 3 rfl (fun _ => rfl) rfl (by omega) rfl)) ?_
         refine rg_take 18 rfl rfl (by kernel_rfl) (by kernel_rfl) (by kernel_rfl) (want_y rfl rfl rfl rfl (by rw [hg6_11]; rfl)) (fun w hok => x_move (tmI rfl rfl)) ?_
         refine rg_take 19 rfl rfl (by kernel_rfl) (by kernel_rfl) (by kernel_rfl) (want_y rfl rfl rfl rfl (by rw [hg6_11]; rfl)) (fun w hok => x_ixs Try.underlying25 ts_66 (tmS rfl rfl) (tmI rfl rfl) (by omega)) ?_
         refine rg_take 20 rfl rfl (by kernel_rfl) (by kernel_rfl) (by kernel_rfl) (want_y rfl rfl rfl rfl (by rw [hg6_11]; rfl)) (fun w hok => x_fa 1 Try.underlying66 rfl rfl ts_3 (tmP rfl rfl)) ?_
         first
          | refine rg_take 21 rfl rfl (by kernel_rfl) (by kernel_rfl) (by kernel_rfl) (want_y rfl rfl rfl rfl (by rw [hg6_11]; rfl)) (fun w hok => x_load Try.underlying3 rfl (tmP rfl rfl) (cellV hok 1 rfl rfl)) ?_
          | refine rg_take 21 rfl rfl (by kernel_rfl) (by kernel_rfl) (by kernel_rfl) (want_y rfl rfl rfl rfl (by rw [hg6_11]; rfl)) (fun w hok => x_load Try.underlying3 rfl (tmP rfl rfl) (cellV hok 1 rfl (getm (by omega)))) ?_
          | refine rg_take 21 rfl rfl (by kernel_rfl) (by kernel_rfl) (by kernel_rfl) (want_y rfl rfl rfl rfl (by rw [hg6_11]; rfl)) (fun w hok => x_load Try.underlying3 rfl (tmP rfl rfl) (cellVs hok 1 rfl (fun _ => rfl) rfl (by omega) rfl)) ?_
          | refine rg_take 21 rfl rfl (by kernel_rfl) (by kernel_rfl) (by kernel_rfl) (want_y rfl rfl rfl rfl (by rw [hg6_11]; rfl)) (fun w hok => x_load Try.underlying3 rfl (tmP rfl rfl) (cellV hok 2 rfl rfl)) ?_
          | refine rg_take 21 rfl rfl (by kernel_rfl) (by kernel_rfl) (by kernel_rfl) (want_y rfl rfl rfl rfl (by rw [hg6_11]; rfl)) (fun w hok => x_load Try.underlying3 rfl (tmP rfl rfl) (cellV hok 2 rfl (getm (by omega)))) ?_
          | refine rg_take 21 rfl rfl (by kernel_rfl) (by kernel_rfl) (by kernel_rfl) (want_y rfl rfl rfl rfl (by rw [hg6_11]; rfl)) (fun w hok => x_load Try.underlying3 rfl (tmP rfl rfl) (cellVs hok 2 rfl (fun _ => rfl) rfl (by omega) rfl)) ?_
          | refine rg_take 21 rfl rfl (by kernel_rfl) (by kernel_rfl) (by kernel_rfl) (want_y rfl rfl rfl rfl (by rw [hg6_11]; rfl)) (fun w hok => x_load Try.underlying3 rfl (tmP rfl rfl) (cellV hok 3 rfl rfl)) ?_
          | refine rg_take 21 rfl rfl (by kernel_rfl) (by kernel_rfl) (by kernel_rfl) (want_y rfl rfl rfl rfl (by rw [hg6_11]; rfl)) (fun w hok => x_load Try.underlying3 rfl (tmP rfl rfl) (cellV hok 3 rfl (getm (by omega)))) ?_
          | refine rg_take 21 rfl rfl (by kernel_rfl) (by kernel_rfl) (by kernel_rfl) (want_y rfl rfl rfl rfl (by rw [hg6_11]; rfl)) (fun w hok => x_load Try.underlying3 rfl (tmP rfl rfl) (cellVs hok 3 rfl (fun _ => rfl) rfl (by omega) rfl)) ?_
         refine rg_take 22 rfl rfl (by kernel_rfl) (by kernel_rfl) (by kernel_rfl) (want_y rfl rfl rfl rfl (by rw [hg6_11]; rfl)) (fun w hok => x_neq (tmI rfl rfl) (tmI rfl rfl)) ?_
         refine rg_take 23 rfl rfl (by kernel_rfl) (by kernel_rfl) (by kernel_rfl) (want_0) (fun w hok => x_pickF (tmB rfl rfl) hg6_11 (tmB rfl rfl)) ?_
         refine rg_done (oks_drop hS 0 rfl) (by kernel_rfl) ?_
         refine then_n (hK10 _ _ ?_); clear hK10 K10
         refine cnd (tm rfl) (fun hc2 => ?_) (fun hc2 => ?_)
         · exfalso
           have h1 := (hsame.2 k (by omega)).2
           rw [h1] at hc2; simp at hc2
         try (exfalso; first | with_reducible exact absurd hc2 Bool.false_ne_true | with_reducible exact absurd hc2.symm Bool.false_ne_true | (simp only [nrm] at hc2; omega) | (simp at hc2; done))
         all_goals
          try simp only [nrm] at hc2
          refine wp_skip ?_
          refine inb_n ?_
          refine then_n (hK8 _ _ ?_); clear hK8 K8
          refine wlit ?_
          first
           | refine wl_v (x_addN (tmI rfl rfl) (ev_cN 1) (fit_i64 (by omega))) ?_
           | refine wl_v (x_addI (tmI rfl rfl) (ev_cN 1) (IntWalk.i64_in _ (by omega))) ?_
           | refine wl_v (x_add (tmI rfl rfl) (ev_cN 1)) ?_
          refine wl_v (x_move (tmI rfl rfl)) ?_
          refine wl_nil ?_
          exact then_n ⟨_, _, rfl, (by show _ < _; omega), (by repeat (first | exact agree_self | exact agree_refl | refine agree_upd rfl ?_ | refine agree_mix rfl ?_)), k + 1, rfl, (by first | rfl | go_num | exact congrArg (Value.int _) (by first | omega | (simp; done) | (simp; omega))), (hS.pick [1, 2, 3] rfl rfl), (by omega), (by trivial)⟩
     try (exfalso; first | with_reducible exact absurd hc1 Bool.false_ne_true | with_reducible exact absurd hc1.symm Bool.false_ne_true | (simp only [nrm] at hc1; omega) | (simp at hc1; done))
     all_goals
      try simp only [nrm] at hc1
      refine wp_exit ?_
      refine then_x ?_; clear hK7 K7
      refine then_x ?_
      refine inb_x ?_
      refine then_n (hK4 _ _ ?_); clear hK4 K4
      refine wp_seq_k ?_; intro K11 hK11
      refine wlit ?_
      refine wl_v (x_assign ev_c) ?_
      refine wl_nil ?_
      refine then_n (hK11 _ _ ?_); clear hK11 K11
      refine wp_ret ?_
      refine ret1 rfl (.tmp rfl (show _ = Value.bool _ from rfl)) ?_
      exact ⟨rfl, hS.kp⟩
set_option maxRecDepth 100000 in
set_option maxHeartbeats 4000000 in
theorem knows_no (gs : Nat) (K : Option Addr) (m ck : Nat) (ks : List Cr) (n : Nat) (A : Option Addr) (c : Nat) (l : List Cn) (w0 : World) (hvs : View w0 w0.heap.size (some ⟨gs, 0, none⟩) [.slice K m ck]) (hvk : View w0 w0.heap.size K (flat crV ks)) (hv : View w0 w0.heap.size A (flat cnV l))
    (hl : l.length = n) (hm : ks.length = m) (hn4 : n ≤ 1000000) (hsame : ¬ SameP l ks) :
    Calls Try.prog 20 #[.pointer (some ⟨gs, 0, none⟩), .slice A n c] w0 fun e w' => e = .returned (.bool false) ∧ Kp [] w0 w' := by
  have hS := (((St.sv w0).vcons rfl hv).vcons rfl hvk).vcons rfl hvs
  refine ent (n := 47) Try.func20 rfl rfl ?_
  refine wp_seq_k ?_; intro K1 hK1
  refine wlit ?_
  refine wl_v (x_assign ev_c) ?_
  refine wl_nil ?_
  refine then_n (hK1 _ _ ?_); clear hK1 K1
  refine wp_seq_k ?_; intro K2 hK2
  refine wp_seq_k ?_; intro K3 hK3
  refine wlit ?_
  refine wl_v (x_move (tmS rfl rfl)) ?_
  refine wl_v (x_len Try.underlying36 (tmS rfl rfl)) ?_
  refine wl_v (x_move (tmP rfl rfl)) ?_
  refine wl_v (x_nil (A := none) (tmP rfl rfl)) ?_
  refine wl_v (x_fa 0 Try.underlying27 rfl rfl ts_25 (tmP rfl rfl)) ?_
  first
   | refine wl_v (x_load Try.underlying25 rfl (tmP rfl rfl) (cellV hS.ok 0 rfl rfl)) ?_
   | refine wl_v (x_load Try.underlying25 rfl (tmP rfl rfl) (cellV hS.ok 0 rfl (getm (by omega)))) ?_
   | refine wl_v (x_load Try.underlying25 rfl (tmP rfl rfl) (cellVs hS.ok 0 rfl (fun _ => rfl) rfl (by omega) rfl)) ?_
   | refine wl_v (x_load Try.underlying25 rfl (tmP rfl rfl) (cellV hS.ok 1 rfl rfl)) ?_
   | refine wl_v (x_load Try.underlying25 rfl (tmP rfl rfl) (cellV hS.ok 1 rfl (getm (by omega)))) ?_
   | refine wl_v (x_load Try.underlying25 rfl (tmP rfl rfl) (cellVs hS.ok 1 rfl (fun _ => rfl) rfl (by omega) rfl)) ?_
   | refine wl_v (x_load Try.underlying25 rfl (tmP rfl rfl) (cellV hS.ok 2 rfl rfl)) ?_
   | refine wl_v (x_load Try.underlying25 rfl (tmP rfl rfl) (cellV hS.ok 2 rfl (getm (by omega)))) ?_
   | refine wl_v (x_load Try.underlying25 rfl (tmP rfl rfl) (cellVs hS.ok 2 rfl (fun _ => rfl) rfl (by omega) rfl)) ?_
  refine wl_v (x_len Try.underlying25 (tmS rfl rfl)) ?_
  refine wl_v (x_neq (tmI rfl rfl) (tmI rfl rfl)) ?_
  refine wl_nil ?_
  refine then_n (hK3 _ _ ?_); clear hK3 K3
  refine cnd (tm rfl) (fun hc0 => ?_) (fun hc0 => ?_)
  · try (exfalso; first | with_reducible exact absurd hc0 Bool.false_ne_true | with_reducible exact absurd hc0.symm Bool.false_ne_true | (simp only [nrm] at hc0; omega) | (simp at hc0; done))
    all_goals
     try simp only [nrm] at hc0
     refine wp_seq_k ?_; intro K4 hK4
     refine wlit ?_
     refine wl_v (x_assign ev_c) ?_
     refine wl_nil ?_
     refine then_n (hK4 _ _ ?_); clear hK4 K4
     refine wp_ret ?_
     refine then_r ?_
     refine ret1 rfl (.tmp rfl (show _ = Value.bool _ from rfl)) ?_
     exact ⟨rfl, hS.kp⟩
  try (exfalso; first | with_reducible exact absurd hc0 Bool.false_ne_true | with_reducible exact absurd hc0.symm Bool.false_ne_true | (simp only [nrm] at hc0; omega) | (simp at hc0; done))
  all_goals
   try simp only [nrm] at hc0
   have hnm : n = m := by omega
   refine wp_skip ?_
   refine then_n (hK2 _ _ ?_); clear hK2 K2
   refine wp_seq_k ?_; intro K5 hK5
   refine wp_seq_k ?_; intro K6 hK6
   refine wlit ?_
   refine wl_v (x_move (tmS rfl rfl)) ?_
   refine wl_v (x_len Try.underlying36 (tmS rfl rfl)) ?_
   refine wl_v (x_move (ev_cN 0)) ?_
   refine wl_nil ?_
   refine then_n (hK6 _ _ ?_); clear hK6 K6
   refine wp_block ?_
   refine lp [4, 5, 6, 17, 18, 19, 20, 21, 22, 23, 24, 25, 26, 27, 28, 29, 30, 31, 32, 33, 34, 35, 36, 37, 38, 39, 40, 41, 42, 43, 44, 45, 46] (fun mz g w => ∃ (k : Nat), mz = m - k ∧ g 17 = .int .i64 (k : Int) ∧ St [] w0 [.vw (some ⟨gs, 0, none⟩) [.slice K m ck], .vw K (flat crV ks), .vw A (flat cnV l)] w ∧ (k ≤ m) ∧ (∀ i, i < k → (l.getD i default).backend = (ks.getD i default).backend ∧ (l.getD i default).weight = (ks.getD i default).weight)) ?_ ?_
   · exact ⟨_, 0, rfl, (by first | rfl | go_num | exact congrArg (Value.int _) (by first | omega | (simp; done) | (simp; omega))), hS, (by omega), (by first | (intro i hi; omega) | exact hz1)⟩
   · clear hS; intro mz g w hI
     obtain ⟨k, rfl, hs17, hS, hk, hz⟩ := hI
     refine fr_know (d := 17) hs17 ?_; clear hs17
     refine wp_seq_k ?_; intro K7 hK7
     refine wlit ?_
     refine wl_v (x_lss (tmI rfl rfl) (tmI rfl rfl)) ?_
     refine wl_nil ?_
     refine then_n (hK7 _ _ ?_); clear hK7 K7
     refine wp_seq_k ?_; intro K8 hK8
     refine cnds (tm rfl) (fun hc1 => ?_) (fun hc1 => ?_)
     · exfalso
       simp at hc1
       exact absurd ⟨by omega, fun i hi => hz i (by omega)⟩ hsame
     try (exfalso; first | with_reducible exact absurd hc1 Bool.false_ne_true | with_reducible exact absurd hc1.symm Bool.false_ne_true | (simp only [nrm] at hc1; omega) | (simp at hc1; done))
     all_goals
      try simp only [nrm] at hc1
      obtain ⟨b4, o4, rfl⟩ := view_some hv (by rw [flat_length cnV_len]; omega)
      obtain ⟨bk, ok, rfl⟩ := view_some hvk (by rw [flat_length crV_len]; omega)
      refine wp_skip ?_
      refine then_n (hK8 _ _ ?_); clear hK8 K8
      refine wp_seq_k ?_; intro K9 hK9
      refine wp_block ?_
      refine wp_seq_k ?_; intro K10 hK10
      refine wlit ?_
      refine wl_v (x_move (tmI rfl rfl)) ?_
      refine wl_v (x_ixs Try.underlying36 ts_33 (tmS rfl rfl) (tmI rfl rfl) (by omega)) ?_
      first
       | refine wl_v (x_loadA Try.underlying33 rfl (by exact ts_33) (tmP rfl rfl) (rangeVs hS.ok 0 rfl (fun _ => rfl) (by omega))) ?_
       | refine wl_v (x_loadA Try.underlying33 rfl (by exact ts_33) (tmP rfl rfl) (rangeVs hS.ok 1 rfl (fun _ => rfl) (by omega))) ?_
       | refine wl_v (x_loadA Try.underlying33 rfl (by exact ts_33) (tmP rfl rfl) (rangeVs hS.ok 2 rfl (fun _ => rfl) (by omega))) ?_
      refine wl_e rfl ?_; intro K hK
      refine ow_alloc hS tz_33 rfl ?_
      clear hS; intro g5_3 w hg5_3 hS
      refine hK _ _ ?_; clear hK K
      refine wl_v (x_assign (tmI rfl rfl)) ?_
      refine wl_e rfl ?_; intro K hK
      refine ow_storeA hS 0 rfl ts_33 (tmP rfl rfl) (tmA rfl rfl) rfl rfl rfl ?_
      clear hS; intro w hS
      try replace hS := St.nm (M' := [.blk _ _ [_, _, _, _], .vw _ _, .vw _ _, .vw _ _]) hS rfl
      refine hK _ _ ?_; clear hK K
      refine wl_nil ?_
      refine then_n (hK10 _ _ ?_); clear hK10 K10
      refine wp_seq_k ?_; intro K11 hK11
      refine rg_startk 0 hS mixed_ ?_
      clear hS; intro w hS
      refine rg_take 0 rfl rfl (by kernel_rfl) (by kernel_rfl) (by kernel_rfl) (want_0) (fun w hok => x_fa 1 Try.underlying33 rfl rfl ts_3 (tmP rfl rfl)) ?_
      first
       | refine rg_take 1 rfl rfl (by kernel_rfl) (by kernel_rfl) (by kernel_rfl) (want_0) (fun w hok => x_load Try.underlying3 rfl (tmP rfl rfl) (cellB hok 0 rfl rfl)) ?_
       | refine rg_take 1 rfl rfl (by kernel_rfl) (by kernel_rfl) (by kernel_rfl) (want_0) (fun w hok => x_load Try.underlying3 rfl (tmP rfl rfl) (cellB hok 0 rfl (getm (by omega)))) ?_
      refine rg_take 2 rfl rfl (by kernel_rfl) (by kernel_rfl) (by kernel_rfl) (want_0) (fun w hok => x_move (tmP rfl rfl)) ?_
      refine rg_take 3 rfl rfl (by kernel_rfl) (by kernel_rfl) (by kernel_rfl) (want_0) (fun w hok => x_nil (A := none) (tmP rfl rfl)) ?_
      refine rg_take 4 rfl rfl (by kernel_rfl) (by kernel_rfl) (by kernel_rfl) (want_0) (fun w hok => x_fa 0 Try.underlying27 rfl rfl ts_25 (tmP rfl rfl)) ?_
      first
       | refine rg_take 5 rfl rfl (by kernel_rfl) (by kernel_rfl) (by kernel_rfl) (want_0) (fun w hok => x_load Try.underlying25 rfl (tmP rfl rfl) (cellV hok 1 rfl rfl)) ?_
       | refine rg_take 5 rfl rfl (by kernel_rfl) (by kernel_rfl) (by kernel_rfl) (want_0) (fun w hok => x_load Try.underlying25 rfl (tmP rfl rfl) (cellV hok 1 rfl (getm (by omega)))) ?_
       | refine rg_take 5 rfl rfl (by kernel_rfl) (by kernel_rfl) (by kernel_rfl) (want_0) (fun w hok => x_load Try.underlying25 rfl (tmP rfl rfl) (cellVs hok 1 rfl (fun _ => rfl) rfl (by omega) rfl)) ?_
       | refine rg_take 5 rfl rfl (by kernel_rfl) (by kernel_rfl) (by kernel_rfl) (want_0) (fun w hok => x_load Try.underlying25 rfl (tmP rfl rfl) (cellV hok 2 rfl rfl)) ?_
       | refine rg_take 5 rfl rfl (by kernel_rfl) (by kernel_rfl) (by kernel_rfl) (want_0) (fun w hok => x_load Try.underlying25 rfl (tmP rfl rfl) (cellV hok 2 rfl (getm (by omega)))) ?_
       | refine rg_take 5 rfl rfl (by kernel_rfl) (by kernel_rfl) (by kernel_rfl) (want_0) (fun w hok => x_load Try.underlying25 rfl (tmP rfl rfl) (cellVs hok 2 rfl (fun _ => rfl) rfl (by omega) rfl)) ?_
       | refine rg_take 5 rfl rfl (by kernel_rfl) (by kernel_rfl) (by kernel_rfl) (want_0) (fun w hok => x_load Try.underlying25 rfl (tmP rfl rfl) (cellV hok 3 rfl rfl)) ?_
       | refine rg_take 5 rfl rfl (by kernel_rfl) (by kernel_rfl) (by kernel_rfl) (want_0) (fun w hok => x_load Try.underlying25 rfl (tmP rfl rfl) (cellV hok 3 rfl (getm (by omega)))) ?_
       | refine rg_take 5 rfl rfl (by kernel_rfl) (by kernel_rfl) (by kernel_rfl) (want_0) (fun w hok => x_load Try.underlying25 rfl (tmP rfl rfl) (cellVs hok 3 rfl (fun _ => rfl) rfl (by omega) rfl)) ?_
      refine rg_take 6 rfl rfl (by kernel_rfl) (by kernel_rfl) (by kernel_rfl) (want_0) (fun w hok => x_move (tmI rfl rfl)) ?_
      refine rg_take 7 rfl rfl (by kernel_rfl) (by kernel_rfl) (by kernel_rfl) (want_0) (fun w hok => x_ixs Try.underlying25 ts_66 (tmS rfl rfl) (tmI rfl rfl) (by omega)) ?_
      refine rg_take 8 rfl rfl (by kernel_rfl) (by kernel_rfl) (by kernel_rfl) (want_0) (fun w hok => x_fa 0 Try.underlying66 rfl rfl ts_3 (tmP rfl rfl)) ?_
      first
       | refine rg_take 9 rfl rfl (by kernel_rfl) (by kernel_rfl) (by kernel_rfl) (want_0) (fun w hok => x_load Try.underlying3 rfl (tmP rfl rfl) (cellV hok 1 rfl rfl)) ?_
       | refine rg_take 9 rfl rfl (by kernel_rfl) (by kernel_rfl) (by kernel_rfl) (want_0) (fun w hok => x_load Try.underlying3 rfl (tmP rfl rfl) (cellV hok 1 rfl (getm (by omega)))) ?_
       | refine rg_take 9 rfl rfl (by kernel_rfl) (by kernel_rfl) (by kernel_rfl) (want_0) (fun w hok => x_load Try.underlying3 rfl (tmP rfl rfl) (cellVs hok 1 rfl (fun _ => rfl) rfl (by omega) rfl)) ?_
       | refine rg_take 9 rfl rfl (by kernel_rfl) (by kernel_rfl) (by kernel_rfl) (want_0) (fun w hok => x_load Try.underlying3 rfl (tmP rfl rfl) (cellV hok 2 rfl rfl)) ?_
       | refine rg_take 9 rfl rfl (by kernel_rfl) (by kernel_rfl) (by kernel_rfl) (want_0) (fun w hok => x_load Try.underlying3 rfl (tmP rfl rfl) (cellV hok 2 rfl (getm (by omega)))) ?_
       | refine rg_take 9 rfl rfl (by kernel_rfl) (by kernel_rfl) (by kernel_rfl) (want_0) (fun w hok => x_load Try.underlying3 rfl (tmP rfl rfl) (cellVs hok 2 rfl (fun _ => rfl) rfl (by omega) rfl)) ?_
       | refine rg_take 9 rfl rfl (by kernel_rfl) (by kernel_rfl) (by kernel_rfl) (want_0) (fun w hok => x_load Try.underlying3 rfl (tmP rfl rfl) (cellV hok 3 rfl rfl)) ?_
       | refine rg_take 9 rfl rfl (by kernel_rfl) (by kernel_rfl) (by kernel_rfl) (want_0) (fun w hok => x_load Try.underlying3 rfl (tmP rfl rfl) (cellV hok 3 rfl (getm (by omega)))) ?_
       | refine rg_take 9 rfl rfl (by kernel_rfl) (by kernel_rfl) (by kernel_rfl) (want_0) (fun w hok => x_load Try.underlying3 rfl (tmP rfl rfl) (cellVs hok 3 rfl (fun _ => rfl) rfl (by omega) rfl)) ?_
      refine rg_take 10 rfl rfl (by kernel_rfl) (by kernel_rfl) (by kernel_rfl) (want_0) (fun w hok => x_neq (tmI rfl rfl) (tmI rfl rfl)) ?_
      refine rg_take 11 rfl rfl (by kernel_rfl) (by kernel_rfl) (by kernel_rfl) (want_0) (fun w hok => x_move (tmB rfl rfl)) ?_
      refine gs_rg (tm (t := 33) rfl) (fun hg6_11 => ?_) (fun hg6_11 => ?_)
      · have hg6_11' := hg6_11; (try simp only [nrm] at hg6_11'); try (exfalso; first | with_reducible exact absurd hg6_11 Bool.false_ne_true | with_reducible exact absurd hg6_11.symm Bool.false_ne_true | omega | (simp at hg6_11; done))
        all_goals
         refine rg_skip 12 rfl rfl (by kernel_rfl) (by kernel_rfl) (by kernel_rfl) (want_n rfl rfl rfl rfl (by rw [hg6_11]; rfl)) ?_
         refine rg_skip 13 rfl rfl (by kernel_rfl) (by kernel_rfl) (by kernel_rfl) (want_n rfl rfl rfl rfl (by rw [hg6_11]; rfl)) ?_
         refine rg_skip 14 rfl rfl (by kernel_rfl) (by kernel_rfl) (by kernel_rfl) (want_n rfl rfl rfl rfl (by rw [hg6_11]; rfl)) ?_
         refine rg_skip 15 rfl rfl (by kernel_rfl) (by kernel_rfl) (by kernel_rfl) (want_n rfl rfl rfl rfl (by rw [hg6_11]; rfl)) ?_
         refine rg_skip 16 rfl rfl (by kernel_rfl) (by kernel_rfl) (by kernel_rfl) (want_n rfl rfl rfl rfl (by rw [hg6_11]; rfl)) ?_
         refine rg_skip 17 rfl rfl (by kernel_rfl) (by kernel_rfl) (by kernel_rfl) (want_n rfl rfl rfl rfl (by rw [hg6_11]; rfl)) ?_
         refine rg_skip 18 rfl rfl (by kernel_rfl) (by kernel_rfl) (by kernel_rfl) (want_n rfl rfl rfl rfl (by rw [hg6_11]; rfl)) ?_
         refine rg_skip 19 rfl rfl (by kernel_rfl) (by kernel_rfl) (by kernel_rfl) (want_n rfl rfl rfl rfl (by rw [hg6_11]; rfl)) ?_
         refine rg_skip 20 rfl rfl (by kernel_rfl) (by kernel_rfl) (by kernel_rfl) (want_n rfl rfl rfl rfl (by rw [hg6_11]; rfl)) ?_
         refine rg_skip 21 rfl rfl (by kernel_rfl) (by kernel_rfl) (by kernel_rfl) (want_n rfl rfl rfl rfl (by rw [hg6_11]; rfl)) ?_
         refine rg_skip 22 rfl rfl (by kernel_rfl) (by kernel_rfl) (by kernel_rfl) (want_n rfl rfl rfl rfl (by rw [hg6_11]; rfl)) ?_
         refine rg_take 23 rfl rfl (by kernel_rfl) (by kernel_rfl) (by kernel_rfl) (want_0) (fun w hok => x_pickT (tmB rfl rfl) hg6_11 ev_c) ?_
         refine rg_done (oks_drop hS 0 rfl) (by kernel_rfl) ?_
         refine then_n (hK11 _ _ ?_); clear hK11 K11
         refine cnd_t (tmB rfl rfl) rfl ?_
         refine wp_seq_k ?_; intro K12 hK12
         refine wlit ?_
         refine wl_v (x_assign ev_c) ?_
         refine wl_nil ?_
         refine then_n (hK12 _ _ ?_); clear hK12 K12
         refine wp_ret ?_
         refine inb_r ?_
         refine then_r ?_
         refine then_r ?_
         refine inb_r ?_
         refine then_r ?_
         refine ret1 rfl (.tmp rfl (show _ = Value.bool _ from rfl)) ?_
         exact ⟨rfl, hS.kp⟩
      have hg6_11' := hg6_11; (try simp only [nrm] at hg6_11'); try (exfalso; first | with_reducible exact absurd hg6_11 Bool.false_ne_true | with_reducible exact absurd hg6_11.symm Bool.false_ne_true | omega | (simp at hg6_11; done))
      all_goals
       refine rg_take 12 rfl rfl (by kernel_rfl) (by kernel_rfl) (by kernel_rfl) (want_y rfl rfl rfl rfl (by rw [hg6_11]; rfl)) (fun w hok => x_fa 2 Try.underlying33 rfl rfl ts_3 (tmP rfl rfl)) ?_
       first
        | refine rg_take 13 rfl rfl (by kernel_rfl) (by kernel_rfl) (by kernel_rfl) (want_y rfl rfl rfl rfl (by rw [hg6_11]; rfl)) (fun w hok => x_load Try.underlying3 rfl (tmP rfl rfl) (cellB hok 0 rfl rfl)) ?_
        | refine rg_take 13 rfl rfl (by kernel_rfl) (by kernel_rfl) (by kernel_rfl) (want_y rfl rfl rfl rfl (by rw [hg6_11]; rfl)) (fun w hok => x_load Try.underlying3 rfl (tmP rfl rfl) (cellB hok 0 rfl (getm (by omega)))) ?_
       refine rg_take 14 rfl rfl (by kernel_rfl) (by kernel_rfl) (by kernel_rfl) (want_y rfl rfl rfl rfl (by rw [hg6_11]; rfl)) (fun w hok => x_move (tmP rfl rfl)) ?_
       refine rg_take 15 rfl rfl (by kernel_rfl) (by kernel_rfl) (by kernel_rfl) (want_y rfl rfl rfl rfl (by rw [hg6_11]; rfl)) (fun w hok => x_nil (A := none) (tmP rfl rfl)) ?_
       refine rg_take 16 rfl rfl (by kernel_rfl) (by kernel_rfl) (by kernel_rfl) (want_y rfl rfl rfl rfl (by rw [hg6_11]; rfl)) (fun w hok => x_fa 0 Try.underlying27 rfl rfl ts_25 (tmP rfl rfl)) ?_
       first
        | refine rg_take 17 rfl rfl (by kernel_rfl) (by kernel_rfl) (by kernel_rfl) (want_y rfl rfl rfl rfl (by rw [hg6_11]; rfl)) (fun w hok => x_load Try.underlying25 rfl (tmP rfl rfl) (cellV hok 1 rfl rfl)) ?_
        | refine rg_take 17 rfl rfl (by kernel_rfl) (by kernel_rfl) (by kernel_rfl) (want_y rfl rfl rfl rfl (by rw [hg6_11]; rfl)) (fun w hok => x_load Try.underlying25 rfl (tmP rfl rfl) (cellV hok 1 rfl (getm (by omega)))) ?_
        | refine rg_take 17 rfl rfl (by kernel_rfl) (by kernel_rfl) (by kernel_rfl) (want_y rfl rfl rfl rfl (by rw [hg6_11]; rfl)) (fun w hok => x_load Try.underlying25 rfl (tmP rfl rfl) (cellVs hok 1 rfl (fun _ => rfl) rfl (by omega) rfl)) ?_
        | refine rg_take 17 rfl rfl (by kernel_rfl) (by kernel_rfl) (by kernel_rfl) (want_y rfl rfl rfl rfl (by rw [hg6_11]; rfl)) (fun w hok => x_load Try.underlying25 rfl (tmP rfl rfl) (cellV hok 2 rfl rfl)) ?_
        | refine rg_take 17 rfl rfl (by kernel_rfl) (by kernel_rfl) (by kernel_rfl) (want_y rfl rfl rfl rfl (by rw [hg6_11]; rfl)) (fun w hok => x_load Try.underlying25 rfl (tmP rfl rfl) (cellV hok 2 rfl (getm (by omega)))) ?_
        | refine rg_take 17 rfl rfl (by kernel_rfl) (by kernel_rfl) (by kernel_rfl) (want_y rfl rfl rfl rfl (by rw [hg6_11]; rfl)) (fun w hok => x_load Try.underlying25 rfl (tmP rfl rfl) (cellVs hok 2 rfl (fun _ => rfl) rfl (by omega) rfl)) ?_
        | refine rg_take 17 rfl rfl (by kernel_rfl) (by kernel_rfl) (by kernel_rfl) (want_y rfl rfl rfl rfl (by rw [hg6_11]; rfl)) (fun w hok => x_load Try.underlying25 rfl (tmP rfl rfl) (cellV hok 3 rfl rfl)) ?_
        | refine rg_take 17 rfl rfl (by kernel_rfl) (by kernel_rfl) (by kernel_rfl) (want_y rfl rfl rfl rfl (by rw [hg6_11]; rfl)) (fun w hok => x_load Try.underlying25 rfl (tmP rfl rfl) (cellV hok 3 rfl (getm (by omega)))) ?_
        | refine rg_take 17 rfl rfl (by kernel_rfl) (by kernel_rfl) (by kernel_rfl) (want_y rfl rfl rfl rfl (by rw [hg6_11]; rfl)) (fun w hok => x_load Try.underlying25 rfl (tmP rfl rfl) (cellVs hok 3 rfl (fun _ => rfl) rfl (by omega) rfl)) ?_
       refine rg_take 18 rfl rfl (by kernel_rfl) (by kernel_rfl) (by kernel_rfl) (want_y rfl rfl rfl rfl (by rw [hg6_11]; rfl)) (fun w hok => x_move (tmI rfl rfl)) ?_
       refine rg_take 19 rfl rfl (by kernel_rfl) (by kernel_rfl) (by kernel_rfl) (want_y rfl rfl rfl rfl (by rw [hg6_11]; rfl)) (fun w hok => x_ixs Try.underlying25 ts_66 (tmS rfl rfl) (tmI rfl rfl) (by omega)) ?_
       refine rg_take 20 rfl rfl (by kernel_rfl) (by kernel_rfl) (by kernel_rfl) (want_y rfl rfl rfl rfl (by rw [hg6_11]; rfl)) (fun w hok => x_fa 1 Try.underlying66 rfl rfl ts_3 (tmP rfl rfl)) ?_
       first
        | refine rg_take 21 rfl rfl (by kernel_rfl) (by kernel_rfl) (by kernel_rfl) (want_y rfl rfl rfl rfl (by rw [hg6_11]; rfl)) (fun w hok => x_load Try.underlying3 rfl (tmP rfl rfl) (cellV hok 1 rfl rfl)) ?_
        | refine rg_take 21 rfl rfl (by kernel_rfl) (by kernel_rfl) (by kernel_rfl) (want_y rfl rfl rfl rfl (by rw [hg6_11]; rfl)) (fun w hok => x_load Try.underlying3 rfl (tmP rfl rfl) (cellV hok 1 rfl (getm (by omega)))) ?_
        | refine rg_take 21 rfl rfl (by kernel_rfl) (by kernel_rfl) (by kernel_rfl) (want_y rfl rfl rfl rfl (by rw [hg6_11]; rfl)) (fun w hok => x_load Try.underlying3 rfl (tmP rfl rfl) (cellVs hok 1 rfl (fun _ => rfl) rfl (by omega) rfl)) ?_
        | refine rg_take 21 rfl rfl (by kernel_rfl) (by kernel_rfl) (by kernel_rfl) (want_y rfl rfl rfl rfl (by rw [hg6_11]; rfl)) (fun w hok => x_load Try.underlying3 rfl (tmP rfl rfl) (cellV hok 2 rfl rfl)) ?_
        | refine rg_take 21 rfl rfl (by kernel_rfl) (by kernel_rfl) (by kernel_rfl) (want_y rfl rfl rfl rfl (by rw [hg6_11]; rfl)) (fun w hok => x_load Try.underlying3 rfl (tmP rfl rfl) (cellV hok 2 rfl (getm (by omega)))) ?_
        | refine rg_take 21 rfl rfl (by kernel_rfl) (by kernel_rfl) (by kernel_rfl) (want_y rfl rfl rfl rfl (by rw [hg6_11]; rfl)) (fun w hok => x_load Try.underlying3 rfl (tmP rfl rfl) (cellVs hok 2 rfl (fun _ => rfl) rfl (by omega) rfl)) ?_
        | refine rg_take 21 rfl rfl (by kernel_rfl) (by kernel_rfl) (by kernel_rfl) (want_y rfl rfl rfl rfl (by rw [hg6_11]; rfl)) (fun w hok => x_load Try.underlying3 rfl (tmP rfl rfl) (cellV hok 3 rfl rfl)) ?_
        | refine rg_take 21 rfl rfl (by kernel_rfl) (by kernel_rfl) (by kernel_rfl) (want_y rfl rfl rfl rfl (by rw [hg6_11]; rfl)) (fun w hok => x_load Try.underlying3 rfl (tmP rfl rfl) (cellV hok 3 rfl (getm (by omega)))) ?_
        | refine rg_take 21 rfl rfl (by kernel_rfl) (by kernel_rfl) (by kernel_rfl) (want_y rfl rfl rfl rfl (by rw [hg6_11]; rfl)) (fun w hok => x_load Try.underlying3 rfl (tmP rfl rfl) (cellVs hok 3 rfl (fun _ => rfl) rfl (by omega) rfl)) ?_
       refine rg_take 22 rfl rfl (by kernel_rfl) (by kernel_rfl) (by kernel_rfl) (want_y rfl rfl rfl rfl (by rw [hg6_11]; rfl)) (fun w hok => x_neq (tmI rfl rfl) (tmI rfl rfl)) ?_
       refine rg_take 23 rfl rfl (by kernel_rfl) (by kernel_rfl) (by kernel_rfl) (want_0) (fun w hok => x_pickF (tmB rfl rfl) hg6_11 (tmB rfl rfl)) ?_
       refine rg_done (oks_drop hS 0 rfl) (by kernel_rfl) ?_
       refine then_n (hK11 _ _ ?_); clear hK11 K11
       refine cnd (tm rfl) (fun hc2 => ?_) (fun hc2 => ?_)
       · try (exfalso; first | with_reducible exact absurd hc2 Bool.false_ne_true | with_reducible exact absurd hc2.symm Bool.false_ne_true | (simp only [nrm] at hc2; omega) | (simp at hc2; done))
         all_goals
          try simp only [nrm] at hc2
          refine wp_seq_k ?_; intro K13 hK13
          refine wlit ?_
          refine wl_v (x_assign ev_c) ?_
          refine wl_nil ?_
          refine then_n (hK13 _ _ ?_); clear hK13 K13
          refine wp_ret ?_
          refine inb_r ?_
          refine then_r ?_
          refine then_r ?_
          refine inb_r ?_
          refine then_r ?_
          refine ret1 rfl (.tmp rfl (show _ = Value.bool _ from rfl)) ?_
          exact ⟨rfl, hS.kp⟩
       try (exfalso; first | with_reducible exact absurd hc2 Bool.false_ne_true | with_reducible exact absurd hc2.symm Bool.false_ne_true | (simp only [nrm] at hc2; omega) | (simp at hc2; done))
       all_goals
        try simp only [nrm] at hc2
        have hz1 : ∀ i, i < k + 1 → (l.getD i default).backend = (ks.getD i default).backend ∧ (l.getD i default).weight = (ks.getD i default).weight := by
          intro i hi
          by_cases hik : i = k
          · subst hik
            exact ⟨hg6_11', hc2⟩
          · exact hz i (by omega)
        refine wp_skip ?_
        refine inb_n ?_
        refine then_n (hK9 _ _ ?_); clear hK9 K9
        refine wlit ?_
        first
         | refine wl_v (x_addN (tmI rfl rfl) (ev_cN 1) (fit_i64 (by omega))) ?_
         | refine wl_v (x_addI (tmI rfl rfl) (ev_cN 1) (IntWalk.i64_in _ (by omega))) ?_
         | refine wl_v (x_add (tmI rfl rfl) (ev_cN 1)) ?_
        refine wl_v (x_move (tmI rfl rfl)) ?_
        refine wl_nil ?_
        exact then_n ⟨_, _, rfl, (by show _ < _; omega), (by repeat (first | exact agree_self | exact agree_refl | refine agree_upd rfl ?_ | refine agree_mix rfl ?_)), k + 1, rfl, (by first | rfl | go_num | exact congrArg (Value.int _) (by first | omega | (simp; done) | (simp; omega))), (hS.pick [1, 2, 3] rfl rfl), (by omega), (by first | (intro i hi; omega) | exact hz1)⟩
end Go.Proofs.Yteocdobepgbnkaa
