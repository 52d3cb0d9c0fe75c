
/- The program's Choose by all ways, by contract. Conditions: none but bounds. -/
import Derived.Test.YteocdobepgbnkaaPolicyH
namespace Go.Proofs.Yteocdobepgbnkaa
open Go.RowKit
namespace PolicyF
theorem i_pick_j (nx : Value) (gs : Nat) (Ka : Option Addr) (m ck : Nat) (ks : List Cr) (n : Nat) (A : Option Addr) (c : Nat) (l : List Cn) (F : List Nat) (w0 : World)
    (hS : St F w0 [.row (.slice Ka m ck) 66 3 m (flat crV ks), .blk gs 58 [nx, .slice Ka m ck], .vw A (flat cnV l)] w0)
    (hl : l.length = n) (hm : ks.length = m) (hn4 : n ≤ 1000) (hmild : Mild (startP (wfT l n) ks)) :
    Calls Try.prog 8 #[.pointer (some ⟨gs, 1, none⟩), .slice A n c] w0 fun e w' => ∃ K' m' ck',
      e = .returned (.tuple #[.agg (cnV (toldC (wfT l n) ks)).toArray, .bool (decide (0 < (wfT l n).length))]) ∧ (nextK (wfT l n) ks).length = m' ∧
      St F w0 [.row (.slice K' m' ck') 66 3 m' (flat crV (nextK (wfT l n) ks)), .blk gs 58 [nx, .slice K' m' ck'], .vw A (flat cnV l)] w' := by
  by_cases hq0 : 0 < (wfT l n).length
  · refine Calls.mono (i_pick_c nx gs Ka m ck ks n A c l F w0 hS hl hm hn4 hmild hq0) fun e w' h => ?_
    obtain ⟨K', ck', he, h2⟩ := h
    unfold toldC nextK
    rw [if_pos hq0, if_pos hq0, decide_eq_true hq0]
    exact ⟨K', _, ck', he, by rw [payP_len, start_len], h2⟩
  · refine Calls.mono (i_pick_none_c gs n A c l w0 (viewV hS.ok 2 rfl) hl hn4 (by omega)) fun e w' h => ?_
    obtain ⟨he, hk⟩ := h
    unfold toldC nextK
    rw [if_neg hq0, if_neg hq0, decide_eq_false hq0]
    exact ⟨Ka, m, ck, he, hm, hS.kept hk⟩
/-- Of nothing there is nothing to choose. -/
def Some2 (n : Nat) (y x : Cn) (ok : Bool) : Prop := (0 < n ∧ x = y ∧ ok = true) ∨ (n = 0 ∧ x = default ∧ ok = false)
def TurnP (l : List Cn) (n : Nat) (nx nx' : Int) (x : Cn) (ok : Bool) : Prop := (0 < n ∧ ok = true ∧ ∃ i, FirstFrom l n nx i ∧ x = l.getD i default ∧ nx' = (l.getD i default).slot + 1) ∨ (n = 0 ∧ x = default ∧ nx' = nx ∧ ok = false)
theorem turn_j (nx : Int) (y : Value) (F : List Nat) (gs : Nat) (n : Nat) (A : Option Addr) (c : Nat) (l : List Cn) (w0 : World) (hS : St F w0 [.blk gs 58 [.int .i64 nx, y], .vw A (flat cnV l)] w0) (hl : l.length = n) (hn4 : n ≤ 1000) (hR : RightT l n) :
    Calls Try.prog 28 #[.pointer (some ⟨gs, 0, none⟩), .slice A n c] w0 fun e w' => ∃ nx' x ok, e = .returned (.tuple #[.agg (cnV x).toArray, .bool ok]) ∧ TurnP l n nx nx' x ok ∧ St F w0 [.blk gs 58 [.int .i64 nx', y], .vw A (flat cnV l)] w' := by
  rcases Nat.eq_zero_or_pos n with h | h
  · subst h
    refine Calls.mono (turn0_c gs A c w0) fun e w' h => ?_
    exact ⟨nx, default, false, h.1, .inr ⟨rfl, rfl, rfl, rfl⟩, hS.kept h.2⟩
  · refine Calls.mono (turn_c nx y F gs n A c l w0 hS hl hn4 h hR) fun e w' g => ?_
    obtain ⟨i, hi, he, h2⟩ := g
    exact ⟨_, _, true, he, .inl ⟨h, rfl, i, hi, rfl, rfl⟩, h2⟩
theorem least_j (n : Nat) (A : Option Addr) (c : Nat) (l : List Cn) (w0 : World) (hv : View w0 w0.heap.size A (flat cnV l)) (hl : l.length = n) (hn4 : n ≤ 1000) :
    Calls Try.prog 26 #[.slice A n c] w0 fun e w' => ∃ x ok, e = .returned (.tuple #[.agg (cnV x).toArray, .bool ok]) ∧ Some2 n (bstC l n) x ok ∧ Kp [] w0 w' := by
  rcases Nat.eq_zero_or_pos n with h | h
  · subst h
    exact Calls.mono (least0_c A c w0) fun e w' h => ⟨_, _, h.1, .inr ⟨rfl, rfl, rfl⟩, h.2⟩
  · exact Calls.mono (least_pick_c n A c l w0 hv hl (by omega) h) fun e w' g => ⟨_, _, g.1, .inl ⟨h, rfl, rfl⟩, g.2⟩
theorem two_j (n : Nat) (A : Option Addr) (c : Nat) (l : List Cn) (a b : Nat) (w0 : World) (hv : View w0 w0.heap.size A (flat cnV l)) (hl : l.length = n) (hn4 : n ≤ 1000) (ha : a < 4294967296) (hb : b < 4294967296) :
    Calls Try.prog 27 #[.slice A n c, .int .u32 (a : Int), .int .u32 (b : Int)] w0 fun e w' => ∃ x ok, e = .returned (.tuple #[.agg (cnV x).toArray, .bool ok]) ∧ Some2 n (twoC l n a b) x ok ∧ Kp [] w0 w' := by
  rcases Nat.eq_zero_or_pos n with h | h
  · subst h
    exact Calls.mono (two0_c A c _ _ w0) fun e w' h => ⟨_, _, h.1, .inr ⟨rfl, rfl, rfl⟩, h.2⟩
  · exact Calls.mono (two_c n A c l a b w0 hv hl hn4 h ha hb) fun e w' g => ⟨_, _, g.1, .inl ⟨h, rfl, rfl⟩, g.2⟩
/-- What the program chooses, and what it remembers then. -/
def ChooseP (way : Int) (l : List Cn) (n a b : Nat) (nx : Int) (ks : List Cr) (nx' : Int) (ks' : List Cr) (x : Cn) (ok : Bool) : Prop :=
  (way = 1 ∧ ks' = ks ∧ TurnP l n nx nx' x ok) ∨
  (way = 2 ∧ nx' = nx ∧ ks' = nextK (wfT l n) ks ∧ x = toldC (wfT l n) ks ∧ ok = decide (0 < (wfT l n).length)) ∨
  (way = 3 ∧ nx' = nx ∧ ks' = ks ∧ Some2 n (bstC l n) x ok) ∨
  (way = 4 ∧ nx' = nx ∧ ks' = ks ∧ Some2 n (twoC l n a b) x ok) ∨
  ((way ≠ 1 ∧ way ≠ 2 ∧ way ≠ 3 ∧ way ≠ 4) ∧ nx' = nx ∧ ks' = ks ∧ x = default ∧ ok = false)
set_option maxRecDepth 100000 in
set_option maxHeartbeats 4000000 in
theorem choose_c (way : Int) (nx : Int) (gc : Nat) (Ka : Option Addr) (q ck : Nat) (ks : List Cr) (n : Nat) (A : Option Addr) (c : Nat) (l : List Cn) (a b : Nat) (F : List Nat) (w0 : World)
    (hS : St F w0 [.row (.slice Ka q ck) 66 3 q (flat crV ks), .blk gc 58 [.int .i64 nx, .slice Ka q ck], .vw A (flat cnV l)] w0)
    (hl : l.length = n) (hm : ks.length = q) (hn4 : n ≤ 1000) (hR : RightT l n) (hmild : Mild (startP (wfT l n) ks)) (ha : a < 4294967296) (hb : b < 4294967296) :
    Calls Try.prog 17 #[.pointer (some ⟨gc, 0, none⟩), .int .i64 way, .slice A n c, .int .u32 (a : Int), .int .u32 (b : Int)] w0 fun e w' => ∃ K' q' ck' nx' ks' x ok,
      e = .returned (.tuple #[.agg (cnV x).toArray, .bool ok]) ∧ ks'.length = q' ∧ ChooseP way l n a b nx ks nx' ks' x ok ∧
      St F w0 [.row (.slice K' q' ck') 66 3 q' (flat crV ks'), .blk gc 58 [.int .i64 nx', .slice K' q' ck'], .vw A (flat cnV l)] w' := by
  refine ent (n := 49) Try.func17 rfl rfl ?_
  refine wp_seq_k ?_; intro K1 hK1
  refine wlit ?_
  refine wl_e rfl ?_; intro K hK
  refine ow_alloc hS tz_33 rfl ?_
  clear hS; intro g0_0 w hg0_0 hS
  refine hK _ _ ?_; clear hK K
  refine wl_v (x_assign ev_c) ?_
  refine wl_nil ?_
  refine then_n (hK1 _ _ ?_); clear hK1 K1
  refine wp_seq_k ?_; intro K2 hK2
  refine wp_seq_k ?_; intro K3 hK3
  refine wlit ?_
  refine wl_v (x_move (tmP rfl rfl)) ?_
  first
   | refine wl_v (x_peql Try.underlying54 (tmP rfl rfl) ev_c) ?_
   | refine wl_v (x_peqln Try.underlying54 (tmP rfl rfl) ev_c) ?_
  refine wl_nil ?_
  refine then_n (hK3 _ _ ?_); clear hK3 K3
  refine cnd (tm rfl) (fun hc0 => ?_) (fun hc0 => ?_)
  · exfalso
    cases hc0
  try (exfalso; first | with_reducible exact absurd hc0 Bool.false_ne_true | with_reducible exact absurd hc0.symm Bool.false_ne_true | (simp only [nrm] at hc0; omega) | (simp at hc0; done))
  all_goals
   try simp only [nrm] at hc0
   refine wp_skip ?_
   refine then_n (hK2 _ _ ?_); clear hK2 K2
   refine wp_seq_k ?_; intro K4 hK4
   refine wp_seq_k ?_; intro K5 hK5
   refine wlit ?_
   refine wl_v (x_move (tmI rfl rfl)) ?_
   refine wl_nil ?_
   refine then_n (hK5 _ _ ?_); clear hK5 K5
   refine wp_block ?_
   refine wp_seq_k ?_; intro K6 hK6
   refine wlit ?_
   refine wl_v (x_eql (tmI rfl rfl) (ev_cN 1)) ?_
   refine wl_v (x_assign (tmB rfl rfl)) ?_
   refine wl_nil ?_
   refine then_n (hK6 _ _ ?_); clear hK6 K6
   refine cnd (tm rfl) (fun hc1 => ?_) (fun hc1 => ?_)
   · try (exfalso; first | with_reducible exact absurd hc1 Bool.false_ne_true | with_reducible exact absurd hc1.symm Bool.false_ne_true | (simp only [nrm] at hc1; omega) | (simp at hc1; done))
     all_goals
      try simp only [nrm] at hc1
      refine wp_seq_k ?_; intro K7 hK7
      refine wlit ?_
      refine wl_v (x_move (tmP rfl rfl)) ?_
      refine wl_v (x_nil (A := none) (tmP rfl rfl)) ?_
      refine wl_v (x_fa 0 Try.underlying58 rfl rfl ts_56 (tmP rfl rfl)) ?_
      refine wl_v (x_move (tmS rfl rfl)) ?_
      refine wl_e rfl ?_; intro K hK
      refine ow_call Try.func28 rfl rfl (evs_cons (tmP rfl rfl) <| evs_cons (tmS rfl rfl) <| evs_nil) (turn_j nx (.slice Ka q ck) _ gc n A c l _ (hS.enter [2] [3] rfl rfl) hl hn4 hR) ?_
      rintro e w ⟨nx', x, ok, rfl, hx, hS2⟩
      refine ⟨_, rfl, ?_⟩
      replace hS := hS.leave [2] [0, 1, 3] rfl rfl rfl (hS2.pick [0] rfl rfl) rfl -- --ents gc,g0_0,row,vw
      clear hS2
      try replace hS := St.nm (M' := [_, .blk _ _ [_, _, _, _], .row _ _ _ _ _, .vw _ _]) hS rfl
      refine hK _ _ ?_; clear hK K
      refine wl_v (x_ext (tmT rfl rfl) rfl) ?_
      refine wl_v (x_ext (tmT rfl rfl) rfl) ?_
      refine wl_e rfl ?_; intro K hK
      refine ow_storeA hS 1 rfl ts_33 (tmP rfl rfl) (tmA rfl rfl) rfl rfl rfl ?_
      clear hS; intro w hS
      try replace hS := St.nm (M' := [_, .blk _ _ [_, _, _, _], .row _ _ _ _ _, .vw _ _]) hS rfl
      refine hK _ _ ?_; clear hK K
      refine wl_v (x_assign (tmB rfl rfl)) ?_
      refine wl_nil ?_
      refine then_n (hK7 _ _ ?_); clear hK7 K7
      refine wp_ret ?_
      refine inb_r ?_
      refine then_r ?_
      refine ret2 rfl (.cell rfl rfl (load_rowB (cs := [_, _, _, _]) hS.ok 1 rfl Try.underlying33 rfl ts_33 rfl)) (.tmp rfl (show _ = Value.bool _ from rfl)) ?_
      first
        | exact ⟨_, _, _, _, ks, _, _, rfl, hm, .inl ⟨by simpa using hc1, rfl, hx⟩, hS.pick [2, 0, 3] rfl rfl⟩
        | exact ⟨_, _, _, _, _, _, _, rfl, hm2, .inr (.inl ⟨by simpa using hc2, rfl, rfl, rfl, rfl⟩), hS.pick [2, 0, 3] rfl rfl⟩
        | exact ⟨_, _, _, _, ks, _, _, rfl, hm, .inr (.inr (.inl ⟨by simpa using hc3, rfl, rfl, hx⟩)), hS.pick [2, 0, 3] rfl rfl⟩
        | exact ⟨_, _, _, _, ks, _, _, rfl, hm, .inr (.inr (.inr (.inl ⟨by simpa using hc4, rfl, rfl, hx⟩))), hS.pick [2, 0, 3] rfl rfl⟩
        | exact ⟨_, _, _, _, ks, default, _, rfl, hm, .inr (.inr (.inr (.inr ⟨⟨by simpa using hc1, by simpa using hc2, by simpa using hc3, by simpa using hc4⟩, rfl, rfl, rfl, rfl⟩))), hS.pick [2, 0, 3] rfl rfl⟩
   try (exfalso; first | with_reducible exact absurd hc1 Bool.false_ne_true | with_reducible exact absurd hc1.symm Bool.false_ne_true | (simp only [nrm] at hc1; omega) | (simp at hc1; done))
   all_goals
    try simp only [nrm] at hc1
    refine wp_seq_k ?_; intro K9 hK9
    refine wlit ?_
    refine wl_v (x_eql (tmI rfl rfl) (ev_cN 2)) ?_
    refine wl_v (x_assign (tmB rfl rfl)) ?_
    refine wl_nil ?_
    refine then_n (hK9 _ _ ?_); clear hK9 K9
    refine cnd (tm rfl) (fun hc2 => ?_) (fun hc2 => ?_)
    · try (exfalso; first | with_reducible exact absurd hc2 Bool.false_ne_true | with_reducible exact absurd hc2.symm Bool.false_ne_true | (simp only [nrm] at hc2; omega) | (simp at hc2; done))
      all_goals
       try simp only [nrm] at hc2
       refine wp_seq_k ?_; intro K10 hK10
       refine wlit ?_
       refine wl_v (x_move (tmP rfl rfl)) ?_
       refine wl_v (x_nil (A := none) (tmP rfl rfl)) ?_
       refine wl_v (x_fa 1 Try.underlying58 rfl rfl ts_27 (tmP rfl rfl)) ?_
       refine wl_v (x_move (tmS rfl rfl)) ?_
       refine wl_e rfl ?_; intro K hK
       refine ow_call Try.func8 rfl rfl (evs_cons (tmP rfl rfl) <| evs_cons (tmS rfl rfl) <| evs_nil) (i_pick_j _ gc Ka q ck ks n A c l _ _ (hS.enter [1, 2] [3] rfl rfl) hl hm hn4 hmild) ?_
       rintro e w ⟨K2, m2, k2, rfl, hm2, hS2⟩
       refine ⟨_, rfl, ?_⟩
       replace hS := hS.leave [1, 2] [0, 3] rfl rfl rfl (hS2.pick [0, 1] rfl rfl) rfl -- --ents row,gc,g0_0,vw
       clear hS2
       try replace hS := St.nm (M' := [.row _ _ _ _ _, _, .blk _ _ [_, _, _, _], .vw _ _]) hS rfl
       refine hK _ _ ?_; clear hK K
       refine wl_v (x_ext (tmT rfl rfl) rfl) ?_
       refine wl_v (x_ext (tmT rfl rfl) rfl) ?_
       refine wl_e rfl ?_; intro K hK
       refine ow_storeA hS 2 rfl ts_33 (tmP rfl rfl) (tmA rfl rfl) rfl rfl rfl ?_
       clear hS; intro w hS
       try replace hS := St.nm (M' := [.row _ _ _ _ _, _, .blk _ _ [_, _, _, _], .vw _ _]) hS rfl
       refine hK _ _ ?_; clear hK K
       refine wl_v (x_assign (tmB rfl rfl)) ?_
       refine wl_nil ?_
       refine then_n (hK10 _ _ ?_); clear hK10 K10
       refine wp_ret ?_
       refine inb_r ?_
       refine then_r ?_
       refine ret2 rfl (.cell rfl rfl (load_rowB (cs := [_, _, _, _]) hS.ok 2 rfl Try.underlying33 rfl ts_33 rfl)) (.tmp rfl (show _ = Value.bool _ from rfl)) ?_
       first
         | exact ⟨_, _, _, _, ks, _, _, rfl, hm, .inl ⟨by simpa using hc1, rfl, hx⟩, hS.pick [0, 1, 3] rfl rfl⟩
         | exact ⟨_, _, _, _, _, _, _, rfl, hm2, .inr (.inl ⟨by simpa using hc2, rfl, rfl, rfl, rfl⟩), hS.pick [0, 1, 3] rfl rfl⟩
         | exact ⟨_, _, _, _, ks, _, _, rfl, hm, .inr (.inr (.inl ⟨by simpa using hc3, rfl, rfl, hx⟩)), hS.pick [0, 1, 3] rfl rfl⟩
         | exact ⟨_, _, _, _, ks, _, _, rfl, hm, .inr (.inr (.inr (.inl ⟨by simpa using hc4, rfl, rfl, hx⟩))), hS.pick [0, 1, 3] rfl rfl⟩
         | exact ⟨_, _, _, _, ks, default, _, rfl, hm, .inr (.inr (.inr (.inr ⟨⟨by simpa using hc1, by simpa using hc2, by simpa using hc3, by simpa using hc4⟩, rfl, rfl, rfl, rfl⟩))), hS.pick [0, 1, 3] rfl rfl⟩
    try (exfalso; first | with_reducible exact absurd hc2 Bool.false_ne_true | with_reducible exact absurd hc2.symm Bool.false_ne_true | (simp only [nrm] at hc2; omega) | (simp at hc2; done))
    all_goals
     try simp only [nrm] at hc2
     refine wp_seq_k ?_; intro K12 hK12
     refine wlit ?_
     refine wl_v (x_eql (tmI rfl rfl) (ev_cN 3)) ?_
     refine wl_v (x_assign (tmB rfl rfl)) ?_
     refine wl_nil ?_
     refine then_n (hK12 _ _ ?_); clear hK12 K12
     refine cnd (tm rfl) (fun hc3 => ?_) (fun hc3 => ?_)
     · try (exfalso; first | with_reducible exact absurd hc3 Bool.false_ne_true | with_reducible exact absurd hc3.symm Bool.false_ne_true | (simp only [nrm] at hc3; omega) | (simp at hc3; done))
       all_goals
        try simp only [nrm] at hc3
        refine wp_seq_k ?_; intro K13 hK13
        refine wlit ?_
        refine wl_v (x_move (tmS rfl rfl)) ?_
        refine wl_e rfl ?_; intro K hK
        refine ow_call Try.func26 rfl rfl (evs_cons (tmS rfl rfl) <| evs_nil) (least_j n A c l _ (viewV hS.ok 3 rfl) hl hn4) ?_
        rintro e w ⟨x, ok, rfl, hx, hk⟩
        refine ⟨_, rfl, ?_⟩
        replace hS := hS.kept hk
        clear hk
        refine hK _ _ ?_; clear hK K
        refine wl_v (x_ext (tmT rfl rfl) rfl) ?_
        refine wl_v (x_ext (tmT rfl rfl) rfl) ?_
        refine wl_e rfl ?_; intro K hK
        refine ow_storeA hS 0 rfl ts_33 (tmP rfl rfl) (tmA rfl rfl) rfl rfl rfl ?_
        clear hS; intro w hS
        try replace hS := St.nm (M' := [.blk _ _ [_, _, _, _], .row _ _ _ _ _, _, .vw _ _]) hS rfl
        refine hK _ _ ?_; clear hK K
        refine wl_v (x_assign (tmB rfl rfl)) ?_
        refine wl_nil ?_
        refine then_n (hK13 _ _ ?_); clear hK13 K13
        refine wp_ret ?_
        refine inb_r ?_
        refine then_r ?_
        refine ret2 rfl (.cell rfl rfl (load_rowB (cs := [_, _, _, _]) hS.ok 0 rfl Try.underlying33 rfl ts_33 rfl)) (.tmp rfl (show _ = Value.bool _ from rfl)) ?_
        first
          | exact ⟨_, _, _, _, ks, _, _, rfl, hm, .inl ⟨by simpa using hc1, rfl, hx⟩, hS.pick [1, 2, 3] rfl rfl⟩
          | exact ⟨_, _, _, _, _, _, _, rfl, hm2, .inr (.inl ⟨by simpa using hc2, rfl, rfl, rfl, rfl⟩), hS.pick [1, 2, 3] rfl rfl⟩
          | exact ⟨_, _, _, _, ks, _, _, rfl, hm, .inr (.inr (.inl ⟨by simpa using hc3, rfl, rfl, hx⟩)), hS.pick [1, 2, 3] rfl rfl⟩
          | exact ⟨_, _, _, _, ks, _, _, rfl, hm, .inr (.inr (.inr (.inl ⟨by simpa using hc4, rfl, rfl, hx⟩))), hS.pick [1, 2, 3] rfl rfl⟩
          | exact ⟨_, _, _, _, ks, default, _, rfl, hm, .inr (.inr (.inr (.inr ⟨⟨by simpa using hc1, by simpa using hc2, by simpa using hc3, by simpa using hc4⟩, rfl, rfl, rfl, rfl⟩))), hS.pick [1, 2, 3] rfl rfl⟩
     try (exfalso; first | with_reducible exact absurd hc3 Bool.false_ne_true | with_reducible exact absurd hc3.symm Bool.false_ne_true | (simp only [nrm] at hc3; omega) | (simp at hc3; done))
     all_goals
      try simp only [nrm] at hc3
      refine wp_seq_k ?_; intro K15 hK15
      refine wlit ?_
      refine wl_v (x_eql (tmI rfl rfl) (ev_cN 4)) ?_
      refine wl_v (x_assign (tmB rfl rfl)) ?_
      refine wl_nil ?_
      refine then_n (hK15 _ _ ?_); clear hK15 K15
      refine cnd (tm rfl) (fun hc4 => ?_) (fun hc4 => ?_)
      · try (exfalso; first | with_reducible exact absurd hc4 Bool.false_ne_true | with_reducible exact absurd hc4.symm Bool.false_ne_true | (simp only [nrm] at hc4; omega) | (simp at hc4; done))
        all_goals
         try simp only [nrm] at hc4
         refine wp_seq_k ?_; intro K16 hK16
         refine wlit ?_
         refine wl_v (x_move (tmS rfl rfl)) ?_
         refine wl_v (x_move (tmI rfl rfl)) ?_
         refine wl_v (x_move (tmI rfl rfl)) ?_
         refine wl_e rfl ?_; intro K hK
         refine ow_call Try.func27 rfl rfl (evs_cons (tmS rfl rfl) <| evs_cons (tmI rfl rfl) <| evs_cons (tmI rfl rfl) <| evs_nil) (two_j n A c l a b _ (viewV hS.ok 3 rfl) hl hn4 ha hb) ?_
         rintro e w ⟨x, ok, rfl, hx, hk⟩
         refine ⟨_, rfl, ?_⟩
         replace hS := hS.kept hk
         clear hk
         refine hK _ _ ?_; clear hK K
         refine wl_v (x_ext (tmT rfl rfl) rfl) ?_
         refine wl_v (x_ext (tmT rfl rfl) rfl) ?_
         refine wl_e rfl ?_; intro K hK
         refine ow_storeA hS 0 rfl ts_33 (tmP rfl rfl) (tmA rfl rfl) rfl rfl rfl ?_
         clear hS; intro w hS
         try replace hS := St.nm (M' := [.blk _ _ [_, _, _, _], .row _ _ _ _ _, _, .vw _ _]) hS rfl
         refine hK _ _ ?_; clear hK K
         refine wl_v (x_assign (tmB rfl rfl)) ?_
         refine wl_nil ?_
         refine then_n (hK16 _ _ ?_); clear hK16 K16
         refine wp_ret ?_
         refine inb_r ?_
         refine then_r ?_
         refine ret2 rfl (.cell rfl rfl (load_rowB (cs := [_, _, _, _]) hS.ok 0 rfl Try.underlying33 rfl ts_33 rfl)) (.tmp rfl (show _ = Value.bool _ from rfl)) ?_
         first
           | exact ⟨_, _, _, _, ks, _, _, rfl, hm, .inl ⟨by simpa using hc1, rfl, hx⟩, hS.pick [1, 2, 3] rfl rfl⟩
           | exact ⟨_, _, _, _, _, _, _, rfl, hm2, .inr (.inl ⟨by simpa using hc2, rfl, rfl, rfl, rfl⟩), hS.pick [1, 2, 3] rfl rfl⟩
           | exact ⟨_, _, _, _, ks, _, _, rfl, hm, .inr (.inr (.inl ⟨by simpa using hc3, rfl, rfl, hx⟩)), hS.pick [1, 2, 3] rfl rfl⟩
           | exact ⟨_, _, _, _, ks, _, _, rfl, hm, .inr (.inr (.inr (.inl ⟨by simpa using hc4, rfl, rfl, hx⟩))), hS.pick [1, 2, 3] rfl rfl⟩
           | exact ⟨_, _, _, _, ks, default, _, rfl, hm, .inr (.inr (.inr (.inr ⟨⟨by simpa using hc1, by simpa using hc2, by simpa using hc3, by simpa using hc4⟩, rfl, rfl, rfl, rfl⟩))), hS.pick [1, 2, 3] rfl rfl⟩
      try (exfalso; first | with_reducible exact absurd hc4 Bool.false_ne_true | with_reducible exact absurd hc4.symm Bool.false_ne_true | (simp only [nrm] at hc4; omega) | (simp at hc4; done))
      all_goals
       try simp only [nrm] at hc4
       refine wp_skip ?_
       refine inb_n ?_
       refine then_n (hK4 _ _ ?_); clear hK4 K4
       refine wp_seq_k ?_; intro K18 hK18
       refine wlit ?_
       refine wl_v (x_build (bc_skip (.int .i64 0) <| bc_skip (.int .i64 0) <| bc_skip (.int .i64 0) <| bc_skip (.int .u32 0) <| bc_nil) (by kernel_rfl)) ?_
       refine wl_e rfl ?_; intro K hK
       refine ow_storeA hS 0 rfl ts_33 (tmP rfl rfl) (tmA rfl rfl) rfl rfl rfl ?_
       clear hS; intro w hS
       try replace hS := St.nm (M' := [.blk _ _ [_, _, _, _], .row _ _ _ _ _, _, .vw _ _]) hS rfl
       refine hK _ _ ?_; clear hK K
       refine wl_v (x_assign ev_c) ?_
       refine wl_nil ?_
       refine then_n (hK18 _ _ ?_); clear hK18 K18
       refine wp_ret ?_
       refine ret2 rfl (.cell rfl rfl (load_rowB (cs := [_, _, _, _]) hS.ok 0 rfl Try.underlying33 rfl ts_33 rfl)) (.tmp rfl (show _ = Value.bool _ from rfl)) ?_
       first
         | exact ⟨_, _, _, _, ks, _, _, rfl, hm, .inl ⟨by simpa using hc1, rfl, hx⟩, hS.pick [1, 2, 3] rfl rfl⟩
         | exact ⟨_, _, _, _, _, _, _, rfl, hm2, .inr (.inl ⟨by simpa using hc2, rfl, rfl, rfl, rfl⟩), hS.pick [1, 2, 3] rfl rfl⟩
         | exact ⟨_, _, _, _, ks, _, _, rfl, hm, .inr (.inr (.inl ⟨by simpa using hc3, rfl, rfl, hx⟩)), hS.pick [1, 2, 3] rfl rfl⟩
         | exact ⟨_, _, _, _, ks, _, _, rfl, hm, .inr (.inr (.inr (.inl ⟨by simpa using hc4, rfl, rfl, hx⟩))), hS.pick [1, 2, 3] rfl rfl⟩
         | exact ⟨_, _, _, _, ks, default, _, rfl, hm, .inr (.inr (.inr (.inr ⟨⟨by simpa using hc1, by simpa using hc2, by simpa using hc3, by simpa using hc4⟩, rfl, rfl, rfl, rfl⟩))), hS.pick [1, 2, 3] rfl rfl⟩
set_option maxRecDepth 100000 in
set_option maxHeartbeats 4000000 in
theorem choose_nil_c (way a b : Int) (v : Value) (w0 : World) :
    Calls Try.prog 17 #[.pointer none, .int .i64 way, v, .int .u32 a, .int .u32 b] w0 fun e w' => e = .returned (.tuple #[.agg (cnV default).toArray, .bool false]) ∧ Kp [] w0 w' := by
  have hS := St.sv w0
  refine ent (n := 49) Try.func17 rfl rfl ?_
  refine wp_seq_k ?_; intro K1 hK1
  refine wlit ?_
  refine wl_e rfl ?_; intro K hK
  refine ow_alloc hS tz_33 rfl ?_
  clear hS; intro g0_0 w hg0_0 hS
  refine hK _ _ ?_; clear hK K
  refine wl_v (x_assign ev_c) ?_
  refine wl_nil ?_
  refine then_n (hK1 _ _ ?_); clear hK1 K1
  refine wp_seq_k ?_; intro K2 hK2
  refine wp_seq_k ?_; intro K3 hK3
  refine wlit ?_
  refine wl_v (x_move (tmP rfl rfl)) ?_
  first
   | refine wl_v (x_peql Try.underlying54 (tmP rfl rfl) ev_c) ?_
   | refine wl_v (x_peqln Try.underlying54 (tmP rfl rfl) ev_c) ?_
  refine wl_nil ?_
  refine then_n (hK3 _ _ ?_); clear hK3 K3
  refine cnds (tm rfl) (fun hc0 => ?_) (fun hc0 => ?_)
  · exfalso
    cases hc0
  try (exfalso; first | with_reducible exact absurd hc0 Bool.false_ne_true | with_reducible exact absurd hc0.symm Bool.false_ne_true | (simp only [nrm] at hc0; omega) | (simp at hc0; done))
  all_goals
   try simp only [nrm] at hc0
   refine wp_seq_k ?_; intro K4 hK4
   refine wlit ?_
   refine wl_v (x_build (bc_skip (.int .i64 0) <| bc_skip (.int .i64 0) <| bc_skip (.int .i64 0) <| bc_skip (.int .u32 0) <| bc_nil) (by kernel_rfl)) ?_
   refine wl_e rfl ?_; intro K hK
   refine ow_storeA hS 0 rfl ts_33 (tmP rfl rfl) (tmA rfl rfl) rfl rfl rfl ?_
   clear hS; intro w hS
   try replace hS := St.nm (M' := [.blk _ _ [_, _, _, _], _]) hS rfl
   refine hK _ _ ?_; clear hK K
   refine wl_v (x_assign ev_c) ?_
   refine wl_nil ?_
   refine then_n (hK4 _ _ ?_); clear hK4 K4
   refine wp_ret ?_
   refine then_r ?_
   refine ret2 rfl (.cell rfl rfl (load_rowB (cs := [_, _, _, _]) hS.ok 0 rfl Try.underlying33 rfl ts_33 rfl)) (.tmp rfl (show _ = Value.bool _ from rfl)) ?_
   exact ⟨rfl, hS.kp⟩
end PolicyF
end Go.Proofs.Yteocdobepgbnkaa
