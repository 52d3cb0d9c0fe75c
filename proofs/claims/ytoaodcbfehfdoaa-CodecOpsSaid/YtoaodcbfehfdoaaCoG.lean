
/- codec: what is read, by the program. Conditions: none but bounds. -/
import Derived.Test.YtoaodcbfehfdoaaCoF
namespace Go.Proofs.Ytoaodcbfehfdoaa
open Go.ChangeShapes Go.WideShapes Go.ChangeAt Go.RowKit
def adGood (x : List Nat) : Prop := x.length = 4 ∨ x.length = 16
instance (x : List Nat) : Decidable (adGood x) := by unfold adGood; exact inferInstance
def adOf (x : List Nat) : Ad := if x.length = 4 then ⟨false, 0, numBE x⟩ else ⟨true, getN x 0 8, getN x 8 8⟩
theorem adOf_lim {x : List Nat} (hb : Bytes x) (h : adGood x) : adLim (adOf x) := by
  unfold adOf
  split
  · next h4 =>
    have h9 : numBE x < 256 ^ 4 := by rw [← h4]; exact numBE_lt' hb
    exact ⟨Nat.zero_le _, Nat.le_trans (Nat.le_of_lt h9) (by decide)⟩
  · have h1 := getN_lt hb 0 8
    have h2 := getN_lt hb 8 8
    exact ⟨by show getN x 0 8 ≤ _; omega, by show getN x 8 8 ≤ _; omega⟩
set_option maxRecDepth 100000 in
set_option maxHeartbeats 4000000 in
theorem ad_of_no_c (n : Nat) (A : Option Addr) (c : Nat) (l : List Nat) (w0 : World) (hv : View w0 w0.heap.size A (l.map u8v)) (hl : l.length = n) (hn : n ≤ 1000) (hno : ¬ adGood l) :
    Calls Try.prog 36 #[.slice A n c] w0 fun e w' => e = .returned (.tuple #[.agg (Ad.V ⟨false, 0, 0⟩).toArray, .int .i64 20]) ∧ Kp [] w0 w' := by
  unfold adGood at hno
  have hS := (St.sv w0).vcons rfl hv
  refine ent (n := 24) Try.func36 rfl rfl ?_
  refine wp_seq_k ?_; intro K1 hK1
  refine wlit ?_
  refine wl_e rfl ?_; intro K hK
  refine ow_alloc hS tz_24 rfl ?_
  clear hS; intro g0_0 w hg0_0 hS
  refine hK _ _ ?_; clear hK K
  refine wl_v (x_assign (ev_cN 0)) ?_
  refine wl_nil ?_
  refine then_n (hK1 _ _ ?_); clear hK1 K1
  refine wp_seq_k ?_; intro K2 hK2
  refine wlit ?_
  refine wl_v (x_move (tmS rfl rfl)) ?_
  refine wl_e rfl ?_; intro K hK
  refine ow_call Try.func14 rfl rfl (evs_cons (tmS rfl rfl) <| evs_nil) (read_c n A c l _ (viewV hS.ok 1 rfl) hl (by omega)) ?_
  rintro e w ⟨gr, A0, rfl, hS2⟩
  refine ⟨_, rfl, ?_⟩
  replace hS := hS.leave [] [0] rfl rfl rfl hS2 rfl --ents gr,row0,g0_0
  clear hS2
  try replace hS := St.nm (M' := [_, .row _ _ _ _ _, .blk _ _ [_, _, _]]) hS rfl
  refine hK _ _ ?_; clear hK K
  refine wl_v (x_assign (tmP rfl rfl)) ?_
  refine wl_nil ?_
  refine then_n (hK2 _ _ ?_); clear hK2 K2
  refine wp_seq_k ?_; intro K3 hK3
  refine wp_seq_k ?_; intro K4 hK4
  refine wlit ?_
  refine wl_v (x_move (tmS rfl rfl)) ?_
  refine wl_v (x_len Try.underlying29 (tmS rfl rfl)) ?_
  refine wl_nil ?_
  refine then_n (hK4 _ _ ?_); clear hK4 K4
  refine wp_block ?_
  refine wp_seq_k ?_; intro K5 hK5
  refine wlit ?_
  refine wl_v (x_eql (tmI rfl rfl) (ev_cN 4)) ?_
  refine wl_v (x_assign (tmB rfl rfl)) ?_
  refine wl_nil ?_
  refine then_n (hK5 _ _ ?_); clear hK5 K5
  refine cnd (tm rfl) (fun hc0 => ?_) (fun hc0 => ?_)
  · exfalso
    simp only [nrm] at hc0
    omega
  try (exfalso; first | with_reducible exact absurd hc0 Bool.false_ne_true | with_reducible exact absurd hc0.symm Bool.false_ne_true | (simp only [nrm] at hc0; omega) | (simp at hc0; done))
  all_goals
   try simp only [nrm] at hc0
   refine wp_seq_k ?_; intro K6 hK6
   refine wlit ?_
   refine wl_v (x_eql (tmI rfl rfl) (ev_cN 16)) ?_
   refine wl_v (x_assign (tmB rfl rfl)) ?_
   refine wl_nil ?_
   refine then_n (hK6 _ _ ?_); clear hK6 K6
   refine cnd (tm rfl) (fun hc1 => ?_) (fun hc1 => ?_)
   · exfalso
     simp only [nrm] at hc1
     omega
   try (exfalso; first | with_reducible exact absurd hc1 Bool.false_ne_true | with_reducible exact absurd hc1.symm Bool.false_ne_true | (simp only [nrm] at hc1; omega) | (simp at hc1; done))
   all_goals
    try simp only [nrm] at hc1
    refine wp_skip ?_
    refine inb_n ?_
    refine then_n (hK3 _ _ ?_); clear hK3 K3
    refine wp_seq_k ?_; intro K7 hK7
    refine wlit ?_
    refine wl_v (x_build (bc_skip (.bool false) <| bc_skip (.int .u64 0) <| bc_skip (.int .u64 0) <| bc_nil) (by kernel_rfl)) ?_
    refine wl_e rfl ?_; intro K hK
    refine ow_storeA hS 2 rfl ts_24 (tmP rfl rfl) (tmA rfl rfl) rfl rfl rfl ?_
    clear hS; intro w hS
    try replace hS := St.nm (M' := [_, .row _ _ _ _ _, .blk _ _ [_, _, _]]) hS rfl
    refine hK _ _ ?_; clear hK K
    refine wl_v (x_assign (ev_cN 20)) ?_
    refine wl_nil ?_
    refine then_n (hK7 _ _ ?_); clear hK7 K7
    refine wp_ret ?_
    refine ret2 rfl (.cell rfl rfl (load_rowB (cs := [_, _, _]) hS.ok 2 rfl Try.underlying24 rfl ts_24 rfl)) (.tmp rfl (show _ = Value.int _ _ from rfl)) ?_
    exact ⟨rfl, hS.kp⟩
theorem ad_of_c (n : Nat) (A : Option Addr) (c : Nat) (l : List Nat) (w0 : World) (hv : View w0 w0.heap.size A (l.map u8v)) (hl : l.length = n) (hn : n ≤ 1000) (hb : Bytes l) :
    Calls Try.prog 36 #[.slice A n c] w0 fun e w' => ∃ a er, e = .returned (.tuple #[.agg a.V.toArray, .int .i64 er]) ∧ (adGood l → a = adOf l ∧ er = 0) ∧ (¬ adGood l → er = 20) ∧ Kp [] w0 w' := by
  by_cases h4 : l.length = 4
  · obtain rfl : n = 4 := by omega
    refine Calls.mono (ad_of4_c A c l w0 hv h4 hb) ?_
    rintro e w' ⟨rfl, hk⟩
    exact ⟨_, 0, rfl, fun _ => ⟨by unfold adOf; rw [if_pos h4], rfl⟩, fun h => absurd (.inl h4) h, hk⟩
  · by_cases h16 : l.length = 16
    · obtain rfl : n = 16 := by omega
      refine Calls.mono (ad_of16_c A c l w0 hv h16 hb) ?_
      rintro e w' ⟨rfl, hk⟩
      exact ⟨_, 0, rfl, fun _ => ⟨by unfold adOf; rw [if_neg h4], rfl⟩, fun h => absurd (.inr h16) h, hk⟩
    · have hno : ¬ adGood l := fun h => by rcases h with h | h; exact h4 h; exact h16 h
      refine Calls.mono (ad_of_no_c n A c l w0 hv hl hn hno) ?_
      rintro e w' ⟨rfl, hk⟩
      exact ⟨_, 20, rfl, fun h => absurd h hno, fun _ => rfl, hk⟩
/-- The bytes of an address at a place, and the place behind them. -/
def qx (l : List Nat) (n : Nat) (q : Option Nat) : List Nat := rdB l n (rdN l n 1 q) (adv n 1 q)
def qa (l : List Nat) (n : Nat) (q : Option Nat) : Option Nat := adv n (rdN l n 1 q) (adv n 1 q)
theorem qx_len {l : List Nat} {n : Nat} (hl : l.length = n) (hb : Bytes l) (q : Option Nat) : (qx l n q).length ≤ 255 := by
  have h1 := rdB_len (k := rdN l n 1 q) hl (adv n 1 q)
  have h2 := rdN_lt (n := n) (k := 1) hb q
  unfold qx
  omega
set_option maxRecDepth 100000 in
set_option maxHeartbeats 8000000 in
theorem taddr_c (gr : Nat) (A0 A : Option Addr) (q : Option Nat) (n m c : Nat) (l : List Nat) (bad : Bool) (F : List Nat) (w0 : World)
    (hS : St F w0 [.blk gr 79 (rdV A m c bad), .vw A0 (l.map u8v)] w0) (hR : RdO A0 n q A m c bad) (hl : l.length = n) (hb : Bytes l) :
    Calls Try.prog 16 #[.pointer (some ⟨gr, 0, none⟩)] w0 fun e w' => ∃ a ok A' m' c' bad', e = .returned (.tuple #[.agg a.V.toArray, .bool ok]) ∧ (adGood (qx l n q) → a = adOf (qx l n q)) ∧ (ok = true ↔ adGood (qx l n q)) ∧
      St F w0 [.blk gr 79 (rdV A' m' c' bad')] w' ∧ RdO A0 n (qa l n q) A' m' c' bad' := by
  refine ent (n := 18) Try.func16 rfl rfl ?_
  refine wp_seq_k ?_; intro K1 hK1
  refine wlit ?_
  refine wl_e rfl ?_; intro K hK
  refine ow_alloc hS tz_24 rfl ?_
  clear hS; intro g0_0 w hg0_0 hS
  refine hK _ _ ?_; clear hK K
  refine wl_v (x_assign ev_c) ?_
  refine wl_nil ?_
  refine then_n (hK1 _ _ ?_); clear hK1 K1
  refine wp_seq_k ?_; intro K2 hK2
  refine wlit ?_
  refine wl_v (x_move (tmP rfl rfl)) ?_
  refine wl_v (x_move (tmP rfl rfl)) ?_
  refine wl_e rfl ?_; intro K hK
  refine ow_call Try.func15 rfl rfl (evs_cons (tmP rfl rfl) <| evs_nil) (byteT_c gr A0 A q n m c l bad _ _ (hS.enter [1] [2] rfl rfl) hR hl hb) ?_
  rintro e w ⟨A1, m1, c1, b1, rfl, hS2, hR1⟩
  refine ⟨_, rfl, ?_⟩
  replace hS := hS.leave [1] [2, 0] rfl rfl rfl hS2 rfl --ents gr,va,g0_0
  clear hS2
  have hsb : rdN l n 1 q < 256 := rdN_lt hb _
  try replace hS := St.nm (M' := [_, .vw _ _, .blk _ _ [_, _, _]]) hS rfl
  refine hK _ _ ?_; clear hK K
  first
   | refine wl_v (x_convN Try.underlying5 Try.underlying3 (tmI rfl rfl) (fit_i64 (by omega))) ?_
   | refine wl_v (x_conv Try.underlying5 Try.underlying3 (tmI rfl rfl)) ?_
  refine wl_e rfl ?_; intro K hK
  refine ow_call Try.func37 rfl rfl (evs_cons (tmP rfl rfl) <| evs_cons (tmI rfl rfl) <| evs_nil) (bytesT_c gr A0 A1 (adv n 1 q) (rdN l n 1 q) n m1 c1 l b1 _ _ (hS.enter [0] [1] rfl rfl) hR1 hl) ?_
  rintro e w ⟨B, nb, A2, m2, c2, b2, hnB, rfl, hsB, hS2, hR2⟩
  refine ⟨_, rfl, ?_⟩
  replace hS := hS.leave [0] [1, 2] rfl rfl rfl hS2 rfl --ents gr,va,g0_0
  clear hS2
  replace hS := hS.subb 1 rfl hsB -- +vx
  subst hnB
  try replace hS := St.nm (M' := [.vw _ _, _, .vw _ _, .blk _ _ [_, _, _]]) hS rfl
  refine hK _ _ ?_; clear hK K
  refine wl_e rfl ?_; intro K hK
  refine ow_call Try.func36 rfl rfl (evs_cons (tmS rfl rfl) <| evs_nil) (ad_of_c _ B _ (qx l n q) _ (viewV hS.ok 0 rfl) rfl (Nat.le_trans (qx_len hl hb q) (by decide)) (rdB_bytes hb _)) ?_
  rintro e w ⟨a, er, rfl, hg, hng, hk⟩
  refine ⟨_, rfl, ?_⟩
  replace hS := hS.kept hk
  clear hk
  refine hK _ _ ?_; clear hK K
  refine wl_v (x_move (tmT rfl rfl)) ?_
  refine wl_v (x_ext (tmT rfl rfl) rfl) ?_
  refine wl_v (x_ext (tmT rfl rfl) rfl) ?_
  refine wl_e rfl ?_; intro K hK
  refine ow_alloc hS tz_24 rfl ?_
  clear hS; intro g1_9 w hg1_9 hS
  refine hK _ _ ?_; clear hK K
  refine wl_e rfl ?_; intro K hK
  refine ow_storeA hS 0 rfl ts_24 (tmP rfl rfl) (tmA rfl rfl) rfl rfl rfl ?_
  clear hS; intro w hS
  try replace hS := St.nm (M' := [.blk _ _ [_, _, _], .vw _ _, _, .vw _ _, .blk _ _ [_, _, _]]) hS rfl
  refine hK _ _ ?_; clear hK K
  refine wl_v (x_assign (tmI rfl rfl)) ?_
  refine wl_nil ?_
  refine then_n (hK2 _ _ ?_); clear hK2 K2
  refine wp_seq_k ?_; intro K3 hK3
  refine wlit ?_
  refine wl_v (x_loadA (cs := [_, _, _]) Try.underlying24 rfl ts_24 (tmP rfl rfl) (rangeB hS.ok 0 rfl rfl)) ?_
  refine wl_v (x_move (tmI rfl rfl)) ?_
  refine wl_v (x_eql (tmI rfl rfl) (ev_cN 0)) ?_
  refine wl_e rfl ?_; intro K hK
  refine ow_storeA hS 4 rfl ts_24 (tmP rfl rfl) (tmA rfl rfl) rfl rfl rfl ?_
  clear hS; intro w hS
  try replace hS := St.nm (M' := [.blk _ _ [_, _, _], .vw _ _, _, .vw _ _, .blk _ _ [_, _, _]]) hS rfl
  refine hK _ _ ?_; clear hK K
  refine wl_v (x_assign (tmB rfl rfl)) ?_
  refine wl_nil ?_
  refine then_n (hK3 _ _ ?_); clear hK3 K3
  refine wp_ret ?_
  refine ret2 rfl (.cell rfl rfl (load_rowB (cs := [_, _, _]) hS.ok 4 rfl Try.underlying24 rfl ts_24 rfl)) (.tmp rfl (show _ = Value.bool _ from rfl)) ?_
  have hok : (decide (er = 0)) = true ↔ adGood (qx l n q) := by
    rw [decide_eq_true_iff]
    by_cases h : adGood (qx l n q)
    · exact ⟨fun _ => h, fun _ => (hg h).2⟩
    · exact ⟨fun h0 => (by have := hng h; omega), fun h0 => absurd h0 h⟩
  exact ⟨a, _, A2, m2, c2, b2, rfl, fun h => (hg h).1, hok, hS.pick [2] rfl rfl, hR2⟩
def mq (l : List Nat) (n : Nat) (q : Option Nat) : Nat → Option Nat
  | 0 => q
  | i + 1 => adv n 1 (adv n 1 (mq l n q i))
def mmAt (l : List Nat) (n : Nat) (q : Option Nat) (i : Nat) : Mm := ((rdN l n 1 (mq l n q i) : Int), (rdN l n 1 (adv n 1 (mq l n q i)) : Int))
def pms (l : List Nat) (n : Nat) (q : Option Nat) (k : Nat) : List Mm := (List.range k).map (mmAt l n q)
theorem pms_succ (l : List Nat) (n : Nat) (q : Option Nat) (k : Nat) : pms l n q (k + 1) = pms l n q k ++ [mmAt l n q k] := by
  unfold pms
  rw [List.range_succ, List.map_append]
  rfl
theorem pms_len (l : List Nat) (n : Nat) (q : Option Nat) (k : Nat) : (pms l n q k).length = k := by unfold pms; simp
set_option maxRecDepth 100000 in
set_option maxHeartbeats 8000000 in
theorem tmembers_c (gr : Nat) (A0 A : Option Addr) (q : Option Nat) (n m c : Nat) (l : List Nat) (bad : Bool) (F : List Nat) (w0 : World)
    (hS : St F w0 [.blk gr 79 (rdV A m c bad), .vw A0 (l.map u8v)] w0) (hR : RdO A0 n q A m c bad) (hl : l.length = n) (hb : Bytes l) :
    Calls Try.prog 18 #[.pointer (some ⟨gr, 0, none⟩)] w0 fun e w' => ∃ L nr cr ok lm A' m' c' bad', e = .returned (.tuple #[.slice L nr cr, .bool ok]) ∧ (ok = true ↔ rdN l n 1 q ≤ 64) ∧ lm.length = nr ∧ (rdN l n 1 q ≤ 64 → lm = pms l n (adv n 1 q) (rdN l n 1 q) ∧ RdO A0 n (mq l n (adv n 1 q) (rdN l n 1 q)) A' m' c' bad') ∧ (¬ rdN l n 1 q ≤ 64 → RdO A0 n (adv n 1 q) A' m' c' bad') ∧
      St F w0 [.row (.slice L nr cr) 64 2 nr (flat mmV lm), .blk gr 79 (rdV A' m' c' bad')] w' := by
  refine ent (n := 26) Try.func18 rfl rfl ?_
  refine wp_seq_k ?_; intro K1 hK1
  refine wlit ?_
  refine wl_v (x_assign ev_c) ?_
  refine wl_v (x_assign ev_c) ?_
  refine wl_nil ?_
  refine then_n (hK1 _ _ ?_); clear hK1 K1
  refine wp_seq_k ?_; intro K2 hK2
  refine wlit ?_
  refine wl_v (x_move (tmP rfl rfl)) ?_
  refine wl_e rfl ?_; intro K hK
  refine ow_call Try.func15 rfl rfl (evs_cons (tmP rfl rfl) <| evs_nil) (byteT_c gr A0 A q n m c l bad _ _ (hS.enter [0] [1] rfl rfl) hR hl hb) ?_
  rintro e w ⟨A1, m1, c1, b1, rfl, hS2, hR1⟩
  refine ⟨_, rfl, ?_⟩
  replace hS := hS.leave [0] [1] rfl rfl rfl hS2 rfl --ents gr,va
  clear hS2
  have hcb : rdN l n 1 q < 256 := rdN_lt hb _
  try replace hS := St.nm (M' := [_, .vw _ _]) hS rfl
  refine hK _ _ ?_; clear hK K
  first
   | refine wl_v (x_convN Try.underlying5 Try.underlying3 (tmI rfl rfl) (fit_i64 (by omega))) ?_
   | refine wl_v (x_conv Try.underlying5 Try.underlying3 (tmI rfl rfl)) ?_
  refine wl_v (x_assign (tmI rfl rfl)) ?_
  refine wl_nil ?_
  refine then_n (hK2 _ _ ?_); clear hK2 K2
  refine wp_seq_k ?_; intro K3 hK3
  refine wp_seq_k ?_; intro K4 hK4
  refine wlit ?_
  refine wl_v (x_move (tmI rfl rfl)) ?_
  refine wl_v (x_gtr (tmI rfl rfl) (ev_cN 64)) ?_
  refine wl_nil ?_
  refine then_n (hK4 _ _ ?_); clear hK4 K4
  refine cnd (tm rfl) (fun hc0 => ?_) (fun hc0 => ?_)
  · try (exfalso; first | with_reducible exact absurd hc0 Bool.false_ne_true | with_reducible exact absurd hc0.symm Bool.false_ne_true | (simp only [nrm] at hc0; omega) | (simp at hc0; done))
    all_goals
     try simp only [nrm] at hc0
     refine wp_seq_k ?_; intro K5 hK5
     refine wlit ?_
     refine wl_v (x_assign ev_c) ?_
     refine wl_v (x_assign ev_c) ?_
     refine wl_nil ?_
     refine then_n (hK5 _ _ ?_); clear hK5 K5
     refine wp_ret ?_
     refine then_r ?_
     refine ret2 rfl (.tmp rfl (show _ = Value.slice _ _ _ from rfl)) (.tmp rfl (show _ = Value.bool _ from rfl)) ?_
     first
       | (obtain rfl : k = rdN l n 1 q := by omega
          exact ⟨G, _, cg, true, _, A2, m2, c2, b2, rfl, ⟨fun _ => by omega, fun _ => rfl⟩, pms_len _ _ _ _, fun _ => ⟨rfl, hR2⟩, fun h => absurd (by omega) h, hS.pick [(no_label_row), 0] rfl rfl⟩)
       | exact ⟨none, 0, 0, false, [], A1, m1, c1, b1, rfl, ⟨fun h => (by cases h), fun h => absurd h (by omega)⟩, rfl, fun h => absurd h (by omega), fun _ => hR1, (hS.nilrow 64 2).pick [0, 1] rfl rfl⟩
  try (exfalso; first | with_reducible exact absurd hc0 Bool.false_ne_true | with_reducible exact absurd hc0.symm Bool.false_ne_true | (simp only [nrm] at hc0; omega) | (simp at hc0; done))
  all_goals
   try simp only [nrm] at hc0
   refine wp_skip ?_
   refine then_n (hK3 _ _ ?_); clear hK3 K3
   refine wp_seq_k ?_; intro K6 hK6
   refine wlit ?_
   refine wl_v (x_assign ev_c) ?_
   refine wl_nil ?_
   refine then_n (hK6 _ _ ?_); clear hK6 K6
   refine wp_seq_k ?_; intro K7 hK7
   refine wp_seq_k ?_; intro K8 hK8
   refine wlit ?_
   refine wl_v (x_move (tmI rfl rfl)) ?_
   refine wl_v (x_move (ev_cN 0)) ?_
   refine wl_nil ?_
   refine then_n (hK8 _ _ ?_); clear hK8 K8
   refine wp_block ?_
   have hS := (hS.nilrow 64 2) --ents row,gr,va
   refine lp [5, 12, 13, 14, 15, 16, 17, 18, 19, 20, 21, 22, 23, 24] (fun mz g w => ∃ (k : Nat), ∃ (G : Option Addr), ∃ (cg : Nat), ∃ (A2 : Option Addr), ∃ (m2 c2 : Nat), ∃ (b2 : Bool), mz = rdN l n 1 q - k ∧ g 12 = .int .i64 (k : Int) ∧ g 5 = .slice G k cg ∧ St F w0 [.row (.slice G k cg) 64 2 k (flat mmV (pms l n (adv n 1 q) k)), .blk gr 79 (rdV A2 m2 c2 b2), .vw A0 (l.map u8v)] w ∧ (k ≤ rdN l n 1 q) ∧ (RdO A0 n (mq l n (adv n 1 q) k) A2 m2 c2 b2)) ?_ ?_
   · exact ⟨_, 0, none, 0, A1, m1, c1, b1, rfl, (by first | rfl | go_num | exact congrArg (Value.int _) (by first | omega | (simp; done) | (simp; omega))), (by first | rfl | go_num | exact congrArg (Value.int _) (by first | omega | (simp; done) | (simp; omega))), hS, (by omega), (by first | exact hR4 | exact hR1)⟩
   · clear hS; intro mz g w hI
     obtain ⟨k, G, cg, A2, m2, c2, b2, rfl, hs12, hs5, hS, hk, hR2⟩ := hI
     refine fr_know (d := 12) hs12 ?_; clear hs12
     refine fr_know (d := 5) hs5 ?_; clear hs5
     refine wp_seq_k ?_; intro K9 hK9
     refine wlit ?_
     refine wl_v (x_lss (tmI rfl rfl) (tmI rfl rfl)) ?_
     refine wl_nil ?_
     refine then_n (hK9 _ _ ?_); clear hK9 K9
     refine wp_seq_k ?_; intro K10 hK10
     refine cnd (tm rfl) (fun hc1 => ?_) (fun hc1 => ?_)
     · try (exfalso; first | with_reducible exact absurd hc1 Bool.false_ne_true | with_reducible exact absurd hc1.symm Bool.false_ne_true | (simp only [nrm] at hc1; omega) | (simp at hc1; done))
       all_goals
        try simp only [nrm] at hc1
        refine wp_skip ?_
        refine then_n (hK10 _ _ ?_); clear hK10 K10
        refine wp_seq_k ?_; intro K11 hK11
        refine wp_block ?_
        refine wlit ?_
        refine wl_v (x_move (tmS rfl rfl)) ?_
        refine wl_v (x_move (tmP rfl rfl)) ?_
        refine wl_e rfl ?_; intro K hK
        refine ow_call Try.func15 rfl rfl (evs_cons (tmP rfl rfl) <| evs_nil) (byteT_c gr A0 A2 (mq l n (adv n 1 q) k) n m2 c2 l b2 _ _ (hS.enter [1] [2] rfl rfl) hR2 hl hb) ?_
        rintro e w ⟨A3, m3, c3, b3, rfl, hS2, hR3⟩
        refine ⟨_, rfl, ?_⟩
        replace hS := hS.leave [1] [0, 2] rfl rfl rfl hS2 rfl --ents gr,row,va
        clear hS2
        have hb31 : rdN l n 1 (mq l n (adv n 1 q) k) < 256 := rdN_lt hb _
        try replace hS := St.nm (M' := [_, .row _ _ _ _ _, .vw _ _]) hS rfl
        refine hK _ _ ?_; clear hK K
        first
         | refine wl_v (x_convN Try.underlying5 Try.underlying3 (tmI rfl rfl) (fit_i64 (by omega))) ?_
         | refine wl_v (x_conv Try.underlying5 Try.underlying3 (tmI rfl rfl)) ?_
        refine wl_v (x_move (tmP rfl rfl)) ?_
        refine wl_e rfl ?_; intro K hK
        refine ow_call Try.func15 rfl rfl (evs_cons (tmP rfl rfl) <| evs_nil) (byteT_c gr A0 A3 (adv n 1 (mq l n (adv n 1 q) k)) n m3 c3 l b3 _ _ (hS.enter [0] [2] rfl rfl) hR3 hl hb) ?_
        rintro e w ⟨A4, m4, c4, b4, rfl, hS2, hR4⟩
        refine ⟨_, rfl, ?_⟩
        replace hS := hS.leave [0] [1, 2] rfl rfl rfl hS2 rfl --ents gr,row,va
        clear hS2
        have hb32 : rdN l n 1 (adv n 1 (mq l n (adv n 1 q) k)) < 256 := rdN_lt hb _
        try replace hS := St.nm (M' := [_, .row _ _ _ _ _, .vw _ _]) hS rfl
        refine hK _ _ ?_; clear hK K
        first
         | refine wl_v (x_convN Try.underlying5 Try.underlying3 (tmI rfl rfl) (fit_i64 (by omega))) ?_
         | refine wl_v (x_conv Try.underlying5 Try.underlying3 (tmI rfl rfl)) ?_
        refine wl_v (x_build (bc_take (tmI rfl rfl) <| bc_take (tmI rfl rfl) <| bc_nil) (by kernel_rfl)) ?_
        refine wl_e rfl ?_; intro K hK
        refine ow_build hS Try.underlying33 tz_64 (bc_takeL (tmA rfl rfl) <| bc_nil) rfl rfl (by kernel_rfl) ?_
        clear hS; intro g7_8 w hg7_8 hS
        refine hK _ _ ?_; clear hK K
        refine wl_e rfl ?_; intro K hK
        (refine ow_append hS 2 0 rfl rfl Try.underlying33 tz_64 rfl (tmS rfl rfl) (tmS rfl rfl) rfl ⟨by decide, by decide, rfl⟩ (by simp only [maxLen]; omega) (by omega) ?_; clear hS; intro g7_9 cg7_9 w hS)
        refine hK _ _ ?_; clear hK K
        refine wl_v (x_assign (tmS rfl rfl)) ?_
        refine wl_nil ?_
        refine inb_n ?_
        refine then_n (hK11 _ _ ?_); clear hK11 K11
        refine wlit ?_
        first
         | refine wl_v (x_addN (tmI rfl rfl) (ev_cN 1) (fit_i64 (by omega))) ?_
         | refine wl_v (x_addI (tmI rfl rfl) (ev_cN 1) (IntWalk.i64_in _ (by omega))) ?_
         | refine wl_v (x_add (tmI rfl rfl) (ev_cN 1)) ?_
        refine wl_v (x_move (tmI rfl rfl)) ?_
        refine wl_nil ?_
        exact then_n ⟨_, _, rfl, (by show _ < _; omega), (by repeat (first | exact agree_self | exact agree_refl | refine agree_upd rfl ?_ | refine agree_mix rfl ?_)), k + 1, _, _, A4, m4, c4, b4, rfl, (by first | rfl | go_num | exact congrArg (Value.int _) (by first | omega | (simp; done) | (simp; omega))), (by first | rfl | go_num | exact congrArg (Value.int _) (by first | omega | (simp; done) | (simp; omega))), (by rw [pms_succ, flat_snoc]; exact hS.pick [2, 1, 3] rfl rfl), (by omega), (by first | exact hR4 | exact hR1)⟩
     try (exfalso; first | with_reducible exact absurd hc1 Bool.false_ne_true | with_reducible exact absurd hc1.symm Bool.false_ne_true | (simp only [nrm] at hc1; omega) | (simp at hc1; done))
     all_goals
      try simp only [nrm] at hc1
      refine wp_exit ?_
      refine then_x ?_; clear hK10 K10
      refine then_x ?_
      refine inb_x ?_
      refine then_n (hK7 _ _ ?_); clear hK7 K7
      refine wp_seq_k ?_; intro K12 hK12
      refine wlit ?_
      refine wl_v (x_move (tmS rfl rfl)) ?_
      refine wl_v (x_assign (tmS rfl rfl)) ?_
      refine wl_v (x_assign ev_c) ?_
      refine wl_nil ?_
      refine then_n (hK12 _ _ ?_); clear hK12 K12
      refine wp_ret ?_
      refine ret2 rfl (.tmp rfl (show _ = Value.slice _ _ _ from rfl)) (.tmp rfl (show _ = Value.bool _ from rfl)) ?_
      first
        | (obtain rfl : k = rdN l n 1 q := by omega
           exact ⟨G, _, cg, true, _, A2, m2, c2, b2, rfl, ⟨fun _ => by omega, fun _ => rfl⟩, pms_len _ _ _ _, fun _ => ⟨rfl, hR2⟩, fun h => absurd (by omega) h, hS.pick [0, 1] rfl rfl⟩)
        | exact ⟨none, 0, 0, false, [], A1, m1, c1, b1, rfl, ⟨fun h => (by cases h), fun h => absurd h (by omega)⟩, rfl, fun h => absurd h (by omega), fun _ => hR1, (hS.nilrow 64 2).pick [0, 1] rfl rfl⟩
theorem cwhole_c (gr : Nat) (A : Option Addr) (m c : Nat) (bad : Bool) (w0 : World) (hv : View w0 w0.heap.size (some ⟨gr, 0, none⟩) (rdV A m c bad)) :
    Calls Try.prog 19 #[.pointer (some ⟨gr, 0, none⟩)] w0 fun e w' => e = .returned (.bool (decide (bad = false ∧ m = 0))) ∧ Kp [] w0 w' := by
  have hS := (St.sv w0).vcons rfl hv
  refine ent (n := 11) Try.func19 rfl rfl ?_
  refine wp_seq_k ?_; intro K1 hK1
  refine wlit ?_
  refine wl_v (x_assign ev_c) ?_
  refine wl_nil ?_
  refine then_n (hK1 _ _ ?_); clear hK1 K1
  refine wp_seq_k ?_; intro K2 hK2
  refine wlit ?_
  refine wl_v (x_move (tmP rfl rfl)) ?_
  refine wl_e rfl ?_; intro K hK
  refine ow_call Try.func38 rfl rfl (evs_cons (tmP rfl rfl) <| evs_nil) (left_c gr A m c bad _ (viewV hS.ok 0 rfl)) ?_
  rintro e w ⟨rfl, hk⟩
  refine ⟨_, rfl, ?_⟩
  replace hS := hS.kept hk
  clear hk
  refine hK _ _ ?_; clear hK K
  refine wl_v (x_eql (tmI rfl rfl) (ev_cN 0)) ?_
  refine wl_v (x_move (tmB rfl rfl)) ?_
  refine gs_wl (tm (t := 6) rfl) (fun hg1_3 => ?_) (fun hg1_3 => ?_)
  · have hg1_3' := hg1_3; (try simp only [nrm] at hg1_3'); try (exfalso; first | with_reducible exact absurd hg1_3 Bool.false_ne_true | with_reducible exact absurd hg1_3.symm Bool.false_ne_true | omega | (simp at hg1_3; done))
    all_goals
     refine wl_gv (want_y rfl rfl rfl rfl (by rw [hg1_3]; rfl)) (x_move (tmP rfl rfl)) ?_
     refine wl_g (want_y rfl rfl rfl rfl (by rw [hg1_3]; rfl)) ?_; intro K hK
     refine ow_call Try.func39 rfl rfl (evs_cons (tmP rfl rfl) <| evs_nil) (bad_c gr A m c bad _ (viewV hS.ok 0 rfl)) ?_
     rintro e w ⟨rfl, hk⟩
     refine ⟨_, rfl, ?_⟩
     replace hS := hS.kept hk
     clear hk
     refine hK _ _ ?_; clear hK K
     refine wl_gv (want_y rfl rfl rfl rfl (by rw [hg1_3]; rfl)) (x_not (tmB rfl rfl)) ?_
     refine wl_v (x_pickT (tmB rfl rfl) hg1_3 (tmB rfl rfl)) ?_
     refine wl_v (x_assign (tmB rfl rfl)) ?_
     refine wl_nil ?_
     refine then_n (hK2 _ _ ?_); clear hK2 K2
     refine wp_ret ?_
     refine ret1 rfl (.tmp rfl (show _ = Value.bool _ from rfl)) ?_
     refine ⟨ret_bool ?_, hS.kp⟩
     first
       | (cases bad <;> simp <;> omega)
       | (refine (decide_eq_false ?_).symm; omega)
  have hg1_3' := hg1_3; (try simp only [nrm] at hg1_3'); try (exfalso; first | with_reducible exact absurd hg1_3 Bool.false_ne_true | with_reducible exact absurd hg1_3.symm Bool.false_ne_true | omega | (simp at hg1_3; done))
  all_goals
   refine wl_s rfl (want_n rfl rfl rfl rfl (by rw [hg1_3]; rfl)) ?_
   refine wl_s rfl (want_n rfl rfl rfl rfl (by rw [hg1_3]; rfl)) ?_
   refine wl_s rfl (want_n rfl rfl rfl rfl (by rw [hg1_3]; rfl)) ?_
   refine wl_v (x_pickF (tmB rfl rfl) hg1_3 ev_c) ?_
   refine wl_v (x_assign (tmB rfl rfl)) ?_
   refine wl_nil ?_
   refine then_n (hK2 _ _ ?_); clear hK2 K2
   refine wp_ret ?_
   refine ret1 rfl (.tmp rfl (show _ = Value.bool _ from rfl)) ?_
   refine ⟨ret_bool ?_, hS.kp⟩
   first
     | (cases bad <;> simp <;> omega)
     | (refine (decide_eq_false ?_).symm; omega)
end Go.Proofs.Ytoaodcbfehfdoaa
