
/- codec: the reference's ParseOp by contract. Conditions: none but bounds. -/
import Derived.Test.YtoaodcbfehfdoaaCoI
namespace Go.Proofs.Ytoaodcbfehfdoaa
open Go.ChangeShapes Go.WideShapes Go.ChangeAt Go.RowKit
set_option maxRecDepth 100000 in
set_option maxHeartbeats 8000000 in
theorem rcoparse_c (n : Nat) (A : Option Addr) (c : Nat) (l : List Nat) (w0 : World) (hv : View w0 w0.heap.size A (l.map u8v)) (hl : l.length = n) (hc : n ≤ c) (hn4 : n ≤ 1000000) (hb : Bytes l) :
    Calls Try.prog 7 #[.slice A n c] w0 fun e w' => ∃ h L nr cr lm ok, e = .returned (.tuple #[.agg (opV h L nr cr).toArray, .bool ok]) ∧ OpR w0 w' l n h L nr lm ∧ (ok = true ↔ pOk l n) ∧ Kp [] w0 w' := by
  have hS := (St.sv w0).vcons rfl hv
  refine ent (n := 49) Try.func7 rfl rfl ?_
  refine wp_seq_k ?_; intro K1 hK1
  refine wlit ?_
  refine wl_e rfl ?_; intro K hK
  refine ow_alloc hS tz_28 rfl ?_
  clear hS; intro g0_0 w hg0_0 hS
  refine hK _ _ ?_; clear hK K
  refine wl_v (x_assign ev_c) ?_
  refine wl_nil ?_
  refine then_n (hK1 _ _ ?_); clear hK1 K1
  refine wp_seq_k ?_; intro K2 hK2
  refine wlit ?_
  refine wl_v (x_move (tmS rfl rfl)) ?_
  refine wl_v (x_build (bc_take (tmS rfl rfl) <| bc_skip (.bool false) <| bc_nil) (by kernel_rfl)) ?_
  refine wl_e rfl ?_; intro K hK
  refine ow_box hS (tmA rfl rfl) rfl ?_
  clear hS; intro g1_2 w hg1_2 hS
  refine hK _ _ ?_; clear hK K
  refine wl_v (x_assign (tmP rfl rfl)) ?_
  refine wl_nil ?_
  refine then_n (hK2 _ _ ?_); clear hK2 K2
  refine wp_seq_k ?_; intro K3 hK3
  refine wlit ?_
  refine wl_v (x_move (tmP rfl rfl)) ?_
  refine wl_e rfl ?_; intro K hK
  refine ow_call Try.func20 rfl rfl (evs_cons (tmP rfl rfl) <| evs_cons (ev_cN 1) <| evs_nil) (rnm_c g1_2 A A (some 0) 1 n n c l false _ _ (hS.enter [0] [2] rfl rfl) ⟨rfl, Nat.zero_le _, rfl, off_zero, hc⟩ hl hb (by omega)) ?_
  rintro e w ⟨A1, m1, c1, b1, rfl, hS2, hR1⟩
  refine ⟨_, rfl, ?_⟩
  replace hS := hS.leave [0] [2, 1] rfl rfl rfl hS2 rfl --ents g1_2,va,g0_0
  clear hS2
  try replace hS := St.nm (M' := [.blk _ _ [_, _], .vw _ _, .blk _ _ [_, _, _, _, _, _, _, _, _, _, _]]) hS rfl
  refine hK _ _ ?_; clear hK K
  refine wl_v (x_move (tmP rfl rfl)) ?_
  refine wl_e rfl ?_; intro K hK
  refine ow_call Try.func20 rfl rfl (evs_cons (tmP rfl rfl) <| evs_cons (ev_cN 1) <| evs_nil) (rnm_c g1_2 A A1 (k1 n) 1 n m1 c1 l b1 _ _ (hS.enter [0] [1] rfl rfl) hR1 hl hb (by omega)) ?_
  rintro e w ⟨A2, m2, c2, b2, rfl, hS2, hR2⟩
  refine ⟨_, rfl, ?_⟩
  replace hS := hS.leave [0] [1, 2] rfl rfl rfl hS2 rfl --ents g1_2,va,g0_0
  clear hS2
  try replace hS := St.nm (M' := [.blk _ _ [_, _], .vw _ _, .blk _ _ [_, _, _, _, _, _, _, _, _, _, _]]) hS rfl
  refine hK _ _ ?_; clear hK K
  refine wl_v (x_move (tmP rfl rfl)) ?_
  refine wl_e rfl ?_; intro K hK
  refine ow_call Try.func20 rfl rfl (evs_cons (tmP rfl rfl) <| evs_cons (ev_cN 1) <| evs_nil) (rnm_c g1_2 A A2 (k2 n) 1 n m2 c2 l b2 _ _ (hS.enter [0] [1] rfl rfl) hR2 hl hb (by omega)) ?_
  rintro e w ⟨A3, m3, c3, b3, rfl, hS2, hR3⟩
  refine ⟨_, rfl, ?_⟩
  replace hS := hS.leave [0] [1, 2] rfl rfl rfl hS2 rfl --ents g1_2,va,g0_0
  clear hS2
  try replace hS := St.nm (M' := [.blk _ _ [_, _], .vw _ _, .blk _ _ [_, _, _, _, _, _, _, _, _, _, _]]) hS rfl
  refine hK _ _ ?_; clear hK K
  refine wl_v (x_move (tmP rfl rfl)) ?_
  refine wl_e rfl ?_; intro K hK
  refine ow_call Try.func20 rfl rfl (evs_cons (tmP rfl rfl) <| evs_cons (ev_cN 1) <| evs_nil) (rnm_c g1_2 A A3 (k3 n) 1 n m3 c3 l b3 _ _ (hS.enter [0] [1] rfl rfl) hR3 hl hb (by omega)) ?_
  rintro e w ⟨A4, m4, c4, b4, rfl, hS2, hR4⟩
  refine ⟨_, rfl, ?_⟩
  replace hS := hS.leave [0] [1, 2] rfl rfl rfl hS2 rfl --ents g1_2,va,g0_0
  clear hS2
  try replace hS := St.nm (M' := [.blk _ _ [_, _], .vw _ _, .blk _ _ [_, _, _, _, _, _, _, _, _, _, _]]) hS rfl
  refine hK _ _ ?_; clear hK K
  refine wl_v (x_build (bc_take (tmI rfl rfl) <| bc_take (tmI rfl rfl) <| bc_take (tmI rfl rfl) <| bc_take (tmI rfl rfl) <| bc_skipL [.bool false, .int .u64 0, .int .u64 0] <| bc_skip (.int .u16 0) <| bc_skip (.int .u8 0) <| bc_skip (.int .i64 0) <| bc_skip (.slice none 0 0) <| bc_nil) (by kernel_rfl)) ?_
  refine wl_e rfl ?_; intro K hK
  refine ow_alloc hS tz_28 rfl ?_
  clear hS; intro g2_9 w hg2_9 hS
  refine hK _ _ ?_; clear hK K
  refine wl_e rfl ?_; intro K hK
  refine ow_storeA hS 0 rfl ts_28 (tmP rfl rfl) (tmA rfl rfl) rfl rfl rfl ?_
  clear hS; intro w hS
  try replace hS := St.nm (M' := [.blk _ _ [_, _, _, _, _, _, _, _, _, _, _], .blk _ _ [_, _], .vw _ _, .blk _ _ [_, _, _, _, _, _, _, _, _, _, _]]) hS rfl
  refine hK _ _ ?_; clear hK K
  refine wl_nil ?_
  refine then_n (hK3 _ _ ?_); clear hK3 K3
  refine wp_seq_k ?_; intro K4 hK4
  refine wlit ?_
  refine wl_v (x_move (tmP rfl rfl)) ?_
  refine wl_e rfl ?_; intro K hK
  refine ow_call Try.func21 rfl rfl (evs_cons (tmP rfl rfl) <| evs_nil) (raddr_c g1_2 A A4 (k4 n) n m4 c4 l b4 _ _ (hS.enter [1] [2] rfl rfl) hR4 hl hb) ?_
  rintro e w ⟨a, A6, m6, c6, b6, rfl, hga, hgn, hS2⟩
  refine ⟨_, rfl, ?_⟩
  replace hS := hS.leave [1] [0, 2, 3] rfl rfl rfl hS2 rfl --ents g1_2,g2_9,va,g0_0
  clear hS2
  obtain ⟨q6, hR6, hq6, hq6n⟩ : ∃ q6, RfO A n q6 A6 m6 c6 b6 ∧ (adGood (qx l n (k4 n)) → q6 = k6 l n) ∧ (¬ adGood (qx l n (k4 n)) → q6 = none) := by
    by_cases h : adGood (qx l n (k4 n))
    · exact ⟨k6 l n, (hga h).2, fun _ => rfl, fun h0 => absurd h h0⟩
    · exact ⟨none, hgn h, fun h0 => absurd h0 h, fun _ => rfl⟩
  try replace hS := St.nm (M' := [.blk _ _ [_, _], .blk _ _ [_, _, _, _, _, _, _, _, _, _, _], .vw _ _, .blk _ _ [_, _, _, _, _, _, _, _, _, _, _]]) hS rfl
  refine hK _ _ ?_; clear hK K
  refine wl_v (x_fa 4 Try.underlying28 rfl rfl ts_24 (tmP rfl rfl)) ?_
  refine wl_e rfl ?_; intro K hK
  refine ow_storeA hS 1 rfl ts_24 (tmP rfl rfl) (tmA rfl rfl) rfl rfl rfl ?_
  clear hS; intro w hS
  try replace hS := St.nm (M' := [.blk _ _ [_, _], .blk _ _ [_, _, _, _, _, _, _, _, _, _, _], .vw _ _, .blk _ _ [_, _, _, _, _, _, _, _, _, _, _]]) hS rfl
  refine hK _ _ ?_; clear hK K
  refine wl_nil ?_
  refine then_n (hK4 _ _ ?_); clear hK4 K4
  refine wp_seq_k ?_; intro K5 hK5
  refine wlit ?_
  refine wl_v (x_move (tmP rfl rfl)) ?_
  refine wl_e rfl ?_; intro K hK
  refine ow_call Try.func20 rfl rfl (evs_cons (tmP rfl rfl) <| evs_cons (ev_cN 2) <| evs_nil) (rnm_c g1_2 A A6 q6 2 n m6 c6 l b6 _ _ (hS.enter [0] [2] rfl rfl) hR6 hl hb (by omega)) ?_
  rintro e w ⟨A7, m7, c7, b7, rfl, hS2, hR7⟩
  refine ⟨_, rfl, ?_⟩
  replace hS := hS.leave [0] [1, 2, 3] rfl rfl rfl hS2 rfl --ents g1_2,g2_9,va,g0_0
  clear hS2
  have hu7 : rdN l n 2 q6 < 65536 := rdN_lt hb _
  try replace hS := St.nm (M' := [.blk _ _ [_, _], .blk _ _ [_, _, _, _, _, _, _, _, _, _, _], .vw _ _, .blk _ _ [_, _, _, _, _, _, _, _, _, _, _]]) hS rfl
  refine hK _ _ ?_; clear hK K
  first
   | refine wl_v (x_convN Try.underlying3 Try.underlying25 (tmI rfl rfl) (fit_u16 (by omega))) ?_
   | refine wl_v (x_convU Try.underlying3 Try.underlying25 (tmI rfl rfl) rfl) ?_
   | refine wl_v (x_conv Try.underlying3 Try.underlying25 (tmI rfl rfl)) ?_
  refine wl_v (x_fa 7 Try.underlying28 rfl rfl ts_25 (tmP rfl rfl)) ?_
  refine wl_e rfl ?_; intro K hK
  first
   | refine ow_store hS 1 rfl ts_25 (tmP rfl rfl) (tmI rfl rfl) rfl rfl ?_
   | refine ow_storeX hS 1 rfl ts_25 (tmP rfl rfl) (tmI rfl rfl) rfl (by simp; omega) ?_
  clear hS; intro w hS
  try replace hS := St.nm (M' := [.blk _ _ [_, _], .blk _ _ [_, _, _, _, _, _, _, _, _, _, _], .vw _ _, .blk _ _ [_, _, _, _, _, _, _, _, _, _, _]]) hS rfl
  refine hK _ _ ?_; clear hK K
  refine wl_nil ?_
  refine then_n (hK5 _ _ ?_); clear hK5 K5
  refine wp_seq_k ?_; intro K6 hK6
  refine wlit ?_
  refine wl_v (x_move (tmP rfl rfl)) ?_
  refine wl_e rfl ?_; intro K hK
  refine ow_call Try.func20 rfl rfl (evs_cons (tmP rfl rfl) <| evs_cons (ev_cN 1) <| evs_nil) (rnm_c g1_2 A A7 (adv n 2 q6) 1 n m7 c7 l b7 _ _ (hS.enter [0] [2] rfl rfl) hR7 hl hb (by omega)) ?_
  rintro e w ⟨A8, m8, c8, b8, rfl, hS2, hR8⟩
  refine ⟨_, rfl, ?_⟩
  replace hS := hS.leave [0] [1, 2, 3] rfl rfl rfl hS2 rfl --ents g1_2,g2_9,va,g0_0
  clear hS2
  have hu8 : rdN l n 1 (adv n 2 q6) < 256 := rdN_lt hb _
  try replace hS := St.nm (M' := [.blk _ _ [_, _], .blk _ _ [_, _, _, _, _, _, _, _, _, _, _], .vw _ _, .blk _ _ [_, _, _, _, _, _, _, _, _, _, _]]) hS rfl
  refine hK _ _ ?_; clear hK K
  first
   | refine wl_v (x_convN Try.underlying3 Try.underlying5 (tmI rfl rfl) (fit_u8 (by omega))) ?_
   | refine wl_v (x_convU Try.underlying3 Try.underlying5 (tmI rfl rfl) rfl) ?_
   | refine wl_v (x_conv Try.underlying3 Try.underlying5 (tmI rfl rfl)) ?_
  refine wl_v (x_fa 8 Try.underlying28 rfl rfl ts_5 (tmP rfl rfl)) ?_
  refine wl_e rfl ?_; intro K hK
  first
   | refine ow_store hS 1 rfl ts_5 (tmP rfl rfl) (tmI rfl rfl) rfl rfl ?_
   | refine ow_storeX hS 1 rfl ts_5 (tmP rfl rfl) (tmI rfl rfl) rfl (by simp; omega) ?_
  clear hS; intro w hS
  try replace hS := St.nm (M' := [.blk _ _ [_, _], .blk _ _ [_, _, _, _, _, _, _, _, _, _, _], .vw _ _, .blk _ _ [_, _, _, _, _, _, _, _, _, _, _]]) hS rfl
  refine hK _ _ ?_; clear hK K
  refine wl_nil ?_
  refine then_n (hK6 _ _ ?_); clear hK6 K6
  refine wp_seq_k ?_; intro K7 hK7
  refine wlit ?_
  refine wl_v (x_move (tmP rfl rfl)) ?_
  refine wl_e rfl ?_; intro K hK
  refine ow_call Try.func20 rfl rfl (evs_cons (tmP rfl rfl) <| evs_cons (ev_cN 1) <| evs_nil) (rnm_c g1_2 A A8 (adv n 1 (adv n 2 q6)) 1 n m8 c8 l b8 _ _ (hS.enter [0] [2] rfl rfl) hR8 hl hb (by omega)) ?_
  rintro e w ⟨A9, m9, c9, b9, rfl, hS2, hR9⟩
  refine ⟨_, rfl, ?_⟩
  replace hS := hS.leave [0] [1, 2, 3] rfl rfl rfl hS2 rfl --ents g1_2,g2_9,va,g0_0
  clear hS2
  try replace hS := St.nm (M' := [.blk _ _ [_, _], .blk _ _ [_, _, _, _, _, _, _, _, _, _, _], .vw _ _, .blk _ _ [_, _, _, _, _, _, _, _, _, _, _]]) hS rfl
  refine hK _ _ ?_; clear hK K
  refine wl_v (x_fa 9 Try.underlying28 rfl rfl ts_3 (tmP rfl rfl)) ?_
  refine wl_e rfl ?_; intro K hK
  first
   | refine ow_store hS 1 rfl ts_3 (tmP rfl rfl) (tmI rfl rfl) rfl rfl ?_
   | refine ow_storeX hS 1 rfl ts_3 (tmP rfl rfl) (tmI rfl rfl) rfl (by simp; omega) ?_
  clear hS; intro w hS
  try replace hS := St.nm (M' := [.blk _ _ [_, _], .blk _ _ [_, _, _, _, _, _, _, _, _, _, _], .vw _ _, .blk _ _ [_, _, _, _, _, _, _, _, _, _, _]]) hS rfl
  refine hK _ _ ?_; clear hK K
  refine wl_nil ?_
  refine then_n (hK7 _ _ ?_); clear hK7 K7
  refine wp_seq_k ?_; intro K8 hK8
  refine wlit ?_
  refine wl_v (x_move (tmP rfl rfl)) ?_
  refine wl_e rfl ?_; intro K hK
  refine ow_call Try.func22 rfl rfl (evs_cons (tmP rfl rfl) <| evs_nil) (rmem_c g1_2 A A9 (adv n 1 (adv n 1 (adv n 2 q6))) n m9 c9 l b9 _ _ (hS.enter [0] [2] rfl rfl) hR9 hl hb) ?_
  rintro e w ⟨L, nr, cr, lm, A10, m10, c10, b10, qe, rfl, hlm, hnr, hRe, hm1, hm2, hS2⟩
  refine ⟨_, rfl, ?_⟩
  replace hS := hS.leave [0] [1, 2, 3] rfl rfl rfl hS2 rfl --ents rowm,g1_2,g2_9,va,g0_0
  clear hS2
  try replace hS := St.nm (M' := [.row _ _ _ _ _, .blk _ _ [_, _], .blk _ _ [_, _, _, _, _, _, _, _, _, _, _], .vw _ _, .blk _ _ [_, _, _, _, _, _, _, _, _, _, _]]) hS rfl
  refine hK _ _ ?_; clear hK K
  refine wl_v (x_fa 10 Try.underlying28 rfl rfl ts_26 (tmP rfl rfl)) ?_
  refine wl_e rfl ?_; intro K hK
  first
   | refine ow_store hS 2 rfl ts_26 (tmP rfl rfl) (tmS rfl rfl) rfl rfl ?_
   | refine ow_storeX hS 2 rfl ts_26 (tmP rfl rfl) (tmS rfl rfl) rfl (by simp; omega) ?_
  clear hS; intro w hS
  try replace hS := St.nm (M' := [.row _ _ _ _ _, .blk _ _ [_, _], .blk _ _ [_, _, _, _, _, _, _, _, _, _, _], .vw _ _, .blk _ _ [_, _, _, _, _, _, _, _, _, _, _]]) hS rfl
  refine hK _ _ ?_; clear hK K
  refine wl_nil ?_
  refine then_n (hK8 _ _ ?_); clear hK8 K8
  refine wp_seq_k ?_; intro K9 hK9
  refine wp_seq_k ?_; intro K10 hK10
  refine wlit ?_
  refine wl_v (x_move (tmP rfl rfl)) ?_
  refine wl_v (x_nil (A := none) (tmP rfl rfl)) ?_
  refine wl_v (x_fa 1 Try.underlying59 rfl rfl ts_4 (tmP rfl rfl)) ?_
  first
   | refine wl_v (x_load Try.underlying4 rfl (tmP rfl rfl) (cellB hS.ok 1 rfl rfl)) ?_
   | refine wl_v (x_load Try.underlying4 rfl (tmP rfl rfl) (cellB hS.ok 1 rfl (getm (by omega)))) ?_
  refine wl_v (x_move (tmB rfl rfl)) ?_
  refine gs_wl (tm (t := 39) rfl) (fun hg8_4 => ?_) (fun hg8_4 => ?_)
  · have hg8_4' := hg8_4; (try simp only [nrm] at hg8_4'); try (exfalso; first | with_reducible exact absurd hg8_4 Bool.false_ne_true | with_reducible exact absurd hg8_4.symm Bool.false_ne_true | omega | (simp at hg8_4; done))
    all_goals
     refine wl_s rfl (want_n rfl rfl rfl rfl (by rw [hg8_4]; rfl)) ?_
     refine wl_s rfl (want_n rfl rfl rfl rfl (by rw [hg8_4]; rfl)) ?_
     refine wl_s rfl (want_n rfl rfl rfl rfl (by rw [hg8_4]; rfl)) ?_
     refine wl_s rfl (want_n rfl rfl rfl rfl (by rw [hg8_4]; rfl)) ?_
     refine wl_s rfl (want_n rfl rfl rfl rfl (by rw [hg8_4]; rfl)) ?_
     refine wl_s rfl (want_n rfl rfl rfl rfl (by rw [hg8_4]; rfl)) ?_
     refine wl_v (x_pickT (tmB rfl rfl) hg8_4 ev_c) ?_
     refine wl_nil ?_
     refine then_n (hK10 _ _ ?_); clear hK10 K10
     refine cnd_t (tmB rfl rfl) rfl ?_
     refine wp_seq_k ?_; intro K11 hK11
     refine wlit ?_
     refine wl_v (x_build (bc_skip (.int .i64 0) <| bc_skip (.int .i64 0) <| bc_skip (.int .i64 0) <| bc_skip (.int .i64 0) <| bc_skipL [.bool false, .int .u64 0, .int .u64 0] <| bc_skip (.int .u16 0) <| bc_skip (.int .u8 0) <| bc_skip (.int .i64 0) <| bc_skip (.slice none 0 0) <| bc_nil) (by kernel_rfl)) ?_
     refine wl_e rfl ?_; intro K hK
     refine ow_storeA hS 4 rfl ts_28 (tmP rfl rfl) (tmA rfl rfl) rfl rfl rfl ?_
     clear hS; intro w hS
     try replace hS := St.nm (M' := [.row _ _ _ _ _, .blk _ _ [_, _], .blk _ _ [_, _, _, _, _, _, _, _, _, _, _], .vw _ _, .blk _ _ [_, _, _, _, _, _, _, _, _, _, _]]) hS rfl
     refine hK _ _ ?_; clear hK K
     refine wl_v (x_assign ev_c) ?_
     refine wl_nil ?_
     refine then_n (hK11 _ _ ?_); clear hK11 K11
     refine wp_ret ?_
     refine then_r ?_
     refine ret2 rfl (.cell rfl rfl (load_rowB (cs := [_, _, _, _, _, _, _, _, _, _, _]) hS.ok 4 rfl Try.underlying28 rfl ts_28 rfl)) (.tmp rfl (show _ = Value.bool _ from rfl)) ?_
     first
       | (have hno : ¬ pOk l n := by
            rintro ⟨o1, o2, o3⟩
            obtain rfl := hq6 o1
            have h9 := (rfo_end hRe).1 ((hm1 o2).1.trans o3)
            first
              | (rw [h9.1] at hg8_4; cases hg8_4; done)
              | omega
          exact ⟨hp0, none, 0, 0, [], false, rfl, ⟨NewV.nil_ _ _ _, rfl, .inr ⟨hno, rfl, rfl⟩⟩, ⟨fun h => (by cases h), fun h => absurd h hno⟩, hS.kp⟩)
       | (have hqe : qe = some n := (rfo_end hRe).2 ⟨hg8_4', by omega⟩
          have o2 : rdN l n 1 (adv n 1 (adv n 1 (adv n 2 q6))) ≤ 64 := Nat.le_of_not_lt fun h => by rw [hm2 (by omega)] at hqe; cases hqe
          have o1 : adGood (qx l n (k4 n)) := Classical.byContradiction fun h => by
            have h1 := (hm1 o2).1
            rw [hq6n h] at h1
            rw [hqe] at h1
            exact absurd (h1.trans (mq_none l n _)) (by simp)
          obtain rfl := hq6 o1
          obtain rfl := (hga o1).1
          have hyes : pOk l n := ⟨o1, o2, (hm1 o2).1.symm.trans hqe⟩
          exact ⟨hpOf l n, L, nr, cr, lm, true, rfl, ⟨hS.newv 0 rfl, hlm, .inl ⟨hyes, rfl, (hm1 o2).2 (by rw [hqe]; simp)⟩⟩, ⟨fun _ => hyes, fun _ => rfl⟩, hS.kp⟩)
  have hg8_4' := hg8_4; (try simp only [nrm] at hg8_4'); try (exfalso; first | with_reducible exact absurd hg8_4 Bool.false_ne_true | with_reducible exact absurd hg8_4.symm Bool.false_ne_true | omega | (simp at hg8_4; done))
  all_goals
   refine wl_gv (want_y rfl rfl rfl rfl (by rw [hg8_4]; rfl)) (x_move (tmP rfl rfl)) ?_
   refine wl_gv (want_y rfl rfl rfl rfl (by rw [hg8_4]; rfl)) (x_nil (A := none) (tmP rfl rfl)) ?_
   refine wl_gv (want_y rfl rfl rfl rfl (by rw [hg8_4]; rfl)) (x_fa 0 Try.underlying59 rfl rfl ts_29 (tmP rfl rfl)) ?_
   first
    | refine wl_gv (want_y rfl rfl rfl rfl (by rw [hg8_4]; rfl)) (x_load Try.underlying29 rfl (tmP rfl rfl) (cellB hS.ok 1 rfl rfl)) ?_
    | refine wl_gv (want_y rfl rfl rfl rfl (by rw [hg8_4]; rfl)) (x_load Try.underlying29 rfl (tmP rfl rfl) (cellB hS.ok 1 rfl (getm (by omega)))) ?_
   refine wl_gv (want_y rfl rfl rfl rfl (by rw [hg8_4]; rfl)) (x_len Try.underlying29 (tmS rfl rfl)) ?_
   refine wl_gv (want_y rfl rfl rfl rfl (by rw [hg8_4]; rfl)) (x_gtr (tmI rfl rfl) (ev_cN 0)) ?_
   refine wl_v (x_pickF (tmB rfl rfl) hg8_4 (tmB rfl rfl)) ?_
   refine wl_nil ?_
   refine then_n (hK10 _ _ ?_); clear hK10 K10
   refine cnd (tm rfl) (fun hc0 => ?_) (fun hc0 => ?_)
   · try (exfalso; first | with_reducible exact absurd hc0 Bool.false_ne_true | with_reducible exact absurd hc0.symm Bool.false_ne_true | (simp only [nrm] at hc0; omega) | (simp at hc0; done))
     all_goals
      try simp only [nrm] at hc0
      refine wp_seq_k ?_; intro K13 hK13
      refine wlit ?_
      refine wl_v (x_build (bc_skip (.int .i64 0) <| bc_skip (.int .i64 0) <| bc_skip (.int .i64 0) <| bc_skip (.int .i64 0) <| bc_skipL [.bool false, .int .u64 0, .int .u64 0] <| bc_skip (.int .u16 0) <| bc_skip (.int .u8 0) <| bc_skip (.int .i64 0) <| bc_skip (.slice none 0 0) <| bc_nil) (by kernel_rfl)) ?_
      refine wl_e rfl ?_; intro K hK
      refine ow_storeA hS 4 rfl ts_28 (tmP rfl rfl) (tmA rfl rfl) rfl rfl rfl ?_
      clear hS; intro w hS
      try replace hS := St.nm (M' := [.row _ _ _ _ _, .blk _ _ [_, _], .blk _ _ [_, _, _, _, _, _, _, _, _, _, _], .vw _ _, .blk _ _ [_, _, _, _, _, _, _, _, _, _, _]]) hS rfl
      refine hK _ _ ?_; clear hK K
      refine wl_v (x_assign ev_c) ?_
      refine wl_nil ?_
      refine then_n (hK13 _ _ ?_); clear hK13 K13
      refine wp_ret ?_
      refine then_r ?_
      refine ret2 rfl (.cell rfl rfl (load_rowB (cs := [_, _, _, _, _, _, _, _, _, _, _]) hS.ok 4 rfl Try.underlying28 rfl ts_28 rfl)) (.tmp rfl (show _ = Value.bool _ from rfl)) ?_
      first
        | (have hno : ¬ pOk l n := by
             rintro ⟨o1, o2, o3⟩
             obtain rfl := hq6 o1
             have h9 := (rfo_end hRe).1 ((hm1 o2).1.trans o3)
             first
               | (rw [h9.1] at hg8_4; cases hg8_4; done)
               | omega
           exact ⟨hp0, none, 0, 0, [], false, rfl, ⟨NewV.nil_ _ _ _, rfl, .inr ⟨hno, rfl, rfl⟩⟩, ⟨fun h => (by cases h), fun h => absurd h hno⟩, hS.kp⟩)
        | (have hqe : qe = some n := (rfo_end hRe).2 ⟨hg8_4', by omega⟩
           have o2 : rdN l n 1 (adv n 1 (adv n 1 (adv n 2 q6))) ≤ 64 := Nat.le_of_not_lt fun h => by rw [hm2 (by omega)] at hqe; cases hqe
           have o1 : adGood (qx l n (k4 n)) := Classical.byContradiction fun h => by
             have h1 := (hm1 o2).1
             rw [hq6n h] at h1
             rw [hqe] at h1
             exact absurd (h1.trans (mq_none l n _)) (by simp)
           obtain rfl := hq6 o1
           obtain rfl := (hga o1).1
           have hyes : pOk l n := ⟨o1, o2, (hm1 o2).1.symm.trans hqe⟩
           exact ⟨hpOf l n, L, nr, cr, lm, true, rfl, ⟨hS.newv 0 rfl, hlm, .inl ⟨hyes, rfl, (hm1 o2).2 (by rw [hqe]; simp)⟩⟩, ⟨fun _ => hyes, fun _ => rfl⟩, hS.kp⟩)
   try (exfalso; first | with_reducible exact absurd hc0 Bool.false_ne_true | with_reducible exact absurd hc0.symm Bool.false_ne_true | (simp only [nrm] at hc0; omega) | (simp at hc0; done))
   all_goals
    try simp only [nrm] at hc0
    refine wp_skip ?_
    refine then_n (hK9 _ _ ?_); clear hK9 K9
    refine wp_seq_k ?_; intro K15 hK15
    refine wlit ?_
    refine wl_v (x_loadA (cs := [_, _, _, _, _, _, _, _, _, _, _]) Try.underlying28 rfl ts_28 (tmP rfl rfl) (rangeB hS.ok 2 rfl rfl)) ?_
    refine wl_e rfl ?_; intro K hK
    refine ow_storeA hS 4 rfl ts_28 (tmP rfl rfl) (tmA rfl rfl) rfl rfl rfl ?_
    clear hS; intro w hS
    try replace hS := St.nm (M' := [.row _ _ _ _ _, .blk _ _ [_, _], .blk _ _ [_, _, _, _, _, _, _, _, _, _, _], .vw _ _, .blk _ _ [_, _, _, _, _, _, _, _, _, _, _]]) hS rfl
    refine hK _ _ ?_; clear hK K
    refine wl_v (x_assign ev_c) ?_
    refine wl_nil ?_
    refine then_n (hK15 _ _ ?_); clear hK15 K15
    refine wp_ret ?_
    refine ret2 rfl (.cell rfl rfl (load_rowB (cs := [_, _, _, _, _, _, _, _, _, _, _]) hS.ok 4 rfl Try.underlying28 rfl ts_28 rfl)) (.tmp rfl (show _ = Value.bool _ from rfl)) ?_
    first
      | (have hno : ¬ pOk l n := by
           rintro ⟨o1, o2, o3⟩
           obtain rfl := hq6 o1
           have h9 := (rfo_end hRe).1 ((hm1 o2).1.trans o3)
           first
             | (rw [h9.1] at hg8_4; cases hg8_4; done)
             | omega
         exact ⟨hp0, none, 0, 0, [], false, rfl, ⟨NewV.nil_ _ _ _, rfl, .inr ⟨hno, rfl, rfl⟩⟩, ⟨fun h => (by cases h), fun h => absurd h hno⟩, hS.kp⟩)
      | (have hqe : qe = some n := (rfo_end hRe).2 ⟨hg8_4', by omega⟩
         have o2 : rdN l n 1 (adv n 1 (adv n 1 (adv n 2 q6))) ≤ 64 := Nat.le_of_not_lt fun h => by rw [hm2 (by omega)] at hqe; cases hqe
         have o1 : adGood (qx l n (k4 n)) := Classical.byContradiction fun h => by
           have h1 := (hm1 o2).1
           rw [hq6n h] at h1
           rw [hqe] at h1
           exact absurd (h1.trans (mq_none l n _)) (by simp)
         obtain rfl := hq6 o1
         obtain rfl := (hga o1).1
         have hyes : pOk l n := ⟨o1, o2, (hm1 o2).1.symm.trans hqe⟩
         exact ⟨hpOf l n, L, nr, cr, lm, true, rfl, ⟨hS.newv 0 rfl, hlm, .inl ⟨hyes, rfl, (hm1 o2).2 (by rw [hqe]; simp)⟩⟩, ⟨fun _ => hyes, fun _ => rfl⟩, hS.kp⟩)
end Go.Proofs.Ytoaodcbfehfdoaa
