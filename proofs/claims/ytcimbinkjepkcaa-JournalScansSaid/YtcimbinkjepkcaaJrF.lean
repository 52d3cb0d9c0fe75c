
/- Journal's Open, Write, Sync and Len by contract; the law's awake. Conditions: none but bounds. -/
import Derived.Test.YtcimbinkjepkcaaJrE
import Derived.Test.YtcimbinkjepkcaaConst
import Derived.Test.YtcimbinkjepkcaaDisk
namespace Go.Proofs.Ytcimbinkjepkcaa
open Go.ChangeShapes Go.WideShapes Go.ChangeAt Go.RowKit
set_option maxRecDepth 100000 in
set_option maxHeartbeats 4000000 in
theorem dcut_c (g : Nat) (A : Option Addr) (m c safe most syncs k : Nat) (l : List Nat) (F : List Nat) (w0 : World)
    (hS : St F w0 [.row (.slice A m c) 5 1 m (l.map u8v), .blk g 54 (dkV A m c safe most syncs)] w0) (hk : k ≤ m) :
    Calls Try.prog 28 #[.pointer (some ⟨g, 0, none⟩), .int .i64 (k : Int)] w0 fun e w' => e = .returned (.int .i64 0) ∧ St F w0 [.row (.slice A k c) 5 1 k ((l.take k).map u8v), .blk g 54 (dkV A k c k most syncs)] w' := by
  refine ent (n := 21) Try.func28 rfl rfl ?_
  refine wp_seq_k ?_; intro K1 hK1
  refine wlit ?_
  refine wl_v (x_assign (ev_cN 0)) ?_
  refine wl_nil ?_
  refine then_n (hK1 _ _ ?_); clear hK1 K1
  refine wp_seq_k ?_; intro K2 hK2
  refine wp_seq_k ?_; intro K3 hK3
  refine wlit ?_
  refine wl_v (x_move (tmP rfl rfl)) ?_
  first
   | refine wl_v (x_peql Try.underlying31 (tmP rfl rfl) ev_c) ?_
   | refine wl_v (x_peqln Try.underlying31 (tmP rfl rfl) ev_c) ?_
  refine wl_nil ?_
  refine then_n (hK3 _ _ ?_); clear hK3 K3
  refine cnd (tm rfl) (fun hc0 => ?_) (fun hc0 => ?_)
  · exfalso
    simp at hc0
  try (exfalso; first | with_reducible exact absurd hc0 Bool.false_ne_true | with_reducible exact absurd hc0.symm Bool.false_ne_true | (simp only [nrm] at hc0; omega) | (simp at hc0; done))
  all_goals
   try simp only [nrm] at hc0
   refine wp_skip ?_
   refine then_n (hK2 _ _ ?_); clear hK2 K2
   refine wp_seq_k ?_; intro K4 hK4
   refine wp_seq_k ?_; intro K5 hK5
   refine wlit ?_
   refine wl_v (x_move (tmI rfl rfl)) ?_
   refine wl_v (x_lss (tmI rfl rfl) (ev_cN 0)) ?_
   refine wl_v (x_move (tmB rfl rfl)) ?_
   refine gs_wl (tm (t := 9) rfl) (fun hg3_2 => ?_) (fun hg3_2 => ?_)
   · have hg3_2' := hg3_2; (try simp only [nrm] at hg3_2'); try (exfalso; first | with_reducible exact absurd hg3_2 Bool.false_ne_true | with_reducible exact absurd hg3_2.symm Bool.false_ne_true | omega | (simp at hg3_2; done))
     all_goals
      refine wl_s rfl (want_n rfl rfl rfl rfl (by rw [hg3_2]; rfl)) ?_
      refine wl_s rfl (want_n rfl rfl rfl rfl (by rw [hg3_2]; rfl)) ?_
      refine wl_s rfl (want_n rfl rfl rfl rfl (by rw [hg3_2]; rfl)) ?_
      refine wl_s rfl (want_n rfl rfl rfl rfl (by rw [hg3_2]; rfl)) ?_
      refine wl_s rfl (want_n rfl rfl rfl rfl (by rw [hg3_2]; rfl)) ?_
      refine wl_s rfl (want_n rfl rfl rfl rfl (by rw [hg3_2]; rfl)) ?_
      refine wl_s rfl (want_n rfl rfl rfl rfl (by rw [hg3_2]; rfl)) ?_
      refine wl_v (x_pickT (tmB rfl rfl) hg3_2 ev_c) ?_
      refine wl_nil ?_
      refine then_n (hK5 _ _ ?_); clear hK5 K5
      refine cnd_t (tmB rfl rfl) rfl ?_
      refine wp_seq_k ?_; intro K6 hK6
      refine wlit ?_
      refine wl_v (x_assign (ev_cN 1)) ?_
      refine wl_nil ?_
      refine then_n (hK6 _ _ ?_); clear hK6 K6
      refine wp_ret ?_
      refine then_r ?_
      refine ret1 rfl (.tmp rfl (show _ = Value.int _ _ from rfl)) ?_
      exact ⟨rfl, hS⟩
   have hg3_2' := hg3_2; (try simp only [nrm] at hg3_2'); try (exfalso; first | with_reducible exact absurd hg3_2 Bool.false_ne_true | with_reducible exact absurd hg3_2.symm Bool.false_ne_true | omega | (simp at hg3_2; done))
   all_goals
    refine wl_gv (want_y rfl rfl rfl rfl (by rw [hg3_2]; rfl)) (x_move (tmI rfl rfl)) ?_
    refine wl_gv (want_y rfl rfl rfl rfl (by rw [hg3_2]; rfl)) (x_move (tmP rfl rfl)) ?_
    refine wl_gv (want_y rfl rfl rfl rfl (by rw [hg3_2]; rfl)) (x_nil (A := none) (tmP rfl rfl)) ?_
    refine wl_gv (want_y rfl rfl rfl rfl (by rw [hg3_2]; rfl)) (x_fa 0 Try.underlying54 rfl rfl ts_22 (tmP rfl rfl)) ?_
    first
     | refine wl_gv (want_y rfl rfl rfl rfl (by rw [hg3_2]; rfl)) (x_load Try.underlying22 rfl (tmP rfl rfl) (cellB hS.ok 1 rfl rfl)) ?_
     | refine wl_gv (want_y rfl rfl rfl rfl (by rw [hg3_2]; rfl)) (x_load Try.underlying22 rfl (tmP rfl rfl) (cellR hS.ok 0 rfl rfl)) ?_
     | refine wl_gv (want_y rfl rfl rfl rfl (by rw [hg3_2]; rfl)) (x_load Try.underlying22 rfl (tmP rfl rfl) (cellR hS.ok 0 rfl (getm (by omega)))) ?_
     | refine wl_gv (want_y rfl rfl rfl rfl (by rw [hg3_2]; rfl)) (x_load Try.underlying22 rfl (tmP rfl rfl) (cellRs hS.ok 0 rfl (fun _ => rfl) rfl (by omega) rfl)) ?_
    refine wl_gv (want_y rfl rfl rfl rfl (by rw [hg3_2]; rfl)) (x_len Try.underlying22 (tmS rfl rfl)) ?_
    refine wl_gv (want_y rfl rfl rfl rfl (by rw [hg3_2]; rfl)) (x_gtr (tmI rfl rfl) (tmI rfl rfl)) ?_
    refine wl_v (x_pickF (tmB rfl rfl) hg3_2 (tmB rfl rfl)) ?_
    refine wl_nil ?_
    refine then_n (hK5 _ _ ?_); clear hK5 K5
    refine cnd (tm rfl) (fun hc1 => ?_) (fun hc1 => ?_)
    · exfalso
      simp at hc1
      omega
    try (exfalso; first | with_reducible exact absurd hc1 Bool.false_ne_true | with_reducible exact absurd hc1.symm Bool.false_ne_true | (simp only [nrm] at hc1; omega) | (simp at hc1; done))
    all_goals
     try simp only [nrm] at hc1
     refine wp_skip ?_
     refine then_n (hK4 _ _ ?_); clear hK4 K4
     refine wp_seq_k ?_; intro K7 hK7
     refine wlit ?_
     refine wl_v (x_move (tmP rfl rfl)) ?_
     refine wl_v (x_move (tmI rfl rfl)) ?_
     refine wl_e rfl ?_; intro K hK
     refine ow_call Try.func33 rfl rfl (evs_cons (tmP rfl rfl) <| evs_cons (tmI rfl rfl) <| evs_nil) (dkeep_c g A m c safe most syncs k l _ _ (hS.enter [0, 1] [] rfl rfl) hk) ?_
     rintro e w ⟨rfl, hS2⟩
     refine ⟨_, rfl, ?_⟩
     replace hS := hS.leave [0, 1] [] rfl rfl rfl hS2 rfl
     clear hS2
     try replace hS := St.nm (M' := [.row _ _ _ _ _, _]) hS rfl
     refine hK _ _ ?_; clear hK K
     refine wl_nil ?_
     refine then_n (hK7 _ _ ?_); clear hK7 K7
     refine wp_seq_k ?_; intro K8 hK8
     refine wlit ?_
     refine wl_v (x_assign (ev_cN 0)) ?_
     refine wl_nil ?_
     refine then_n (hK8 _ _ ?_); clear hK8 K8
     refine wp_ret ?_
     refine ret1 rfl (.tmp rfl (show _ = Value.int _ _ from rfl)) ?_
     exact ⟨rfl, hS⟩
def jnV (g : Nat) (G : Option Addr) (ng cg : Nat) : List Value := [.pointer (some ⟨g, 0, none⟩), .slice G ng cg]
set_option maxRecDepth 100000 in
set_option maxHeartbeats 4000000 in
theorem jopen_c (g : Nat) (A : Option Addr) (m c safe most syncs : Nat) (l : List Nat) (F : List Nat) (w0 : World)
    (hS : St F w0 [.row (.slice A m c) 5 1 m (l.map u8v), .blk g 54 (dkV A m c safe most syncs)] w0) (hl : l.length = m) (hm : m ≤ 1000000) (hb : Bytes l) :
    Calls Try.prog 11 #[.pointer (some ⟨g, 0, none⟩)] w0 fun e w' => ∃ gj G ng cg rows sz, rows.length = ng ∧ e = .returned (.tuple #[.pointer (some ⟨gj, 0, none⟩), .int .i64 0]) ∧ ScanR l rows sz ∧
      St F w0 [.blk gj 58 (jnV g G ng cg), .row (.slice G ng cg) 22 1 ng (rows.map rowV), .row (.slice A sz c) 5 1 sz ((l.take sz).map u8v), .blk g 54 (dkV A sz c sz most syncs)] w' := by
  refine ent (n := 21) Try.func11 rfl rfl ?_
  refine wp_seq_k ?_; intro K1 hK1
  refine wlit ?_
  refine wl_v (x_assign ev_c) ?_
  refine wl_v (x_assign (ev_cN 0)) ?_
  refine wl_nil ?_
  refine then_n (hK1 _ _ ?_); clear hK1 K1
  refine wp_seq_k ?_; intro K2 hK2
  refine wp_seq_k ?_; intro K3 hK3
  refine wlit ?_
  refine wl_v (x_move (tmP rfl rfl)) ?_
  first
   | refine wl_v (x_peql Try.underlying31 (tmP rfl rfl) ev_c) ?_
   | refine wl_v (x_peqln Try.underlying31 (tmP rfl rfl) ev_c) ?_
  refine wl_nil ?_
  refine then_n (hK3 _ _ ?_); clear hK3 K3
  refine cnd (tm rfl) (fun hc0 => ?_) (fun hc0 => ?_)
  · exfalso
    simp at hc0
  try (exfalso; first | with_reducible exact absurd hc0 Bool.false_ne_true | with_reducible exact absurd hc0.symm Bool.false_ne_true | (simp only [nrm] at hc0; omega) | (simp at hc0; done))
  all_goals
   try simp only [nrm] at hc0
   refine wp_skip ?_
   refine then_n (hK2 _ _ ?_); clear hK2 K2
   refine wp_seq_k ?_; intro K4 hK4
   refine wlit ?_
   refine wl_v (x_move (tmP rfl rfl)) ?_
   refine wl_e rfl ?_; intro K hK
   refine ow_call Try.func27 rfl rfl (evs_cons (tmP rfl rfl) <| evs_nil) (dread_c g A m c safe most syncs l _ (viewB hS.ok 1 rfl) (viewR hS.ok 0 rfl) hl hm) ?_
   rintro e w ⟨A2, c2, rfl, hn, hk⟩
   refine ⟨_, rfl, ?_⟩
   replace hS := hS.add hk hn -- +rowr
   clear hn hk
   refine hK _ _ ?_; clear hK K
   refine wl_e rfl ?_; intro K hK
   refine ow_call Try.func5 rfl rfl (evs_cons (tmS rfl rfl) <| evs_nil) (scan_c m A2 c2 l _ (viewR hS.ok 0 rfl) hl hm hb) ?_
   rintro e w ⟨G, ng, cg, rows, sz, hng, rfl, hR, hn, hvr, hk⟩
   refine ⟨_, rfl, ?_⟩
   replace hS := hS.add hk hn -- +rows
   clear hn hk hvr
   have hsz := hR.bounds.1
   refine hK _ _ ?_; clear hK K
   refine wl_v (x_move (tmT rfl rfl)) ?_
   refine wl_v (x_ext (tmT rfl rfl) rfl) ?_
   refine wl_v (x_ext (tmT rfl rfl) rfl) ?_
   refine wl_v (x_assign (tmS rfl rfl)) ?_
   refine wl_v (x_assign (tmI rfl rfl)) ?_
   refine wl_nil ?_
   refine then_n (hK4 _ _ ?_); clear hK4 K4
   refine wp_seq_k ?_; intro K5 hK5
   refine wlit ?_
   refine wl_v (x_move (tmP rfl rfl)) ?_
   refine wl_v (x_move (tmI rfl rfl)) ?_
   refine wl_e rfl ?_; intro K hK
   refine ow_call Try.func28 rfl rfl (evs_cons (tmP rfl rfl) <| evs_cons (tmI rfl rfl) <| evs_nil) (dcut_c g A m c safe most syncs sz l _ _ (hS.enter [2, 3] [] rfl rfl) (by omega)) ?_
   rintro e w ⟨rfl, hS2⟩
   refine ⟨_, rfl, ?_⟩
   replace hS := hS.leave [2, 3] [0] rfl rfl rfl hS2 rfl --ents row,g,rows
   clear hS2
   try replace hS := St.nm (M' := [.row _ _ _ _ _, _, .row _ _ _ _ _]) hS rfl
   refine hK _ _ ?_; clear hK K
   refine wl_nil ?_
   refine then_n (hK5 _ _ ?_); clear hK5 K5
   refine wp_seq_k ?_; intro K6 hK6
   refine wlit ?_
   refine wl_v (x_move (tmP rfl rfl)) ?_
   refine wl_v (x_move (tmS rfl rfl)) ?_
   refine wl_v (x_build (bc_take (tmP rfl rfl) <| bc_take (tmS rfl rfl) <| bc_nil) (by kernel_rfl)) ?_
   refine wl_e rfl ?_; intro K hK
   refine ow_box hS (tmA rfl rfl) rfl ?_
   clear hS; intro g5_3 w hg5_3 hS
   refine hK _ _ ?_; clear hK K
   refine wl_v (x_assign (tmP rfl rfl)) ?_
   refine wl_v (x_assign (ev_cN 0)) ?_
   refine wl_nil ?_
   refine then_n (hK6 _ _ ?_); clear hK6 K6
   refine wp_ret ?_
   refine ret2 rfl (.tmp rfl (show _ = Value.pointer _ from rfl)) (.tmp rfl (show _ = Value.int _ _ from rfl)) ?_
   exact ⟨_, G, ng, cg, rows, sz, hng, rfl, hR, hS.pick [0, 3, 1, 2] rfl rfl⟩
set_option maxRecDepth 100000 in
set_option maxHeartbeats 4000000 in
theorem jlen_c (gj g : Nat) (G : Option Addr) (ng cg : Nat) (w0 : World) (hv : View w0 w0.heap.size (some ⟨gj, 0, none⟩) (jnV g G ng cg)) :
    Calls Try.prog 15 #[.pointer (some ⟨gj, 0, none⟩)] w0 fun e w' => e = .returned (.int .i64 (ng : Int)) ∧ Kp [] w0 w' := by
  have hS := (St.sv w0).vcons rfl hv
  refine ent (n := 10) Try.func15 rfl rfl ?_
  refine wp_seq_k ?_; intro K1 hK1
  refine wlit ?_
  refine wl_v (x_assign (ev_cN 0)) ?_
  refine wl_nil ?_
  refine then_n (hK1 _ _ ?_); clear hK1 K1
  refine wp_seq_k ?_; intro K2 hK2
  refine wp_seq_k ?_; intro K3 hK3
  refine wlit ?_
  refine wl_v (x_move (tmP rfl rfl)) ?_
  first
   | refine wl_v (x_peql Try.underlying33 (tmP rfl rfl) ev_c) ?_
   | refine wl_v (x_peqln Try.underlying33 (tmP rfl rfl) ev_c) ?_
  refine wl_nil ?_
  refine then_n (hK3 _ _ ?_); clear hK3 K3
  refine cnd (tm rfl) (fun hc0 => ?_) (fun hc0 => ?_)
  · exfalso
    simp at hc0
  try (exfalso; first | with_reducible exact absurd hc0 Bool.false_ne_true | with_reducible exact absurd hc0.symm Bool.false_ne_true | (simp only [nrm] at hc0; omega) | (simp at hc0; done))
  all_goals
   try simp only [nrm] at hc0
   refine wp_skip ?_
   refine then_n (hK2 _ _ ?_); clear hK2 K2
   refine wp_seq_k ?_; intro K4 hK4
   refine wlit ?_
   refine wl_v (x_move (tmP rfl rfl)) ?_
   refine wl_v (x_nil (A := none) (tmP rfl rfl)) ?_
   refine wl_v (x_fa 1 Try.underlying58 rfl rfl ts_25 (tmP rfl rfl)) ?_
   first
    | refine wl_v (x_load Try.underlying25 rfl (tmP rfl rfl) (cellV hS.ok 0 rfl rfl)) ?_
    | refine wl_v (x_load Try.underlying25 rfl (tmP rfl rfl) (cellV hS.ok 0 rfl (getm (by omega)))) ?_
    | refine wl_v (x_load Try.underlying25 rfl (tmP rfl rfl) (cellVs hS.ok 0 rfl (fun _ => rfl) rfl (by omega) rfl)) ?_
   refine wl_v (x_len Try.underlying25 (tmS rfl rfl)) ?_
   refine wl_v (x_assign (tmI rfl rfl)) ?_
   refine wl_nil ?_
   refine then_n (hK4 _ _ ?_); clear hK4 K4
   refine wp_ret ?_
   refine ret1 rfl (.tmp rfl (show _ = Value.int _ _ from rfl)) ?_
   exact ⟨rfl, hS.kp⟩
set_option maxRecDepth 100000 in
set_option maxHeartbeats 4000000 in
theorem jsync_c (gj g : Nat) (G : Option Addr) (ng cg : Nat) (A : Option Addr) (m c safe most syncs : Nat) (F : List Nat) (w0 : World)
    (hS : St F w0 [.blk g 54 (dkV A m c safe most syncs), .vw (some ⟨gj, 0, none⟩) (jnV g G ng cg)] w0) (hm4 : syncs ≤ 1000000) :
    Calls Try.prog 13 #[.pointer (some ⟨gj, 0, none⟩)] w0 fun e w' => e = .returned (.int .i64 0) ∧ St F w0 [.blk g 54 (dkV A m c m most (syncs + 1)), .vw (some ⟨gj, 0, none⟩) (jnV g G ng cg)] w' := by
  refine ent (n := 10) Try.func13 rfl rfl ?_
  refine wp_seq_k ?_; intro K1 hK1
  refine wlit ?_
  refine wl_v (x_assign (ev_cN 0)) ?_
  refine wl_nil ?_
  refine then_n (hK1 _ _ ?_); clear hK1 K1
  refine wp_seq_k ?_; intro K2 hK2
  refine wp_seq_k ?_; intro K3 hK3
  refine wlit ?_
  refine wl_v (x_move (tmP rfl rfl)) ?_
  first
   | refine wl_v (x_peql Try.underlying33 (tmP rfl rfl) ev_c) ?_
   | refine wl_v (x_peqln Try.underlying33 (tmP rfl rfl) ev_c) ?_
  refine wl_nil ?_
  refine then_n (hK3 _ _ ?_); clear hK3 K3
  refine cnd (tm rfl) (fun hc0 => ?_) (fun hc0 => ?_)
  · exfalso
    simp at hc0
  try (exfalso; first | with_reducible exact absurd hc0 Bool.false_ne_true | with_reducible exact absurd hc0.symm Bool.false_ne_true | (simp only [nrm] at hc0; omega) | (simp at hc0; done))
  all_goals
   try simp only [nrm] at hc0
   refine wp_skip ?_
   refine then_n (hK2 _ _ ?_); clear hK2 K2
   refine wp_seq_k ?_; intro K4 hK4
   refine wlit ?_
   refine wl_v (x_move (tmP rfl rfl)) ?_
   refine wl_v (x_nil (A := none) (tmP rfl rfl)) ?_
   refine wl_v (x_fa 0 Try.underlying58 rfl rfl ts_31 (tmP rfl rfl)) ?_
   first
    | refine wl_v (x_load Try.underlying31 rfl (tmP rfl rfl) (cellB hS.ok 0 rfl rfl)) ?_
    | refine wl_v (x_load Try.underlying31 rfl (tmP rfl rfl) (cellV hS.ok 1 rfl rfl)) ?_
    | refine wl_v (x_load Try.underlying31 rfl (tmP rfl rfl) (cellV hS.ok 1 rfl (getm (by omega)))) ?_
    | refine wl_v (x_load Try.underlying31 rfl (tmP rfl rfl) (cellVs hS.ok 1 rfl (fun _ => rfl) rfl (by omega) rfl)) ?_
   refine wl_e rfl ?_; intro K hK
   refine ow_call Try.func30 rfl rfl (evs_cons (tmP rfl rfl) <| evs_nil) (dsync_c g A m c safe most syncs _ _ (hS.enter [0] [] rfl rfl) hm4) ?_
   rintro e w ⟨rfl, hS2⟩
   refine ⟨_, rfl, ?_⟩
   replace hS := hS.leave [0] [1] rfl rfl rfl hS2 rfl
   clear hS2
   try replace hS := St.nm (M' := [_, .vw _ _]) hS rfl
   refine hK _ _ ?_; clear hK K
   refine wl_v (x_assign (tmI rfl rfl)) ?_
   refine wl_nil ?_
   refine then_n (hK4 _ _ ?_); clear hK4 K4
   refine wp_ret ?_
   refine ret1 rfl (.tmp rfl (show _ = Value.int _ _ from rfl)) ?_
   exact ⟨rfl, hS.pick [0, 1] rfl rfl⟩
set_option maxRecDepth 100000 in
set_option maxHeartbeats 4000000 in
theorem jwrite_c (gj g : Nat) (G : Option Addr) (ng cg : Nat) (rs : List Value) (A : Option Addr) (m c safe most syncs : Nat) (l : List Nat) (B : Option Addr) (n cb : Nat) (b : List Nat) (F : List Nat) (w0 : World)
    (hS : St F w0 [.blk gj 58 (jnV g G ng cg), .row (.slice G ng cg) 22 1 ng rs, .row (.slice A m c) 5 1 m (l.map u8v), .blk g 54 (dkV A m c safe most syncs), .vw B (b.map u8v)] w0) (hl : b.length = n) (hbb : Bytes b) (hn4 : n ≤ 1000) (hm : m + (14 + n) ≤ most) (hm4 : most ≤ 1000000) (hng : ng ≤ 1000) :
    Calls Try.prog 12 #[.pointer (some ⟨gj, 0, none⟩), .slice B n cb] w0 fun e w' => ∃ G' cg' rs' A' c', e = .returned (.int .i64 0) ∧
      St F w0 [.blk gj 58 (jnV g G' (ng + 1) cg'), .row (.slice G' (ng + 1) cg') 22 1 (ng + 1) rs', .row (.slice A' (m + (14 + n)) c') 5 1 (m + (14 + n)) ((l ++ frm (ng + 1) b).map u8v), .blk g 54 (dkV A' (m + (14 + n)) c' safe most syncs), .vw B (b.map u8v)] w' := by
  refine ent (n := 36) Try.func12 rfl rfl ?_
  refine wp_seq_k ?_; intro K1 hK1
  refine wlit ?_
  refine wl_v (x_assign (ev_cN 0)) ?_
  refine wl_nil ?_
  refine then_n (hK1 _ _ ?_); clear hK1 K1
  refine wp_seq_k ?_; intro K2 hK2
  refine wp_seq_k ?_; intro K3 hK3
  refine wlit ?_
  refine wl_v (x_move (tmP rfl rfl)) ?_
  first
   | refine wl_v (x_peql Try.underlying33 (tmP rfl rfl) ev_c) ?_
   | refine wl_v (x_peqln Try.underlying33 (tmP rfl rfl) ev_c) ?_
  refine wl_nil ?_
  refine then_n (hK3 _ _ ?_); clear hK3 K3
  refine cnd (tm rfl) (fun hc0 => ?_) (fun hc0 => ?_)
  · exfalso
    simp at hc0
  try (exfalso; first | with_reducible exact absurd hc0 Bool.false_ne_true | with_reducible exact absurd hc0.symm Bool.false_ne_true | (simp only [nrm] at hc0; omega) | (simp at hc0; done))
  all_goals
   try simp only [nrm] at hc0
   refine wp_skip ?_
   refine then_n (hK2 _ _ ?_); clear hK2 K2
   refine wp_seq_k ?_; intro K4 hK4
   refine wp_seq_k ?_; intro K5 hK5
   refine wlit ?_
   refine wl_v (x_move (tmS rfl rfl)) ?_
   refine wl_v (x_len Try.underlying22 (tmS rfl rfl)) ?_
   refine wl_v (x_gtr (tmI rfl rfl) (ev_cN 4096)) ?_
   refine wl_nil ?_
   refine then_n (hK5 _ _ ?_); clear hK5 K5
   refine cnd (tm rfl) (fun hc1 => ?_) (fun hc1 => ?_)
   · exfalso
     simp at hc1
     omega
   try (exfalso; first | with_reducible exact absurd hc1 Bool.false_ne_true | with_reducible exact absurd hc1.symm Bool.false_ne_true | (simp only [nrm] at hc1; omega) | (simp at hc1; done))
   all_goals
    try simp only [nrm] at hc1
    refine wp_skip ?_
    refine then_n (hK4 _ _ ?_); clear hK4 K4
    refine wp_seq_k ?_; intro K6 hK6
    refine wp_seq_k ?_; intro K7 hK7
    replace hS := hS.pick [2, 3, 0, 1, 4] rfl rfl
    try replace hS := St.nm (M' := [.row _ _ _ _ _, _, _, .row _ _ _ _ _, .vw _ _]) hS rfl
    refine rg_startk 2 hS mixed_ ?_
    clear hS; intro w hS
    refine rg_take 0 rfl rfl (by kernel_rfl) (by kernel_rfl) (by kernel_rfl) (want_0) (fun w hok => x_move (tmP rfl rfl)) ?_
    refine rg_take 1 rfl rfl (by kernel_rfl) (by kernel_rfl) (by kernel_rfl) (want_0) (fun w hok => x_nil (A := none) (tmP rfl rfl)) ?_
    refine rg_take 2 rfl rfl (by kernel_rfl) (by kernel_rfl) (by kernel_rfl) (want_0) (fun w hok => x_fa 0 Try.underlying58 rfl rfl ts_31 (tmP rfl rfl)) ?_
    first
     | refine rg_take 3 rfl rfl (by kernel_rfl) (by kernel_rfl) (by kernel_rfl) (want_0) (fun w hok => x_load Try.underlying31 rfl (tmP rfl rfl) (cellB hok 0 rfl rfl)) ?_
     | refine rg_take 3 rfl rfl (by kernel_rfl) (by kernel_rfl) (by kernel_rfl) (want_0) (fun w hok => x_load Try.underlying31 rfl (tmP rfl rfl) (cellR hok 1 rfl rfl)) ?_
     | refine rg_take 3 rfl rfl (by kernel_rfl) (by kernel_rfl) (by kernel_rfl) (want_0) (fun w hok => x_load Try.underlying31 rfl (tmP rfl rfl) (cellR hok 1 rfl (getm (by omega)))) ?_
     | refine rg_take 3 rfl rfl (by kernel_rfl) (by kernel_rfl) (by kernel_rfl) (want_0) (fun w hok => x_load Try.underlying31 rfl (tmP rfl rfl) (cellRs hok 1 rfl (fun _ => rfl) rfl (by omega) rfl)) ?_
     | refine rg_take 3 rfl rfl (by kernel_rfl) (by kernel_rfl) (by kernel_rfl) (want_0) (fun w hok => x_load Try.underlying31 rfl (tmP rfl rfl) (cellV hok 2 rfl rfl)) ?_
     | refine rg_take 3 rfl rfl (by kernel_rfl) (by kernel_rfl) (by kernel_rfl) (want_0) (fun w hok => x_load Try.underlying31 rfl (tmP rfl rfl) (cellV hok 2 rfl (getm (by omega)))) ?_
     | refine rg_take 3 rfl rfl (by kernel_rfl) (by kernel_rfl) (by kernel_rfl) (want_0) (fun w hok => x_load Try.underlying31 rfl (tmP rfl rfl) (cellVs hok 2 rfl (fun _ => rfl) rfl (by omega) rfl)) ?_
    refine rg_take 4 rfl rfl (by kernel_rfl) (by kernel_rfl) (by kernel_rfl) (want_0) (fun w hok => x_move (tmP rfl rfl)) ?_
    refine rg_take 8 rfl rfl (by kernel_rfl) (by kernel_rfl) (by kernel_rfl) (want_0) (fun w hok => x_move (tmS rfl rfl)) ?_
    refine rg_step 5 rfl (by kernel_rfl) (want_0) (oks_drop hS 2 rfl) ?_; intro K hK
    refine ow_call Try.func15 rfl rfl (evs_cons (tmP rfl rfl) <| evs_nil) (jlen_c gj g G ng cg _ (viewB hS.ok 2 rfl)) ?_
    rintro e w ⟨rfl, hk⟩
    refine ⟨_, rfl, ?_⟩
    replace hS := hS.kept hk
    clear hk
    refine hK _ _ ?_; clear hK K
    first
     | refine rg_take 6 rfl rfl (by kernel_rfl) (by kernel_rfl) (by kernel_rfl) (want_0) (fun w hok => x_addN (tmI rfl rfl) (ev_cN 1) (fit_i64 (by omega))) ?_
     | refine rg_take 6 rfl rfl (by kernel_rfl) (by kernel_rfl) (by kernel_rfl) (want_0) (fun w hok => x_addI (tmI rfl rfl) (ev_cN 1) (IntWalk.i64_in _ (by omega))) ?_
     | refine rg_take 6 rfl rfl (by kernel_rfl) (by kernel_rfl) (by kernel_rfl) (want_0) (fun w hok => x_add (tmI rfl rfl) (ev_cN 1)) ?_
    first
     | refine rg_take 7 rfl rfl (by kernel_rfl) (by kernel_rfl) (by kernel_rfl) (want_0) (fun w hok => x_convN Try.underlying3 Try.underlying23 (tmI rfl rfl) (fit_u64 (by omega))) ?_
     | refine rg_take 7 rfl rfl (by kernel_rfl) (by kernel_rfl) (by kernel_rfl) (want_0) (fun w hok => x_convU Try.underlying3 Try.underlying23 (tmI rfl rfl) rfl) ?_
     | refine rg_take 7 rfl rfl (by kernel_rfl) (by kernel_rfl) (by kernel_rfl) (want_0) (fun w hok => x_conv Try.underlying3 Try.underlying23 (tmI rfl rfl)) ?_
    refine rg_step 9 rfl (by kernel_rfl) (want_0) (oks_drop hS 2 rfl) ?_; intro K hK
    refine ow_call Try.func7 rfl rfl (evs_cons (tmI rfl rfl) <| evs_cons (tmS rfl rfl) <| evs_nil) (frame_c (ng + 1) B n cb b _ (viewV hS.ok 4 rfl) hl (by omega) (by omega) hbb) ?_
    rintro e w ⟨Af, mf, cf, hmf, rfl, hn, hk⟩
    refine ⟨_, rfl, ?_⟩
    obtain rfl : mf = 14 + n := by rw [hmf, frm_len, hl]
    replace hS := hS.add hk hn -- +rowf
    clear hn hk
    refine hK _ _ ?_; clear hK K
    refine rg_step 10 rfl (by kernel_rfl) (want_0) (oks_drop hS 3 rfl) ?_; intro K hK
    refine ow_call Try.func29 rfl rfl (evs_cons (tmP rfl rfl) <| evs_cons (tmS rfl rfl) <| evs_nil) (dappend_c g A m c safe most syncs l Af (14 + n) cf (frm (ng + 1) b) _ _ (hS.enter [1, 2] [0] rfl rfl) (by rw [frm_len, hl]) hm hm4) ?_
    rintro e w ⟨A2, c2, rfl, hS2⟩
    refine ⟨_, rfl, ?_⟩
    replace hS := (hS.leave [1, 2] [0, 3, 4, 5] rfl rfl rfl (hS2.pick [0, 1] rfl rfl) rfl).pick [2, 0, 1, 3, 4, 5] rfl rfl --ents rowf,row,g,gj,rows,vw
    clear hS2
    try replace hS := St.nm (M' := [.row _ _ _ _ _, .row _ _ _ _ _, _, _, .row _ _ _ _ _, .vw _ _]) hS rfl
    refine hK _ _ ?_; clear hK K
    refine rg_take 11 rfl rfl (by kernel_rfl) (by kernel_rfl) (by kernel_rfl) (want_0) (fun w hok => x_assign (tmI rfl rfl)) ?_
    refine rg_done (oks_drop hS 3 rfl) (by kernel_rfl) ?_
    refine then_n (hK7 _ _ ?_); clear hK7 K7
    refine wp_seq_k ?_; intro K8 hK8
    refine wlit ?_
    refine wl_v (x_move (tmI rfl rfl)) ?_
    refine wl_v (x_neq (tmI rfl rfl) (ev_cN 0)) ?_
    refine wl_nil ?_
    refine then_n (hK8 _ _ ?_); clear hK8 K8
    refine cnd (tm rfl) (fun hc2 => ?_) (fun hc2 => ?_)
    · exfalso
      simp at hc2
    try (exfalso; first | with_reducible exact absurd hc2 Bool.false_ne_true | with_reducible exact absurd hc2.symm Bool.false_ne_true | (simp only [nrm] at hc2; omega) | (simp at hc2; done))
    all_goals
     try simp only [nrm] at hc2
     refine wp_skip ?_
     refine then_n (hK6 _ _ ?_); clear hK6 K6
     refine wp_seq_k ?_; intro K9 hK9
     replace hS := hS.pick [3, 4, 1, 2, 5] rfl rfl
     try replace hS := St.nm (M' := [_, .row _ _ _ _ _, .row _ _ _ _ _, _, .vw _ _]) hS rfl
     refine rg_startk 2 hS mixed_ ?_
     clear hS; intro w hS
     refine rg_take 0 rfl rfl (by kernel_rfl) (by kernel_rfl) (by kernel_rfl) (want_0) (fun w hok => x_move (tmP rfl rfl)) ?_
     refine rg_take 1 rfl rfl (by kernel_rfl) (by kernel_rfl) (by kernel_rfl) (want_0) (fun w hok => x_move (tmP rfl rfl)) ?_
     refine rg_take 2 rfl rfl (by kernel_rfl) (by kernel_rfl) (by kernel_rfl) (want_0) (fun w hok => x_nil (A := none) (tmP rfl rfl)) ?_
     refine rg_take 3 rfl rfl (by kernel_rfl) (by kernel_rfl) (by kernel_rfl) (want_0) (fun w hok => x_fa 1 Try.underlying58 rfl rfl ts_25 (tmP rfl rfl)) ?_
     refine rg_take 5 rfl rfl (by kernel_rfl) (by kernel_rfl) (by kernel_rfl) (want_0) (fun w hok => x_move (tmS rfl rfl)) ?_
     refine rg_step2 4 6 rfl rfl (by kernel_rfl) (want_0) (want_0) (oks_drop hS 2 rfl) ?_ ?_
     · intro K hK
       first
        | refine ow_v (x_load Try.underlying25 rfl (tmP rfl rfl) (cellB hS.ok 0 rfl rfl)) ?_
        | refine ow_v (x_load Try.underlying25 rfl (tmP rfl rfl) (cellB hS.ok 3 rfl rfl)) ?_
        | refine ow_v (x_load Try.underlying25 rfl (tmP rfl rfl) (cellR hS.ok 1 rfl rfl)) ?_
        | refine ow_v (x_load Try.underlying25 rfl (tmP rfl rfl) (cellR hS.ok 1 rfl (getm (by omega)))) ?_
        | refine ow_v (x_load Try.underlying25 rfl (tmP rfl rfl) (cellRs hS.ok 1 rfl (fun _ => rfl) rfl (by omega) rfl)) ?_
        | refine ow_v (x_load Try.underlying25 rfl (tmP rfl rfl) (cellR hS.ok 2 rfl rfl)) ?_
        | refine ow_v (x_load Try.underlying25 rfl (tmP rfl rfl) (cellR hS.ok 2 rfl (getm (by omega)))) ?_
        | refine ow_v (x_load Try.underlying25 rfl (tmP rfl rfl) (cellRs hS.ok 2 rfl (fun _ => rfl) rfl (by omega) rfl)) ?_
        | refine ow_v (x_load Try.underlying25 rfl (tmP rfl rfl) (cellV hS.ok 4 rfl rfl)) ?_
        | refine ow_v (x_load Try.underlying25 rfl (tmP rfl rfl) (cellV hS.ok 4 rfl (getm (by omega)))) ?_
        | refine ow_v (x_load Try.underlying25 rfl (tmP rfl rfl) (cellVs hS.ok 4 rfl (fun _ => rfl) rfl (by omega) rfl)) ?_
       refine hK _ _ ?_; clear hK K
       refine rg_step 6 rfl (by kernel_rfl) (want_0) (oks_drop hS 2 rfl) ?_; intro K hK
       refine ow_call Try.func18 rfl rfl (evs_cons (tmS rfl rfl) <| evs_nil) (clone_c n B cb b _ (viewV hS.ok 4 rfl) hl (by omega)) ?_
       rintro e w ⟨A3, c3, rfl, hn, hk⟩
       refine ⟨_, rfl, ?_⟩
       replace hS := hS.add hk hn -- +rowc
       clear hn hk
       refine hK _ _ ?_; clear hK K
       refine rg_step 7 rfl (by kernel_rfl) (want_0) (oks_drop hS 3 rfl) ?_; intro K hK
       refine ow_build hS Try.underlying25 tz_22 (bc_take (tmS rfl rfl) <| bc_nil) rfl rfl (by kernel_rfl) ?_
       clear hS; intro g8_7 w hg8_7 hS
       refine hK _ _ ?_; clear hK K
       refine rg_step 8 rfl (by kernel_rfl) (want_0) (oks_drop hS 4 rfl) ?_; intro K hK
       first
        | (refine ow_append hS 1 0 rfl rfl Try.underlying25 tz_22 rfl (tmS rfl rfl) (tmS rfl rfl) rfl ⟨by decide, by decide, rfl⟩ (by simp only [maxLen]; omega) (by omega) ?_; clear hS; intro g8_8 cg8_8 w hS)
        | (refine ow_append hS 3 0 rfl rfl Try.underlying25 tz_22 rfl (tmS rfl rfl) (tmS rfl rfl) rfl ⟨by decide, by decide, rfl⟩ (by simp only [maxLen]; omega) (by omega) ?_; clear hS; intro g8_8 cg8_8 w hS)
        | (refine ow_append hS 4 0 rfl rfl Try.underlying25 tz_22 rfl (tmS rfl rfl) (tmS rfl rfl) rfl ⟨by decide, by decide, rfl⟩ (by simp only [maxLen]; omega) (by omega) ?_; clear hS; intro g8_8 cg8_8 w hS)
       refine hK _ _ ?_; clear hK K
       refine rg_take 9 rfl rfl (by kernel_rfl) (by kernel_rfl) (by kernel_rfl) (want_0) (fun w hok => x_nil (A := none) (tmP rfl rfl)) ?_
       refine rg_take 10 rfl rfl (by kernel_rfl) (by kernel_rfl) (by kernel_rfl) (want_0) (fun w hok => x_fa 1 Try.underlying58 rfl rfl ts_25 (tmP rfl rfl)) ?_
       refine rg_step 11 rfl (by kernel_rfl) (want_0) (oks_drop hS 4 rfl) ?_; intro K hK
       first
        | refine ow_store hS 1 rfl ts_25 (tmP rfl rfl) (tmS rfl rfl) rfl rfl ?_
        | refine ow_storeX hS 1 rfl ts_25 (tmP rfl rfl) (tmS rfl rfl) rfl (by simp; omega) ?_
        | refine ow_storeRs hS 1 rfl ts_25 (tmP rfl rfl) (tmS rfl rfl) rfl (by first | omega | (simp; omega)) ?_
        | refine ow_storeR hS 1 rfl ts_25 (tmP rfl rfl) (tmS rfl rfl) rfl (by first | omega | (simp; omega)) ?_
        | refine ow_store hS 2 rfl ts_25 (tmP rfl rfl) (tmS rfl rfl) rfl rfl ?_
        | refine ow_storeX hS 2 rfl ts_25 (tmP rfl rfl) (tmS rfl rfl) rfl (by simp; omega) ?_
        | refine ow_storeRs hS 2 rfl ts_25 (tmP rfl rfl) (tmS rfl rfl) rfl (by first | omega | (simp; omega)) ?_
        | refine ow_storeR hS 2 rfl ts_25 (tmP rfl rfl) (tmS rfl rfl) rfl (by first | omega | (simp; omega)) ?_
        | refine ow_store hS 3 rfl ts_25 (tmP rfl rfl) (tmS rfl rfl) rfl rfl ?_
        | refine ow_storeX hS 3 rfl ts_25 (tmP rfl rfl) (tmS rfl rfl) rfl (by simp; omega) ?_
        | refine ow_storeRs hS 3 rfl ts_25 (tmP rfl rfl) (tmS rfl rfl) rfl (by first | omega | (simp; omega)) ?_
        | refine ow_storeR hS 3 rfl ts_25 (tmP rfl rfl) (tmS rfl rfl) rfl (by first | omega | (simp; omega)) ?_
        | refine ow_store hS 4 rfl ts_25 (tmP rfl rfl) (tmS rfl rfl) rfl rfl ?_
        | refine ow_storeX hS 4 rfl ts_25 (tmP rfl rfl) (tmS rfl rfl) rfl (by simp; omega) ?_
        | refine ow_storeRs hS 4 rfl ts_25 (tmP rfl rfl) (tmS rfl rfl) rfl (by first | omega | (simp; omega)) ?_
        | refine ow_storeR hS 4 rfl ts_25 (tmP rfl rfl) (tmS rfl rfl) rfl (by first | omega | (simp; omega)) ?_
        | refine ow_store hS 5 rfl ts_25 (tmP rfl rfl) (tmS rfl rfl) rfl rfl ?_
        | refine ow_storeX hS 5 rfl ts_25 (tmP rfl rfl) (tmS rfl rfl) rfl (by simp; omega) ?_
        | refine ow_storeRs hS 5 rfl ts_25 (tmP rfl rfl) (tmS rfl rfl) rfl (by first | omega | (simp; omega)) ?_
        | refine ow_storeR hS 5 rfl ts_25 (tmP rfl rfl) (tmS rfl rfl) rfl (by first | omega | (simp; omega)) ?_
       clear hS; intro w hS
       refine hK _ _ ?_; clear hK K
       refine rg_done (oks_drop hS 4 rfl) (by kernel_rfl) ?_
       refine then_n (hK9 _ _ ?_); clear hK9 K9
       refine wp_seq_k ?_; intro K10 hK10
       refine wlit ?_
       refine wl_v (x_assign (ev_cN 0)) ?_
       refine wl_nil ?_
       refine then_n (hK10 _ _ ?_); clear hK10 K10
       refine wp_ret ?_
       refine ret1 rfl (.tmp rfl (show _ = Value.int _ _ from rfl)) ?_
       exact ⟨_, _, _, _, _, rfl, hS.pick [2, 3, 4, 5, 6] rfl rfl⟩
     · intro K hK
       refine ow_call Try.func18 rfl rfl (evs_cons (tmS rfl rfl) <| evs_nil) (clone_c n B cb b _ (viewV hS.ok 4 rfl) hl (by omega)) ?_
       rintro e w ⟨A3, c3, rfl, hn, hk⟩
       refine ⟨_, rfl, ?_⟩
       replace hS := hS.add hk hn -- +rowc
       clear hn hk
       refine hK _ _ ?_; clear hK K
       refine rg_step2 4 7 rfl rfl (by kernel_rfl) (want_0) (want_0) (oks_drop hS 3 rfl) ?_ ?_
       · intro K hK
         first
          | refine ow_v (x_load Try.underlying25 rfl (tmP rfl rfl) (cellB hS.ok 1 rfl rfl)) ?_
          | refine ow_v (x_load Try.underlying25 rfl (tmP rfl rfl) (cellB hS.ok 4 rfl rfl)) ?_
          | refine ow_v (x_load Try.underlying25 rfl (tmP rfl rfl) (cellR hS.ok 0 rfl rfl)) ?_
          | refine ow_v (x_load Try.underlying25 rfl (tmP rfl rfl) (cellR hS.ok 0 rfl (getm (by omega)))) ?_
          | refine ow_v (x_load Try.underlying25 rfl (tmP rfl rfl) (cellRs hS.ok 0 rfl (fun _ => rfl) rfl (by omega) rfl)) ?_
          | refine ow_v (x_load Try.underlying25 rfl (tmP rfl rfl) (cellR hS.ok 2 rfl rfl)) ?_
          | refine ow_v (x_load Try.underlying25 rfl (tmP rfl rfl) (cellR hS.ok 2 rfl (getm (by omega)))) ?_
          | refine ow_v (x_load Try.underlying25 rfl (tmP rfl rfl) (cellRs hS.ok 2 rfl (fun _ => rfl) rfl (by omega) rfl)) ?_
          | refine ow_v (x_load Try.underlying25 rfl (tmP rfl rfl) (cellR hS.ok 3 rfl rfl)) ?_
          | refine ow_v (x_load Try.underlying25 rfl (tmP rfl rfl) (cellR hS.ok 3 rfl (getm (by omega)))) ?_
          | refine ow_v (x_load Try.underlying25 rfl (tmP rfl rfl) (cellRs hS.ok 3 rfl (fun _ => rfl) rfl (by omega) rfl)) ?_
          | refine ow_v (x_load Try.underlying25 rfl (tmP rfl rfl) (cellV hS.ok 5 rfl rfl)) ?_
          | refine ow_v (x_load Try.underlying25 rfl (tmP rfl rfl) (cellV hS.ok 5 rfl (getm (by omega)))) ?_
          | refine ow_v (x_load Try.underlying25 rfl (tmP rfl rfl) (cellVs hS.ok 5 rfl (fun _ => rfl) rfl (by omega) rfl)) ?_
         refine hK _ _ ?_; clear hK K
         refine rg_step 7 rfl (by kernel_rfl) (want_0) (oks_drop hS 3 rfl) ?_; intro K hK
         refine ow_build hS Try.underlying25 tz_22 (bc_take (tmS rfl rfl) <| bc_nil) rfl rfl (by kernel_rfl) ?_
         clear hS; intro g8_7 w hg8_7 hS
         refine hK _ _ ?_; clear hK K
         refine rg_step 8 rfl (by kernel_rfl) (want_0) (oks_drop hS 4 rfl) ?_; intro K hK
         first
          | (refine ow_append hS 1 0 rfl rfl Try.underlying25 tz_22 rfl (tmS rfl rfl) (tmS rfl rfl) rfl ⟨by decide, by decide, rfl⟩ (by simp only [maxLen]; omega) (by omega) ?_; clear hS; intro g8_8 cg8_8 w hS)
          | (refine ow_append hS 3 0 rfl rfl Try.underlying25 tz_22 rfl (tmS rfl rfl) (tmS rfl rfl) rfl ⟨by decide, by decide, rfl⟩ (by simp only [maxLen]; omega) (by omega) ?_; clear hS; intro g8_8 cg8_8 w hS)
          | (refine ow_append hS 4 0 rfl rfl Try.underlying25 tz_22 rfl (tmS rfl rfl) (tmS rfl rfl) rfl ⟨by decide, by decide, rfl⟩ (by simp only [maxLen]; omega) (by omega) ?_; clear hS; intro g8_8 cg8_8 w hS)
         refine hK _ _ ?_; clear hK K
         refine rg_take 9 rfl rfl (by kernel_rfl) (by kernel_rfl) (by kernel_rfl) (want_0) (fun w hok => x_nil (A := none) (tmP rfl rfl)) ?_
         refine rg_take 10 rfl rfl (by kernel_rfl) (by kernel_rfl) (by kernel_rfl) (want_0) (fun w hok => x_fa 1 Try.underlying58 rfl rfl ts_25 (tmP rfl rfl)) ?_
         refine rg_step 11 rfl (by kernel_rfl) (want_0) (oks_drop hS 4 rfl) ?_; intro K hK
         first
          | refine ow_store hS 1 rfl ts_25 (tmP rfl rfl) (tmS rfl rfl) rfl rfl ?_
          | refine ow_storeX hS 1 rfl ts_25 (tmP rfl rfl) (tmS rfl rfl) rfl (by simp; omega) ?_
          | refine ow_storeRs hS 1 rfl ts_25 (tmP rfl rfl) (tmS rfl rfl) rfl (by first | omega | (simp; omega)) ?_
          | refine ow_storeR hS 1 rfl ts_25 (tmP rfl rfl) (tmS rfl rfl) rfl (by first | omega | (simp; omega)) ?_
          | refine ow_store hS 2 rfl ts_25 (tmP rfl rfl) (tmS rfl rfl) rfl rfl ?_
          | refine ow_storeX hS 2 rfl ts_25 (tmP rfl rfl) (tmS rfl rfl) rfl (by simp; omega) ?_
          | refine ow_storeRs hS 2 rfl ts_25 (tmP rfl rfl) (tmS rfl rfl) rfl (by first | omega | (simp; omega)) ?_
          | refine ow_storeR hS 2 rfl ts_25 (tmP rfl rfl) (tmS rfl rfl) rfl (by first | omega | (simp; omega)) ?_
          | refine ow_store hS 3 rfl ts_25 (tmP rfl rfl) (tmS rfl rfl) rfl rfl ?_
          | refine ow_storeX hS 3 rfl ts_25 (tmP rfl rfl) (tmS rfl rfl) rfl (by simp; omega) ?_
          | refine ow_storeRs hS 3 rfl ts_25 (tmP rfl rfl) (tmS rfl rfl) rfl (by first | omega | (simp; omega)) ?_
          | refine ow_storeR hS 3 rfl ts_25 (tmP rfl rfl) (tmS rfl rfl) rfl (by first | omega | (simp; omega)) ?_
          | refine ow_store hS 4 rfl ts_25 (tmP rfl rfl) (tmS rfl rfl) rfl rfl ?_
          | refine ow_storeX hS 4 rfl ts_25 (tmP rfl rfl) (tmS rfl rfl) rfl (by simp; omega) ?_
          | refine ow_storeRs hS 4 rfl ts_25 (tmP rfl rfl) (tmS rfl rfl) rfl (by first | omega | (simp; omega)) ?_
          | refine ow_storeR hS 4 rfl ts_25 (tmP rfl rfl) (tmS rfl rfl) rfl (by first | omega | (simp; omega)) ?_
          | refine ow_store hS 5 rfl ts_25 (tmP rfl rfl) (tmS rfl rfl) rfl rfl ?_
          | refine ow_storeX hS 5 rfl ts_25 (tmP rfl rfl) (tmS rfl rfl) rfl (by simp; omega) ?_
          | refine ow_storeRs hS 5 rfl ts_25 (tmP rfl rfl) (tmS rfl rfl) rfl (by first | omega | (simp; omega)) ?_
          | refine ow_storeR hS 5 rfl ts_25 (tmP rfl rfl) (tmS rfl rfl) rfl (by first | omega | (simp; omega)) ?_
         clear hS; intro w hS
         refine hK _ _ ?_; clear hK K
         refine rg_done (oks_drop hS 4 rfl) (by kernel_rfl) ?_
         refine then_n (hK9 _ _ ?_); clear hK9 K9
         refine wp_seq_k ?_; intro K11 hK11
         refine wlit ?_
         refine wl_v (x_assign (ev_cN 0)) ?_
         refine wl_nil ?_
         refine then_n (hK11 _ _ ?_); clear hK11 K11
         refine wp_ret ?_
         refine ret1 rfl (.tmp rfl (show _ = Value.int _ _ from rfl)) ?_
         exact ⟨_, _, _, _, _, rfl, hS.pick [2, 3, 4, 5, 6] rfl rfl⟩
       · intro K hK
         refine ow_build hS Try.underlying25 tz_22 (bc_take (tmS rfl rfl) <| bc_nil) rfl rfl (by kernel_rfl) ?_
         clear hS; intro g8_7 w hg8_7 hS
         refine hK _ _ ?_; clear hK K
         refine rg_step 4 rfl (by kernel_rfl) (want_0) (oks_drop hS 4 rfl) ?_; intro K hK
         first
          | refine ow_v (x_load Try.underlying25 rfl (tmP rfl rfl) (cellB hS.ok 0 rfl rfl)) ?_
          | refine ow_v (x_load Try.underlying25 rfl (tmP rfl rfl) (cellB hS.ok 2 rfl rfl)) ?_
          | refine ow_v (x_load Try.underlying25 rfl (tmP rfl rfl) (cellB hS.ok 5 rfl rfl)) ?_
          | refine ow_v (x_load Try.underlying25 rfl (tmP rfl rfl) (cellR hS.ok 1 rfl rfl)) ?_
          | refine ow_v (x_load Try.underlying25 rfl (tmP rfl rfl) (cellR hS.ok 1 rfl (getm (by omega)))) ?_
          | refine ow_v (x_load Try.underlying25 rfl (tmP rfl rfl) (cellRs hS.ok 1 rfl (fun _ => rfl) rfl (by omega) rfl)) ?_
          | refine ow_v (x_load Try.underlying25 rfl (tmP rfl rfl) (cellR hS.ok 3 rfl rfl)) ?_
          | refine ow_v (x_load Try.underlying25 rfl (tmP rfl rfl) (cellR hS.ok 3 rfl (getm (by omega)))) ?_
          | refine ow_v (x_load Try.underlying25 rfl (tmP rfl rfl) (cellRs hS.ok 3 rfl (fun _ => rfl) rfl (by omega) rfl)) ?_
          | refine ow_v (x_load Try.underlying25 rfl (tmP rfl rfl) (cellR hS.ok 4 rfl rfl)) ?_
          | refine ow_v (x_load Try.underlying25 rfl (tmP rfl rfl) (cellR hS.ok 4 rfl (getm (by omega)))) ?_
          | refine ow_v (x_load Try.underlying25 rfl (tmP rfl rfl) (cellRs hS.ok 4 rfl (fun _ => rfl) rfl (by omega) rfl)) ?_
          | refine ow_v (x_load Try.underlying25 rfl (tmP rfl rfl) (cellV hS.ok 6 rfl rfl)) ?_
          | refine ow_v (x_load Try.underlying25 rfl (tmP rfl rfl) (cellV hS.ok 6 rfl (getm (by omega)))) ?_
          | refine ow_v (x_load Try.underlying25 rfl (tmP rfl rfl) (cellVs hS.ok 6 rfl (fun _ => rfl) rfl (by omega) rfl)) ?_
         refine hK _ _ ?_; clear hK K
         refine rg_step 8 rfl (by kernel_rfl) (want_0) (oks_drop hS 4 rfl) ?_; intro K hK
         first
          | (refine ow_append hS 1 0 rfl rfl Try.underlying25 tz_22 rfl (tmS rfl rfl) (tmS rfl rfl) rfl ⟨by decide, by decide, rfl⟩ (by simp only [maxLen]; omega) (by omega) ?_; clear hS; intro g8_8 cg8_8 w hS)
          | (refine ow_append hS 3 0 rfl rfl Try.underlying25 tz_22 rfl (tmS rfl rfl) (tmS rfl rfl) rfl ⟨by decide, by decide, rfl⟩ (by simp only [maxLen]; omega) (by omega) ?_; clear hS; intro g8_8 cg8_8 w hS)
          | (refine ow_append hS 4 0 rfl rfl Try.underlying25 tz_22 rfl (tmS rfl rfl) (tmS rfl rfl) rfl ⟨by decide, by decide, rfl⟩ (by simp only [maxLen]; omega) (by omega) ?_; clear hS; intro g8_8 cg8_8 w hS)
         refine hK _ _ ?_; clear hK K
         refine rg_take 9 rfl rfl (by kernel_rfl) (by kernel_rfl) (by kernel_rfl) (want_0) (fun w hok => x_nil (A := none) (tmP rfl rfl)) ?_
         refine rg_take 10 rfl rfl (by kernel_rfl) (by kernel_rfl) (by kernel_rfl) (want_0) (fun w hok => x_fa 1 Try.underlying58 rfl rfl ts_25 (tmP rfl rfl)) ?_
         refine rg_step 11 rfl (by kernel_rfl) (want_0) (oks_drop hS 4 rfl) ?_; intro K hK
         first
          | refine ow_store hS 1 rfl ts_25 (tmP rfl rfl) (tmS rfl rfl) rfl rfl ?_
          | refine ow_storeX hS 1 rfl ts_25 (tmP rfl rfl) (tmS rfl rfl) rfl (by simp; omega) ?_
          | refine ow_storeRs hS 1 rfl ts_25 (tmP rfl rfl) (tmS rfl rfl) rfl (by first | omega | (simp; omega)) ?_
          | refine ow_storeR hS 1 rfl ts_25 (tmP rfl rfl) (tmS rfl rfl) rfl (by first | omega | (simp; omega)) ?_
          | refine ow_store hS 2 rfl ts_25 (tmP rfl rfl) (tmS rfl rfl) rfl rfl ?_
          | refine ow_storeX hS 2 rfl ts_25 (tmP rfl rfl) (tmS rfl rfl) rfl (by simp; omega) ?_
          | refine ow_storeRs hS 2 rfl ts_25 (tmP rfl rfl) (tmS rfl rfl) rfl (by first | omega | (simp; omega)) ?_
          | refine ow_storeR hS 2 rfl ts_25 (tmP rfl rfl) (tmS rfl rfl) rfl (by first | omega | (simp; omega)) ?_
          | refine ow_store hS 3 rfl ts_25 (tmP rfl rfl) (tmS rfl rfl) rfl rfl ?_
          | refine ow_storeX hS 3 rfl ts_25 (tmP rfl rfl) (tmS rfl rfl) rfl (by simp; omega) ?_
          | refine ow_storeRs hS 3 rfl ts_25 (tmP rfl rfl) (tmS rfl rfl) rfl (by first | omega | (simp; omega)) ?_
          | refine ow_storeR hS 3 rfl ts_25 (tmP rfl rfl) (tmS rfl rfl) rfl (by first | omega | (simp; omega)) ?_
          | refine ow_store hS 4 rfl ts_25 (tmP rfl rfl) (tmS rfl rfl) rfl rfl ?_
          | refine ow_storeX hS 4 rfl ts_25 (tmP rfl rfl) (tmS rfl rfl) rfl (by simp; omega) ?_
          | refine ow_storeRs hS 4 rfl ts_25 (tmP rfl rfl) (tmS rfl rfl) rfl (by first | omega | (simp; omega)) ?_
          | refine ow_storeR hS 4 rfl ts_25 (tmP rfl rfl) (tmS rfl rfl) rfl (by first | omega | (simp; omega)) ?_
          | refine ow_store hS 5 rfl ts_25 (tmP rfl rfl) (tmS rfl rfl) rfl rfl ?_
          | refine ow_storeX hS 5 rfl ts_25 (tmP rfl rfl) (tmS rfl rfl) rfl (by simp; omega) ?_
          | refine ow_storeRs hS 5 rfl ts_25 (tmP rfl rfl) (tmS rfl rfl) rfl (by first | omega | (simp; omega)) ?_
          | refine ow_storeR hS 5 rfl ts_25 (tmP rfl rfl) (tmS rfl rfl) rfl (by first | omega | (simp; omega)) ?_
         clear hS; intro w hS
         refine hK _ _ ?_; clear hK K
         refine rg_done (oks_drop hS 4 rfl) (by kernel_rfl) ?_
         refine then_n (hK9 _ _ ?_); clear hK9 K9
         refine wp_seq_k ?_; intro K12 hK12
         refine wlit ?_
         refine wl_v (x_assign (ev_cN 0)) ?_
         refine wl_nil ?_
         refine then_n (hK12 _ _ ?_); clear hK12 K12
         refine wp_ret ?_
         refine ret1 rfl (.tmp rfl (show _ = Value.int _ _ from rfl)) ?_
         exact ⟨_, _, _, _, _, rfl, hS.pick [2, 3, 4, 5, 6] rfl rfl⟩
theorem bytes_sing {x : Nat} (h : x < 256) : Bytes [x] := fun y hy => by
  rw [List.mem_singleton.1 hy]; exact h
/-- What a crash leaves of two records has one. -/
theorem one_left {l : List Nat} {rows : List Row3} {sz : Nat} (hb : Bytes l) (hl : l.length = 18) (ht : l.take 15 = frm 1 [97]) (h : ScanR l rows sz) : rows.length = 1 := by
  obtain ⟨k, h1, h2, h3, h4⟩ := h
  have hlen := congrArg List.length h1
  simp at hlen
  have he : l = be 1 8 ++ (be 1 2 ++ (be (crc (hdr 1 1 ++ [97])) 4 ++ ([97] ++ l.drop 15))) := by
    conv => lhs; rw [← List.take_append_drop 15 l, ht]
    unfold frm hdr
    simp only [List.append_assoc]
    rfl
  have hj : jlen l 0 = 1 := by
    unfold jlen
    exact getN_at he (by rw [be_length])
  have hr : jrec l 0 = [97] := by
    unfold jrec
    rw [hj]
    refine part_at (P := be 1 8 ++ (be 1 2 ++ be (crc (hdr 1 1 ++ [97])) 4)) (Q := l.drop 15) ?_ (by simp [be_length]) rfl
    rw [List.append_assoc, List.append_assoc]
    exact he
  have hf : jfit l 0 1 := by
    refine (jfit_iff hb (by omega) (by omega) (by omega)).1 ?_
    rw [hj, hr, ← ht]
    rfl
  have hk : k = 1 := by
    rcases Nat.lt_trichotomy k 1 with h | h | h
    · obtain rfl : k = 0 := by omega
      exact absurd hf h4
    · exact h
    · have h5 := h3 1 h
      have h6 : jpos l 1 = 15 := by
        show 0 + 14 + jlen l 0 = 15
        rw [hj]
      rw [h6] at h5
      have := h5.1
      omega
  omega
set_option maxRecDepth 100000 in
set_option maxHeartbeats 4000000 in
theorem law25_awake_c (w0 : World) : Calls Try.prog 4 #[] w0 fun e w' => e = .returned (.bool true) ∧ Kp [] w0 w' := by
  have hS := St.sv w0
  refine ent (n := 55) Try.func4 rfl rfl ?_
  refine wp_seq_k ?_; intro K1 hK1
  refine wlit ?_
  refine wl_v (x_assign ev_c) ?_
  refine wl_nil ?_
  refine then_n (hK1 _ _ ?_); clear hK1 K1
  refine wp_seq_k ?_; intro K2 hK2
  refine wlit ?_
  refine wl_e rfl ?_; intro K hK
  refine ow_call Try.func10 rfl rfl (evs_cons (ev_cN 100) <| evs_nil) (dnew_c 100 _) ?_
  rintro e w ⟨gd, rfl, hn, hk⟩
  refine ⟨_, rfl, ?_⟩
  replace hS := (hS.add hk hn).nilrow 5 1 --ents row,gd
  clear hn hk
  refine hK _ _ ?_; clear hK K
  refine wl_v (x_assign (tmP rfl rfl)) ?_
  refine wl_nil ?_
  refine then_n (hK2 _ _ ?_); clear hK2 K2
  refine wp_seq_k ?_; intro K3 hK3
  refine wlit ?_
  refine wl_v (x_move (tmP rfl rfl)) ?_
  refine wl_e rfl ?_; intro K hK
  refine ow_call Try.func11 rfl rfl (evs_cons (tmP rfl rfl) <| evs_nil) (jopen_c gd none 0 0 0 100 0 [] _ _ (hS.enter [0, 1] [] rfl rfl) rfl (by omega) Bytes.nil) ?_
  rintro e w ⟨gj, G, ng, cg, rows, sz, hng, rfl, hR, hS2⟩
  refine ⟨_, rfl, ?_⟩
  replace hS := hS.leave [0, 1] [] rfl rfl rfl hS2 rfl --ents gj,rows,row,gd
  clear hS2
  have hb0 := hR.bounds
  obtain rfl : sz = 0 := by have := hb0.1; simpa using this
  obtain rfl : ng = 0 := by have := hb0.2.1; rw [hng] at this; simpa using this
  clear hb0 hR
  try replace hS := St.nm (M' := [_, .row _ _ _ _ _, .row _ _ _ _ _, _]) hS rfl
  refine hK _ _ ?_; clear hK K
  refine wl_v (x_move (tmT rfl rfl)) ?_
  refine wl_v (x_ext (tmT rfl rfl) rfl) ?_
  refine wl_v (x_ext (tmT rfl rfl) rfl) ?_
  refine wl_v (x_assign (tmP rfl rfl)) ?_
  refine wl_v (x_assign (tmI rfl rfl)) ?_
  refine wl_nil ?_
  refine then_n (hK3 _ _ ?_); clear hK3 K3
  refine wp_seq_k ?_; intro K4 hK4
  refine wlit ?_
  refine wl_v (x_move (tmP rfl rfl)) ?_
  refine wl_e rfl ?_; intro K hK
  refine ow_build hS Try.underlying22 tz_5 (bc_take (ev_cN 97) <| bc_nil) rfl rfl (by kernel_rfl) ?_
  clear hS; intro g3_1 w hg3_1 hS
  refine hK _ _ ?_; clear hK K
  refine wl_e rfl ?_; intro K hK
  refine ow_bconst hS 0 rfl Try.underlying22 Try.underlying5 (tmS rfl rfl) ?_
  clear hS; intro w hS
  refine hK _ _ ?_; clear hK K
  refine wl_e rfl ?_; intro K hK
  refine ow_call Try.func12 rfl rfl (evs_cons (tmP rfl rfl) <| evs_cons (tmS rfl rfl) <| evs_nil) (jwrite_c gj gd G 0 cg (rows.map rowV) none 0 0 0 100 0 [] _ 1 1 [97] _ _ (hS.enter [1, 2, 3, 4] [0] rfl rfl) rfl (bytes_sing (by decide)) (by omega) (by omega) (by omega) (by omega)) ?_
  rintro e w ⟨G2, cg2, rs2, A2, c2, rfl, hS2⟩
  refine ⟨_, rfl, ?_⟩
  replace hS := hS.leave [1, 2, 3, 4] [0] rfl rfl rfl (hS2.pick [0, 1, 2, 3] rfl rfl) rfl --ents gj,rows,row,gd,vg3_1
  clear hS2
  try replace hS := St.nm (M' := [_, .row _ _ _ _ _, .row _ _ _ _ _, _, .vw _ _]) hS rfl
  refine hK _ _ ?_; clear hK K
  refine wl_v (x_move (tmP rfl rfl)) ?_
  refine wl_e rfl ?_; intro K hK
  refine ow_call Try.func13 rfl rfl (evs_cons (tmP rfl rfl) <| evs_nil) (jsync_c gj gd G2 1 cg2 A2 15 c2 0 100 0 _ _ (hS.enter [3] [0] rfl rfl) (by omega)) ?_
  rintro e w ⟨rfl, hS2⟩
  refine ⟨_, rfl, ?_⟩
  replace hS := hS.leave [3] [0, 1, 2] rfl rfl rfl (hS2.pick [0] rfl rfl) rfl --ents gd,gj,rows,row
  clear hS2
  try replace hS := St.nm (M' := [_, _, .row _ _ _ _ _, .row _ _ _ _ _]) hS rfl
  refine hK _ _ ?_; clear hK K
  refine wl_v (x_move (tmP rfl rfl)) ?_
  refine wl_e rfl ?_; intro K hK
  refine ow_build hS Try.underlying22 tz_5 (bc_take (ev_cN 98) <| bc_nil) rfl rfl (by kernel_rfl) ?_
  clear hS; intro g3_7 w hg3_7 hS
  refine hK _ _ ?_; clear hK K
  refine wl_e rfl ?_; intro K hK
  refine ow_bconst hS 0 rfl Try.underlying22 Try.underlying5 (tmS rfl rfl) ?_
  clear hS; intro w hS
  refine hK _ _ ?_; clear hK K
  refine wl_e rfl ?_; intro K hK
  refine ow_call Try.func12 rfl rfl (evs_cons (tmP rfl rfl) <| evs_cons (tmS rfl rfl) <| evs_nil) (jwrite_c gj gd G2 1 cg2 rs2 A2 15 c2 15 100 1 (frm 1 [97]) _ 1 1 [98] _ _ (hS.enter [2, 3, 4, 1] [0] rfl rfl) rfl (bytes_sing (by decide)) (by omega) (by omega) (by omega) (by omega)) ?_
  rintro e w ⟨G3, cg3, rs3, A3, c3, rfl, hS2⟩
  refine ⟨_, rfl, ?_⟩
  replace hS := hS.leave [2, 3, 4, 1] [0] rfl rfl rfl (hS2.pick [0, 1, 2, 3] rfl rfl) rfl --ents gj,rows,row,gd,vg3_7
  clear hS2
  try replace hS := St.nm (M' := [_, .row _ _ _ _ _, .row _ _ _ _ _, _, .vw _ _]) hS rfl
  refine hK _ _ ?_; clear hK K
  refine wl_v (x_assign (tmI rfl rfl)) ?_
  refine wl_v (x_assign (tmI rfl rfl)) ?_
  refine wl_v (x_assign (tmI rfl rfl)) ?_
  refine wl_nil ?_
  refine then_n (hK4 _ _ ?_); clear hK4 K4
  refine wp_seq_k ?_; intro K5 hK5
  refine wlit ?_
  refine wl_v (x_move (tmP rfl rfl)) ?_
  refine wl_e rfl ?_; intro K hK
  refine ow_call Try.func14 rfl rfl (evs_cons (tmP rfl rfl) <| evs_cons (ev_cN 3) <| evs_cons (ev_cN 0) <| evs_nil) (dcrash_c gd A3 30 c3 15 100 1 3 3 0 (frm 1 [97] ++ frm 2 [98]) _ _ (hS.enter [2, 3] [] rfl rfl) (by simp [frm_len]) ((frm_bytes (bytes_sing (by decide))).append (frm_bytes (bytes_sing (by decide)))) (by omega) (by omega) (by omega) (by omega)) ?_
  rintro e w ⟨l', rfl, hl', ht', hb', hS2⟩
  refine ⟨_, rfl, ?_⟩
  replace hS := hS.leave [2, 3] [] rfl rfl rfl hS2 rfl --ents row,gd
  clear hS2
  have ht2 : l'.take 15 = frm 1 [97] := by rw [ht', List.take_append_of_le_length (by rw [frm_len]; exact Nat.le_refl _), List.take_of_length_le (by rw [frm_len]; exact Nat.le_refl _)]
  try replace hS := St.nm (M' := [.row _ _ _ _ _, _]) hS rfl
  refine hK _ _ ?_; clear hK K
  refine wl_nil ?_
  refine then_n (hK5 _ _ ?_); clear hK5 K5
  refine wp_seq_k ?_; intro K6 hK6
  refine wlit ?_
  refine wl_v (x_move (tmP rfl rfl)) ?_
  refine wl_e rfl ?_; intro K hK
  refine ow_call Try.func11 rfl rfl (evs_cons (tmP rfl rfl) <| evs_nil) (jopen_c gd A3 18 c3 18 100 1 l' _ _ (hS.enter [0, 1] [] rfl rfl) hl' (by omega) hb') ?_
  rintro e w ⟨gk, Gk, nk, ck, rowk, sk, hnk, rfl, hR, hS2⟩
  refine ⟨_, rfl, ?_⟩
  replace hS := hS.leave [0, 1] [] rfl rfl rfl hS2 rfl --ents gk,rows,row,gd
  clear hS2
  obtain rfl : nk = 1 := hnk.symm.trans (one_left hb' hl' ht2 hR)
  clear hR
  try replace hS := St.nm (M' := [_, .row _ _ _ _ _, .row _ _ _ _ _, _]) hS rfl
  refine hK _ _ ?_; clear hK K
  refine wl_v (x_move (tmT rfl rfl)) ?_
  refine wl_v (x_ext (tmT rfl rfl) rfl) ?_
  refine wl_v (x_ext (tmT rfl rfl) rfl) ?_
  refine wl_v (x_assign (tmP rfl rfl)) ?_
  refine wl_v (x_assign (tmI rfl rfl)) ?_
  refine wl_nil ?_
  refine then_n (hK6 _ _ ?_); clear hK6 K6
  refine wp_seq_k ?_; intro K7 hK7
  refine wlit ?_
  refine wl_v (x_move (tmI rfl rfl)) ?_
  refine wl_v (x_eql (tmI rfl rfl) (ev_cN 0)) ?_
  refine wl_v (x_move (tmB rfl rfl)) ?_
  refine gs_wl (tm (t := 34) rfl) (fun hg6_2 => ?_) (fun hg6_2 => ?_)
  · have hg6_2' := hg6_2; (try simp only [nrm] at hg6_2'); try (exfalso; first | with_reducible exact absurd hg6_2 Bool.false_ne_true | with_reducible exact absurd hg6_2.symm Bool.false_ne_true | omega | (simp at hg6_2; done))
    all_goals
     refine wl_gv (want_y rfl rfl rfl rfl (by rw [hg6_2]; rfl)) (x_move (tmI rfl rfl)) ?_
     refine wl_gv (want_y rfl rfl rfl rfl (by rw [hg6_2]; rfl)) (x_eql (tmI rfl rfl) (ev_cN 0)) ?_
     refine wl_v (x_pickT (tmB rfl rfl) hg6_2 (tmB rfl rfl)) ?_
     refine wl_v (x_move (tmB rfl rfl)) ?_
     refine gs_wl (tm (t := 38) rfl) (fun hg6_6 => ?_) (fun hg6_6 => ?_)
     · have hg6_6' := hg6_6; (try simp only [nrm] at hg6_6'); try (exfalso; first | with_reducible exact absurd hg6_6 Bool.false_ne_true | with_reducible exact absurd hg6_6.symm Bool.false_ne_true | omega | (simp at hg6_6; done))
       all_goals
        refine wl_gv (want_y rfl rfl rfl rfl (by rw [hg6_6]; rfl)) (x_move (tmI rfl rfl)) ?_
        refine wl_gv (want_y rfl rfl rfl rfl (by rw [hg6_6]; rfl)) (x_eql (tmI rfl rfl) (ev_cN 0)) ?_
        refine wl_v (x_pickT (tmB rfl rfl) hg6_6 (tmB rfl rfl)) ?_
        refine wl_v (x_move (tmB rfl rfl)) ?_
        refine gs_wl (tm (t := 42) rfl) (fun hg6_10 => ?_) (fun hg6_10 => ?_)
        · have hg6_10' := hg6_10; (try simp only [nrm] at hg6_10'); try (exfalso; first | with_reducible exact absurd hg6_10 Bool.false_ne_true | with_reducible exact absurd hg6_10.symm Bool.false_ne_true | omega | (simp at hg6_10; done))
          all_goals
           refine wl_gv (want_y rfl rfl rfl rfl (by rw [hg6_10]; rfl)) (x_move (tmI rfl rfl)) ?_
           refine wl_gv (want_y rfl rfl rfl rfl (by rw [hg6_10]; rfl)) (x_eql (tmI rfl rfl) (ev_cN 0)) ?_
           refine wl_v (x_pickT (tmB rfl rfl) hg6_10 (tmB rfl rfl)) ?_
           refine wl_v (x_move (tmB rfl rfl)) ?_
           refine gs_wl (tm (t := 46) rfl) (fun hg6_14 => ?_) (fun hg6_14 => ?_)
           · have hg6_14' := hg6_14; (try simp only [nrm] at hg6_14'); try (exfalso; first | with_reducible exact absurd hg6_14 Bool.false_ne_true | with_reducible exact absurd hg6_14.symm Bool.false_ne_true | omega | (simp at hg6_14; done))
             all_goals
              refine wl_gv (want_y rfl rfl rfl rfl (by rw [hg6_14]; rfl)) (x_move (tmI rfl rfl)) ?_
              refine wl_gv (want_y rfl rfl rfl rfl (by rw [hg6_14]; rfl)) (x_eql (tmI rfl rfl) (ev_cN 0)) ?_
              refine wl_v (x_pickT (tmB rfl rfl) hg6_14 (tmB rfl rfl)) ?_
              refine wl_v (x_move (tmB rfl rfl)) ?_
              refine gs_wl (tm (t := 50) rfl) (fun hg6_18 => ?_) (fun hg6_18 => ?_)
              · have hg6_18' := hg6_18; (try simp only [nrm] at hg6_18'); try (exfalso; first | with_reducible exact absurd hg6_18 Bool.false_ne_true | with_reducible exact absurd hg6_18.symm Bool.false_ne_true | omega | (simp at hg6_18; done))
                all_goals
                 refine wl_gv (want_y rfl rfl rfl rfl (by rw [hg6_18]; rfl)) (x_move (tmP rfl rfl)) ?_
                 refine wl_g (want_y rfl rfl rfl rfl (by rw [hg6_18]; rfl)) ?_; intro K hK
                 refine ow_call Try.func15 rfl rfl (evs_cons (tmP rfl rfl) <| evs_nil) (jlen_c gk gd Gk 1 ck _ (viewB hS.ok 0 rfl)) ?_
                 rintro e w ⟨rfl, hk⟩
                 refine ⟨_, rfl, ?_⟩
                 replace hS := hS.kept hk
                 clear hk
                 refine hK _ _ ?_; clear hK K
                 refine wl_gv (want_y rfl rfl rfl rfl (by rw [hg6_18]; rfl)) (x_eql (tmI rfl rfl) (ev_cN 1)) ?_
                 refine wl_v (x_pickT (tmB rfl rfl) hg6_18 (tmB rfl rfl)) ?_
                 refine wl_v (x_assign (tmB rfl rfl)) ?_
                 refine wl_nil ?_
                 refine then_n (hK7 _ _ ?_); clear hK7 K7
                 refine wp_ret ?_
                 refine ret1 rfl (.tmp rfl (show _ = Value.bool _ from rfl)) ?_
                 exact ⟨by simp, hS.kp⟩
              have hg6_18' := hg6_18; (try simp only [nrm] at hg6_18'); try (exfalso; first | with_reducible exact absurd hg6_18 Bool.false_ne_true | with_reducible exact absurd hg6_18.symm Bool.false_ne_true | omega | (simp at hg6_18; done))
              all_goals
               refine wl_s rfl (want_n rfl rfl rfl rfl (by rw [hg6_18]; rfl)) ?_
               refine wl_s rfl (want_n rfl rfl rfl rfl (by rw [hg6_18]; rfl)) ?_
               refine wl_s rfl (want_n rfl rfl rfl rfl (by rw [hg6_18]; rfl)) ?_
               refine wl_v (x_pickF (tmB rfl rfl) hg6_18 ev_c) ?_
               refine wl_v (x_assign (tmB rfl rfl)) ?_
               refine wl_nil ?_
               refine then_n (hK7 _ _ ?_); clear hK7 K7
               refine wp_ret ?_
               refine ret1 rfl (.tmp rfl (show _ = Value.bool _ from rfl)) ?_
               exact ⟨by simp, hS.kp⟩
           have hg6_14' := hg6_14; (try simp only [nrm] at hg6_14'); try (exfalso; first | with_reducible exact absurd hg6_14 Bool.false_ne_true | with_reducible exact absurd hg6_14.symm Bool.false_ne_true | omega | (simp at hg6_14; done))
           all_goals
            refine wl_s rfl (want_n rfl rfl rfl rfl (by rw [hg6_14]; rfl)) ?_
            refine wl_s rfl (want_n rfl rfl rfl rfl (by rw [hg6_14]; rfl)) ?_
            refine wl_v (x_pickF (tmB rfl rfl) hg6_14 ev_c) ?_
            refine wl_v (x_move (tmB rfl rfl)) ?_
            refine wl_s rfl (want_n rfl rfl rfl rfl rfl) ?_
            refine wl_s rfl (want_n rfl rfl rfl rfl rfl) ?_
            refine wl_s rfl (want_n rfl rfl rfl rfl rfl) ?_
            refine wl_v (x_pickF (tmB rfl rfl) rfl ev_c) ?_
            refine wl_v (x_assign (tmB rfl rfl)) ?_
            refine wl_nil ?_
            refine then_n (hK7 _ _ ?_); clear hK7 K7
            refine wp_ret ?_
            refine ret1 rfl (.tmp rfl (show _ = Value.bool _ from rfl)) ?_
            exact ⟨by simp, hS.kp⟩
        have hg6_10' := hg6_10; (try simp only [nrm] at hg6_10'); try (exfalso; first | with_reducible exact absurd hg6_10 Bool.false_ne_true | with_reducible exact absurd hg6_10.symm Bool.false_ne_true | omega | (simp at hg6_10; done))
        all_goals
         refine wl_s rfl (want_n rfl rfl rfl rfl (by rw [hg6_10]; rfl)) ?_
         refine wl_s rfl (want_n rfl rfl rfl rfl (by rw [hg6_10]; rfl)) ?_
         refine wl_v (x_pickF (tmB rfl rfl) hg6_10 ev_c) ?_
         refine wl_v (x_move (tmB rfl rfl)) ?_
         refine wl_s rfl (want_n rfl rfl rfl rfl rfl) ?_
         refine wl_s rfl (want_n rfl rfl rfl rfl rfl) ?_
         refine wl_v (x_pickF (tmB rfl rfl) rfl ev_c) ?_
         refine wl_v (x_move (tmB rfl rfl)) ?_
         refine wl_s rfl (want_n rfl rfl rfl rfl rfl) ?_
         refine wl_s rfl (want_n rfl rfl rfl rfl rfl) ?_
         refine wl_s rfl (want_n rfl rfl rfl rfl rfl) ?_
         refine wl_v (x_pickF (tmB rfl rfl) rfl ev_c) ?_
         refine wl_v (x_assign (tmB rfl rfl)) ?_
         refine wl_nil ?_
         refine then_n (hK7 _ _ ?_); clear hK7 K7
         refine wp_ret ?_
         refine ret1 rfl (.tmp rfl (show _ = Value.bool _ from rfl)) ?_
         exact ⟨by simp, hS.kp⟩
     have hg6_6' := hg6_6; (try simp only [nrm] at hg6_6'); try (exfalso; first | with_reducible exact absurd hg6_6 Bool.false_ne_true | with_reducible exact absurd hg6_6.symm Bool.false_ne_true | omega | (simp at hg6_6; done))
     all_goals
      refine wl_s rfl (want_n rfl rfl rfl rfl (by rw [hg6_6]; rfl)) ?_
      refine wl_s rfl (want_n rfl rfl rfl rfl (by rw [hg6_6]; rfl)) ?_
      refine wl_v (x_pickF (tmB rfl rfl) hg6_6 ev_c) ?_
      refine wl_v (x_move (tmB rfl rfl)) ?_
      refine wl_s rfl (want_n rfl rfl rfl rfl rfl) ?_
      refine wl_s rfl (want_n rfl rfl rfl rfl rfl) ?_
      refine wl_v (x_pickF (tmB rfl rfl) rfl ev_c) ?_
      refine wl_v (x_move (tmB rfl rfl)) ?_
      refine wl_s rfl (want_n rfl rfl rfl rfl rfl) ?_
      refine wl_s rfl (want_n rfl rfl rfl rfl rfl) ?_
      refine wl_v (x_pickF (tmB rfl rfl) rfl ev_c) ?_
      refine wl_v (x_move (tmB rfl rfl)) ?_
      refine wl_s rfl (want_n rfl rfl rfl rfl rfl) ?_
      refine wl_s rfl (want_n rfl rfl rfl rfl rfl) ?_
      refine wl_s rfl (want_n rfl rfl rfl rfl rfl) ?_
      refine wl_v (x_pickF (tmB rfl rfl) rfl ev_c) ?_
      refine wl_v (x_assign (tmB rfl rfl)) ?_
      refine wl_nil ?_
      refine then_n (hK7 _ _ ?_); clear hK7 K7
      refine wp_ret ?_
      refine ret1 rfl (.tmp rfl (show _ = Value.bool _ from rfl)) ?_
      exact ⟨by simp, hS.kp⟩
  have hg6_2' := hg6_2; (try simp only [nrm] at hg6_2'); try (exfalso; first | with_reducible exact absurd hg6_2 Bool.false_ne_true | with_reducible exact absurd hg6_2.symm Bool.false_ne_true | omega | (simp at hg6_2; done))
  all_goals
   refine wl_s rfl (want_n rfl rfl rfl rfl (by rw [hg6_2]; rfl)) ?_
   refine wl_s rfl (want_n rfl rfl rfl rfl (by rw [hg6_2]; rfl)) ?_
   refine wl_v (x_pickF (tmB rfl rfl) hg6_2 ev_c) ?_
   refine wl_v (x_move (tmB rfl rfl)) ?_
   refine wl_s rfl (want_n rfl rfl rfl rfl rfl) ?_
   refine wl_s rfl (want_n rfl rfl rfl rfl rfl) ?_
   refine wl_v (x_pickF (tmB rfl rfl) rfl ev_c) ?_
   refine wl_v (x_move (tmB rfl rfl)) ?_
   refine wl_s rfl (want_n rfl rfl rfl rfl rfl) ?_
   refine wl_s rfl (want_n rfl rfl rfl rfl rfl) ?_
   refine wl_v (x_pickF (tmB rfl rfl) rfl ev_c) ?_
   refine wl_v (x_move (tmB rfl rfl)) ?_
   refine wl_s rfl (want_n rfl rfl rfl rfl rfl) ?_
   refine wl_s rfl (want_n rfl rfl rfl rfl rfl) ?_
   refine wl_v (x_pickF (tmB rfl rfl) rfl ev_c) ?_
   refine wl_v (x_move (tmB rfl rfl)) ?_
   refine wl_s rfl (want_n rfl rfl rfl rfl rfl) ?_
   refine wl_s rfl (want_n rfl rfl rfl rfl rfl) ?_
   refine wl_s rfl (want_n rfl rfl rfl rfl rfl) ?_
   refine wl_v (x_pickF (tmB rfl rfl) rfl ev_c) ?_
   refine wl_v (x_assign (tmB rfl rfl)) ?_
   refine wl_nil ?_
   refine then_n (hK7 _ _ ?_); clear hK7 K7
   refine wp_ret ?_
   refine ret1 rfl (.tmp rfl (show _ = Value.bool _ from rfl)) ?_
   exact ⟨by simp, hS.kp⟩
end Go.Proofs.Ytcimbinkjepkcaa
