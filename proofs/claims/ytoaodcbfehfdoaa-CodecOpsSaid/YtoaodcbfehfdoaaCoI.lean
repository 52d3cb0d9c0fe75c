
/- codec: the reference's Reader by contract. Conditions: none but bounds. -/
import Derived.Test.YtoaodcbfehfdoaaCoH
namespace Go.Proofs.Ytoaodcbfehfdoaa
open Go.ChangeShapes Go.WideShapes Go.ChangeAt Go.RowKit
def rfV (A : Option Addr) (m c : Nat) (bad : Bool) : List Value := [.slice A m c, .bool bad]
def RfO (A0 : Option Addr) (n : Nat) (q : Option Nat) (A : Option Addr) (m c : Nat) (bad : Bool) : Prop :=
  match q with
  | some p => bad = false ∧ p ≤ n ∧ m = n - p ∧ Off A0 p n A ∧ m ≤ c
  | none => bad = true
theorem RfO.good {A0 A : Option Addr} {n m c : Nat} {q : Option Nat} (h : RfO A0 n q A m c false) : ∃ p, q = some p ∧ p ≤ n ∧ m = n - p ∧ Off A0 p n A ∧ m ≤ c := by
  cases q with
  | none => cases (show false = true from h)
  | some p => exact ⟨p, rfl, h.2⟩
theorem rfo_end {A0 A : Option Addr} {n m c : Nat} {q : Option Nat} {bad : Bool} (h : RfO A0 n q A m c bad) : q = some n ↔ bad = false ∧ m = 0 := by
  cases q with
  | none =>
    have hb : bad = true := h
    constructor
    · intro h; cases h
    · rintro ⟨h, _⟩; rw [hb] at h; cases h
  | some p =>
    obtain ⟨rfl, h1, h2, _⟩ := h
    constructor
    · intro h
      injection h with h
      exact ⟨rfl, by omega⟩
    · rintro ⟨_, h⟩
      exact congrArg some (by omega)
set_option maxRecDepth 100000 in
set_option maxHeartbeats 8000000 in
theorem rtk_c (gr : Nat) (A0 A : Option Addr) (q : Option Nat) (k n m c : Nat) (l : List Nat) (bad : Bool) (F : List Nat) (w0 : World)
    (hS : St F w0 [.blk gr 59 (rfV A m c bad), .vw A0 (l.map u8v)] w0) (hR : RfO A0 n q A m c bad) (hl : l.length = n) (hk : k ≤ 255) :
    Calls Try.prog 41 #[.pointer (some ⟨gr, 0, none⟩), .int .i64 (k : Int)] w0 fun e w' => ∃ B nb cb A' m' c' bad', e = .returned (.slice B nb cb) ∧ nb = (rdB l n k q).length ∧ nb ≤ cb ∧ Sub A0 l B (rdB l n k q) ∧
      St F w0 [.blk gr 59 (rfV A' m' c' bad')] w' ∧ RfO A0 n (adv n k q) A' m' c' bad' := by
  refine ent (n := 38) Try.func41 rfl rfl ?_
  refine wp_seq_k ?_; intro K1 hK1
  refine wlit ?_
  refine wl_v (x_assign ev_c) ?_
  refine wl_nil ?_
  refine then_n (hK1 _ _ ?_); clear hK1 K1
  refine wp_seq_k ?_; intro K2 hK2
  refine wp_seq_k ?_; intro K3 hK3
  refine wlit ?_
  refine wl_v (x_move (tmP rfl rfl)) ?_
  refine wl_v (x_nil (A := none) (tmP rfl rfl)) ?_
  refine wl_v (x_fa 1 Try.underlying59 rfl rfl ts_4 (tmP rfl rfl)) ?_
  first
   | refine wl_v (x_load Try.underlying4 rfl (tmP rfl rfl) (cellB hS.ok 0 rfl rfl)) ?_
   | refine wl_v (x_load Try.underlying4 rfl (tmP rfl rfl) (cellV hS.ok 1 rfl rfl)) ?_
   | refine wl_v (x_load Try.underlying4 rfl (tmP rfl rfl) (cellV hS.ok 1 rfl (getm (by omega)))) ?_
   | refine wl_v (x_load Try.underlying4 rfl (tmP rfl rfl) (cellVs hS.ok 1 rfl (fun _ => rfl) rfl (by omega) rfl)) ?_
  refine wl_v (x_move (tmB rfl rfl)) ?_
  refine gs_wl (tm (t := 10) rfl) (fun hg1_4 => ?_) (fun hg1_4 => ?_)
  · have hg1_4' := hg1_4; (try simp only [nrm] at hg1_4'); try (exfalso; first | with_reducible exact absurd hg1_4 Bool.false_ne_true | with_reducible exact absurd hg1_4.symm Bool.false_ne_true | omega | (simp at hg1_4; done))
    all_goals
     refine wl_s rfl (want_n rfl rfl rfl rfl (by rw [hg1_4]; rfl)) ?_
     refine wl_s rfl (want_n rfl rfl rfl rfl (by rw [hg1_4]; rfl)) ?_
     refine wl_s rfl (want_n rfl rfl rfl rfl (by rw [hg1_4]; rfl)) ?_
     refine wl_s rfl (want_n rfl rfl rfl rfl (by rw [hg1_4]; rfl)) ?_
     refine wl_s rfl (want_n rfl rfl rfl rfl (by rw [hg1_4]; rfl)) ?_
     refine wl_s rfl (want_n rfl rfl rfl rfl (by rw [hg1_4]; rfl)) ?_
     refine wl_s rfl (want_n rfl rfl rfl rfl (by rw [hg1_4]; rfl)) ?_
     refine wl_v (x_pickT (tmB rfl rfl) hg1_4 ev_c) ?_
     refine wl_nil ?_
     refine then_n (hK3 _ _ ?_); clear hK3 K3
     refine cnd_t (tmB rfl rfl) rfl ?_
     refine wp_seq_k ?_; intro K4 hK4
     have hnone : rdB l n k q = [] ∧ adv n k q = none := by
       cases q with
       | none => exact ⟨rfl, rfl⟩
       | some p =>
         obtain ⟨o1, o2, o3, _⟩ := hR
         have hlt : ¬ p + k ≤ n := by
           intro hle
           first
             | (rw [o1] at hg1_4; cases hg1_4; done)
             | omega
         exact ⟨if_neg hlt, if_neg hlt⟩
     refine wlit ?_
     refine wl_v (x_move (tmP rfl rfl)) ?_
     refine wl_v (x_nil (A := none) (tmP rfl rfl)) ?_
     refine wl_v (x_fa 1 Try.underlying59 rfl rfl ts_4 (tmP rfl rfl)) ?_
     refine wl_e rfl ?_; intro K hK
     first
      | refine ow_store hS 0 rfl ts_4 (tmP rfl rfl) ev_c rfl rfl ?_
      | refine ow_storeX hS 0 rfl ts_4 (tmP rfl rfl) ev_c rfl (by simp; omega) ?_
      | refine ow_storeRs hS 0 rfl ts_4 (tmP rfl rfl) ev_c rfl (by first | omega | (simp; omega)) ?_
      | refine ow_storeR hS 0 rfl ts_4 (tmP rfl rfl) ev_c rfl (by first | omega | (simp; omega)) ?_
      | refine ow_store hS 1 rfl ts_4 (tmP rfl rfl) ev_c rfl rfl ?_
      | refine ow_storeX hS 1 rfl ts_4 (tmP rfl rfl) ev_c rfl (by simp; omega) ?_
      | refine ow_storeRs hS 1 rfl ts_4 (tmP rfl rfl) ev_c rfl (by first | omega | (simp; omega)) ?_
      | refine ow_storeR hS 1 rfl ts_4 (tmP rfl rfl) ev_c rfl (by first | omega | (simp; omega)) ?_
     clear hS; intro w hS
     refine hK _ _ ?_; clear hK K
     refine wl_nil ?_
     refine then_n (hK4 _ _ ?_); clear hK4 K4
     refine wp_seq_k ?_; intro K5 hK5
     refine wlit ?_
     refine wl_v (x_assign ev_c) ?_
     refine wl_nil ?_
     refine then_n (hK5 _ _ ?_); clear hK5 K5
     refine wp_ret ?_
     refine then_r ?_
     refine ret1 rfl (.tmp rfl (show _ = Value.slice _ _ _ from rfl)) ?_
     first
       | (rw [hnone.1, hnone.2]
          exact ⟨none, 0, 0, A, m, c, true, rfl, rfl, Nat.le_refl _, sub_nil, hS.pick [0] rfl rfl, rfl⟩)
       | exact ⟨cutA A 0 c 1, k, c, cutA A k c 1, m - k, c - k, false, rfl, hxl.symm, by omega, (by rw [cutA_zero, hx]; exact sub_off hl hA k), hS.pick [0] rfl rfl, (by rw [ha]; exact ⟨rfl, hle, by omega, off_cut hA (by omega), by omega⟩)⟩
  have hg1_4' := hg1_4; (try simp only [nrm] at hg1_4'); try (exfalso; first | with_reducible exact absurd hg1_4 Bool.false_ne_true | with_reducible exact absurd hg1_4.symm Bool.false_ne_true | omega | (simp at hg1_4; done))
  all_goals
   refine wl_gv (want_y rfl rfl rfl rfl (by rw [hg1_4]; rfl)) (x_move (tmI rfl rfl)) ?_
   refine wl_gv (want_y rfl rfl rfl rfl (by rw [hg1_4]; rfl)) (x_move (tmP rfl rfl)) ?_
   refine wl_gv (want_y rfl rfl rfl rfl (by rw [hg1_4]; rfl)) (x_nil (A := none) (tmP rfl rfl)) ?_
   refine wl_gv (want_y rfl rfl rfl rfl (by rw [hg1_4]; rfl)) (x_fa 0 Try.underlying59 rfl rfl ts_29 (tmP rfl rfl)) ?_
   first
    | refine wl_gv (want_y rfl rfl rfl rfl (by rw [hg1_4]; rfl)) (x_load Try.underlying29 rfl (tmP rfl rfl) (cellB hS.ok 0 rfl rfl)) ?_
    | refine wl_gv (want_y rfl rfl rfl rfl (by rw [hg1_4]; rfl)) (x_load Try.underlying29 rfl (tmP rfl rfl) (cellV hS.ok 1 rfl rfl)) ?_
    | refine wl_gv (want_y rfl rfl rfl rfl (by rw [hg1_4]; rfl)) (x_load Try.underlying29 rfl (tmP rfl rfl) (cellV hS.ok 1 rfl (getm (by omega)))) ?_
    | refine wl_gv (want_y rfl rfl rfl rfl (by rw [hg1_4]; rfl)) (x_load Try.underlying29 rfl (tmP rfl rfl) (cellVs hS.ok 1 rfl (fun _ => rfl) rfl (by omega) rfl)) ?_
   refine wl_gv (want_y rfl rfl rfl rfl (by rw [hg1_4]; rfl)) (x_len Try.underlying29 (tmS rfl rfl)) ?_
   refine wl_gv (want_y rfl rfl rfl rfl (by rw [hg1_4]; rfl)) (x_gtr (tmI rfl rfl) (tmI rfl rfl)) ?_
   refine wl_v (x_pickF (tmB rfl rfl) hg1_4 (tmB rfl rfl)) ?_
   refine wl_nil ?_
   refine then_n (hK3 _ _ ?_); clear hK3 K3
   refine cnd (tm rfl) (fun hc0 => ?_) (fun hc0 => ?_)
   · try (exfalso; first | with_reducible exact absurd hc0 Bool.false_ne_true | with_reducible exact absurd hc0.symm Bool.false_ne_true | (simp only [nrm] at hc0; omega) | (simp at hc0; done))
     all_goals
      try simp only [nrm] at hc0
      refine wp_seq_k ?_; intro K6 hK6
      have hnone : rdB l n k q = [] ∧ adv n k q = none := by
        cases q with
        | none => exact ⟨rfl, rfl⟩
        | some p =>
          obtain ⟨o1, o2, o3, _⟩ := hR
          have hlt : ¬ p + k ≤ n := by
            intro hle
            first
              | (rw [o1] at hg1_4; cases hg1_4; done)
              | omega
          exact ⟨if_neg hlt, if_neg hlt⟩
      refine wlit ?_
      refine wl_v (x_move (tmP rfl rfl)) ?_
      refine wl_v (x_nil (A := none) (tmP rfl rfl)) ?_
      refine wl_v (x_fa 1 Try.underlying59 rfl rfl ts_4 (tmP rfl rfl)) ?_
      refine wl_e rfl ?_; intro K hK
      first
       | refine ow_store hS 0 rfl ts_4 (tmP rfl rfl) ev_c rfl rfl ?_
       | refine ow_storeX hS 0 rfl ts_4 (tmP rfl rfl) ev_c rfl (by simp; omega) ?_
       | refine ow_storeRs hS 0 rfl ts_4 (tmP rfl rfl) ev_c rfl (by first | omega | (simp; omega)) ?_
       | refine ow_storeR hS 0 rfl ts_4 (tmP rfl rfl) ev_c rfl (by first | omega | (simp; omega)) ?_
       | refine ow_store hS 1 rfl ts_4 (tmP rfl rfl) ev_c rfl rfl ?_
       | refine ow_storeX hS 1 rfl ts_4 (tmP rfl rfl) ev_c rfl (by simp; omega) ?_
       | refine ow_storeRs hS 1 rfl ts_4 (tmP rfl rfl) ev_c rfl (by first | omega | (simp; omega)) ?_
       | refine ow_storeR hS 1 rfl ts_4 (tmP rfl rfl) ev_c rfl (by first | omega | (simp; omega)) ?_
      clear hS; intro w hS
      refine hK _ _ ?_; clear hK K
      refine wl_nil ?_
      refine then_n (hK6 _ _ ?_); clear hK6 K6
      refine wp_seq_k ?_; intro K7 hK7
      refine wlit ?_
      refine wl_v (x_assign ev_c) ?_
      refine wl_nil ?_
      refine then_n (hK7 _ _ ?_); clear hK7 K7
      refine wp_ret ?_
      refine then_r ?_
      refine ret1 rfl (.tmp rfl (show _ = Value.slice _ _ _ from rfl)) ?_
      first
        | (rw [hnone.1, hnone.2]
           exact ⟨none, 0, 0, A, m, c, true, rfl, rfl, Nat.le_refl _, sub_nil, hS.pick [0] rfl rfl, rfl⟩)
        | exact ⟨cutA A 0 c 1, k, c, cutA A k c 1, m - k, c - k, false, rfl, hxl.symm, by omega, (by rw [cutA_zero, hx]; exact sub_off hl hA k), hS.pick [0] rfl rfl, (by rw [ha]; exact ⟨rfl, hle, by omega, off_cut hA (by omega), by omega⟩)⟩
   try (exfalso; first | with_reducible exact absurd hc0 Bool.false_ne_true | with_reducible exact absurd hc0.symm Bool.false_ne_true | (simp only [nrm] at hc0; omega) | (simp at hc0; done))
   all_goals
    try simp only [nrm] at hc0
    refine wp_skip ?_
    refine then_n (hK2 _ _ ?_); clear hK2 K2
    refine wp_seq_k ?_; intro K8 hK8
    obtain rfl : bad = false := hg1_4'
    obtain ⟨p, rfl, hp, hm, hA, hmc⟩ := hR.good
    have hle : p + k ≤ n := by omega
    have hx : rdB l n k (some p) = (l.drop p).take k := if_pos hle
    have ha : adv n k (some p) = some (p + k) := if_pos hle
    have hxl : (rdB l n k (some p)).length = k := by rw [hx, List.length_take, List.length_drop]; omega
    refine wlit ?_
    refine wl_v (x_move (tmP rfl rfl)) ?_
    refine wl_v (x_nil (A := none) (tmP rfl rfl)) ?_
    refine wl_v (x_fa 0 Try.underlying59 rfl rfl ts_29 (tmP rfl rfl)) ?_
    first
     | refine wl_v (x_load Try.underlying29 rfl (tmP rfl rfl) (cellB hS.ok 0 rfl rfl)) ?_
     | refine wl_v (x_load Try.underlying29 rfl (tmP rfl rfl) (cellV hS.ok 1 rfl rfl)) ?_
     | refine wl_v (x_load Try.underlying29 rfl (tmP rfl rfl) (cellV hS.ok 1 rfl (getm (by omega)))) ?_
     | refine wl_v (x_load Try.underlying29 rfl (tmP rfl rfl) (cellVs hS.ok 1 rfl (fun _ => rfl) rfl (by omega) rfl)) ?_
    refine wl_v (x_move (tmI rfl rfl)) ?_
    refine wl_v (x_sliceH Try.underlying29 ts_5 (tmS rfl rfl) (tmI rfl rfl) (by omega)) ?_
    refine wl_v (x_assign (tmS rfl rfl)) ?_
    refine wl_nil ?_
    refine then_n (hK8 _ _ ?_); clear hK8 K8
    refine wp_seq_k ?_; intro K9 hK9
    refine wlit ?_
    refine wl_v (x_move (tmP rfl rfl)) ?_
    refine wl_v (x_move (tmP rfl rfl)) ?_
    refine wl_v (x_nil (A := none) (tmP rfl rfl)) ?_
    refine wl_v (x_fa 0 Try.underlying59 rfl rfl ts_29 (tmP rfl rfl)) ?_
    first
     | refine wl_v (x_load Try.underlying29 rfl (tmP rfl rfl) (cellB hS.ok 0 rfl rfl)) ?_
     | refine wl_v (x_load Try.underlying29 rfl (tmP rfl rfl) (cellV hS.ok 1 rfl rfl)) ?_
     | refine wl_v (x_load Try.underlying29 rfl (tmP rfl rfl) (cellV hS.ok 1 rfl (getm (by omega)))) ?_
     | refine wl_v (x_load Try.underlying29 rfl (tmP rfl rfl) (cellVs hS.ok 1 rfl (fun _ => rfl) rfl (by omega) rfl)) ?_
    refine wl_v (x_move (tmI rfl rfl)) ?_
    refine wl_v (x_sliceL Try.underlying29 ts_5 (tmS rfl rfl) (tmI rfl rfl) (by omega)) ?_
    refine wl_v (x_nil (A := none) (tmP rfl rfl)) ?_
    refine wl_v (x_fa 0 Try.underlying59 rfl rfl ts_29 (tmP rfl rfl)) ?_
    refine wl_e rfl ?_; intro K hK
    first
     | refine ow_store hS 0 rfl ts_29 (tmP rfl rfl) (tmS rfl rfl) rfl rfl ?_
     | refine ow_storeX hS 0 rfl ts_29 (tmP rfl rfl) (tmS rfl rfl) rfl (by simp; omega) ?_
     | refine ow_storeRs hS 0 rfl ts_29 (tmP rfl rfl) (tmS rfl rfl) rfl (by first | omega | (simp; omega)) ?_
     | refine ow_storeR hS 0 rfl ts_29 (tmP rfl rfl) (tmS rfl rfl) rfl (by first | omega | (simp; omega)) ?_
     | refine ow_store hS 1 rfl ts_29 (tmP rfl rfl) (tmS rfl rfl) rfl rfl ?_
     | refine ow_storeX hS 1 rfl ts_29 (tmP rfl rfl) (tmS rfl rfl) rfl (by simp; omega) ?_
     | refine ow_storeRs hS 1 rfl ts_29 (tmP rfl rfl) (tmS rfl rfl) rfl (by first | omega | (simp; omega)) ?_
     | refine ow_storeR hS 1 rfl ts_29 (tmP rfl rfl) (tmS rfl rfl) rfl (by first | omega | (simp; omega)) ?_
    clear hS; intro w hS
    refine hK _ _ ?_; clear hK K
    refine wl_nil ?_
    refine then_n (hK9 _ _ ?_); clear hK9 K9
    refine wp_seq_k ?_; intro K10 hK10
    refine wlit ?_
    refine wl_v (x_move (tmS rfl rfl)) ?_
    refine wl_v (x_assign (tmS rfl rfl)) ?_
    refine wl_nil ?_
    refine then_n (hK10 _ _ ?_); clear hK10 K10
    refine wp_ret ?_
    refine ret1 rfl (.tmp rfl (show _ = Value.slice _ _ _ from rfl)) ?_
    first
      | (rw [hnone.1, hnone.2]
         exact ⟨none, 0, 0, A, m, c, true, rfl, rfl, Nat.le_refl _, sub_nil, hS.pick [0] rfl rfl, rfl⟩)
      | exact ⟨cutA A 0 c 1, k, c, cutA A k c 1, m - k, c - k, false, rfl, hxl.symm, by omega, (by rw [cutA_zero, hx]; exact sub_off hl hA k), hS.pick [0] rfl rfl, (by rw [ha]; exact ⟨rfl, hle, by omega, off_cut hA (by omega), by omega⟩)⟩
set_option maxRecDepth 100000 in
set_option maxHeartbeats 8000000 in
theorem rnm_c (gr : Nat) (A0 A : Option Addr) (q : Option Nat) (k n m c : Nat) (l : List Nat) (bad : Bool) (F : List Nat) (w0 : World)
    (hS : St F w0 [.blk gr 59 (rfV A m c bad), .vw A0 (l.map u8v)] w0) (hR : RfO A0 n q A m c bad) (hl : l.length = n) (hb : Bytes l) (hk : k ≤ 2) :
    Calls Try.prog 20 #[.pointer (some ⟨gr, 0, none⟩), .int .i64 (k : Int)] w0 fun e w' => ∃ A' m' c' bad', e = .returned (.int .i64 ((rdN l n k q : Nat) : Int)) ∧
      St F w0 [.blk gr 59 (rfV A' m' c' bad')] w' ∧ RfO A0 n (adv n k q) A' m' c' bad' := by
  have hlt : rdN l n k q < 65536 := Nat.lt_of_lt_of_le (rdN_lt hb q) (Nat.pow_le_pow_right (by omega) hk)
  refine ent (n := 10) Try.func20 rfl rfl ?_
  refine wp_seq_k ?_; intro K1 hK1
  refine wlit ?_
  refine wl_v (x_assign (ev_cN 0)) ?_
  refine wl_nil ?_
  refine then_n (hK1 _ _ ?_); clear hK1 K1
  refine wp_seq_k ?_; intro K2 hK2
  refine wlit ?_
  refine wl_v (x_move (tmP rfl rfl)) ?_
  refine wl_v (x_move (tmI rfl rfl)) ?_
  refine wl_e rfl ?_; intro K hK
  refine ow_call Try.func41 rfl rfl (evs_cons (tmP rfl rfl) <| evs_cons (tmI rfl rfl) <| evs_nil) (rtk_c gr A0 A q k n m c l bad _ _ (hS.enter [0] [1] rfl rfl) hR hl (by omega)) ?_
  rintro e w ⟨B, nb, cb, A1, m1, c1, b1, rfl, hnb, hcb, hsB, hS2, hR1⟩
  refine ⟨_, rfl, ?_⟩
  replace hS := hS.leave [0] [1] rfl rfl rfl hS2 rfl --ents gr,va
  clear hS2
  replace hS := hS.subb 1 rfl hsB -- +vx
  try replace hS := St.nm (M' := [.vw _ _, _, .vw _ _]) hS rfl
  refine hK _ _ ?_; clear hK K
  refine wl_e rfl ?_; intro K hK
  refine ow_call Try.func40 rfl rfl (evs_cons (tmS rfl rfl) <| evs_nil) (rnum_c nb B cb (rdB l n k q) _ (viewV hS.ok 0 rfl) hnb.symm (rdB_bytes hb _) (by have := rdB_len (k := k) hl q; omega)) ?_
  rintro e w ⟨rfl, hk2⟩
  refine ⟨_, rfl, ?_⟩
  replace hS := hS.kept hk2
  clear hk2
  rw [rdN_rdB]
  refine hK _ _ ?_; clear hK K
  first
   | refine wl_v (x_convN Try.underlying22 Try.underlying3 (tmI rfl rfl) (fit_i64 (by omega))) ?_
   | refine wl_v (x_conv Try.underlying22 Try.underlying3 (tmI rfl rfl)) ?_
  refine wl_v (x_assign (tmI rfl rfl)) ?_
  refine wl_nil ?_
  refine then_n (hK2 _ _ ?_); clear hK2 K2
  refine wp_ret ?_
  refine ret1 rfl (.tmp rfl (show _ = Value.int _ _ from rfl)) ?_
  exact ⟨A1, m1, c1, b1, rfl, hS.pick [1] rfl rfl, hR1⟩
set_option maxRecDepth 100000 in
set_option maxHeartbeats 4000000 in
theorem rad_of4_c (A : Option Addr) (c : Nat) (l : List Nat) (w0 : World) (hv : View w0 w0.heap.size A (l.map u8v)) (hl : l.length = 4) (hc : 4 ≤ c) (hb : Bytes l) :
    Calls Try.prog 42 #[.slice A 4 c] w0 fun e w' => e = .returned (.tuple #[.agg (Ad.V ⟨false, 0, numBE l⟩).toArray, .bool true]) ∧ Kp [] w0 w' := by
  have hS := (St.sv w0).vcons rfl hv
  refine ent (n := 21) Try.func42 rfl rfl ?_
  refine wp_seq_k ?_; intro K1 hK1
  refine wlit ?_
  refine wl_e rfl ?_; intro K hK
  refine ow_alloc hS tz_24 rfl ?_
  clear hS; intro g0_0 w hg0_0 hS
  refine hK _ _ ?_; clear hK K
  refine wl_v (x_assign ev_c) ?_
  refine wl_nil ?_
  refine then_n (hK1 _ _ ?_); clear hK1 K1
  refine wp_seq_k ?_; intro K2 hK2
  refine wp_seq_k ?_; intro K3 hK3
  refine wlit ?_
  refine wl_v (x_move (tmS rfl rfl)) ?_
  refine wl_v (x_len Try.underlying29 (tmS rfl rfl)) ?_
  refine wl_v (x_eql (tmI rfl rfl) (ev_cN 4)) ?_
  refine wl_nil ?_
  refine then_n (hK3 _ _ ?_); clear hK3 K3
  refine cnds (tm rfl) (fun hc0 => ?_) (fun hc0 => ?_)
  · exfalso
    simp at hc0
  try (exfalso; first | with_reducible exact absurd hc0 Bool.false_ne_true | with_reducible exact absurd hc0.symm Bool.false_ne_true | (simp only [nrm] at hc0; omega) | (simp at hc0; done))
  all_goals
   try simp only [nrm] at hc0
   refine wp_seq_k ?_; intro K4 hK4
   refine wlit ?_
   refine wl_v (x_move (tmS rfl rfl)) ?_
   refine wl_e rfl ?_; intro K hK
   refine ow_call Try.func40 rfl rfl (evs_cons (tmS rfl rfl) <| evs_nil) (rnum_c 4 _ _ l _ (viewV hS.ok 1 rfl) hl hb (by omega)) ?_
   rintro e w ⟨rfl, hk⟩
   refine ⟨_, rfl, ?_⟩
   replace hS := hS.kept hk
   clear hk
   refine hK _ _ ?_; clear hK K
   refine wl_v (x_build (bc_skip (.bool false) <| bc_skip (.int .u64 0) <| bc_take (tmI rfl rfl) <| bc_nil) (by kernel_rfl)) ?_
   refine wl_e rfl ?_; intro K hK
   refine ow_storeA hS 0 rfl ts_24 (tmP rfl rfl) (tmA rfl rfl) rfl rfl rfl ?_
   clear hS; intro w hS
   try replace hS := St.nm (M' := [.blk _ _ [_, _, _], .vw _ _]) hS rfl
   refine hK _ _ ?_; clear hK K
   refine wl_v (x_assign ev_c) ?_
   refine wl_nil ?_
   refine then_n (hK4 _ _ ?_); clear hK4 K4
   refine wp_ret ?_
   refine then_r ?_
   refine ret2 rfl (.cell rfl rfl (load_rowB (cs := [_, _, _]) hS.ok 0 rfl Try.underlying24 rfl ts_24 rfl)) (.tmp rfl (show _ = Value.bool _ from rfl)) ?_
   exact ⟨rfl, hS.kp⟩
set_option maxRecDepth 100000 in
set_option maxHeartbeats 4000000 in
theorem rad_of_no_c (n : Nat) (A : Option Addr) (c : Nat) (l : List Nat) (w0 : World) (hl : l.length = n) (hn : n ≤ 1000) (hno : ¬ adGood l) :
    Calls Try.prog 42 #[.slice A n c] w0 fun e w' => e = .returned (.tuple #[.agg (Ad.V ⟨false, 0, 0⟩).toArray, .bool false]) ∧ Kp [] w0 w' := by
  unfold adGood at hno
  have hS := St.sv w0
  refine ent (n := 21) Try.func42 rfl rfl ?_
  refine wp_seq_k ?_; intro K1 hK1
  refine wlit ?_
  refine wl_e rfl ?_; intro K hK
  refine ow_alloc hS tz_24 rfl ?_
  clear hS; intro g0_0 w hg0_0 hS
  refine hK _ _ ?_; clear hK K
  refine wl_v (x_assign ev_c) ?_
  refine wl_nil ?_
  refine then_n (hK1 _ _ ?_); clear hK1 K1
  refine wp_seq_k ?_; intro K2 hK2
  refine wp_seq_k ?_; intro K3 hK3
  refine wlit ?_
  refine wl_v (x_move (tmS rfl rfl)) ?_
  refine wl_v (x_len Try.underlying29 (tmS rfl rfl)) ?_
  refine wl_v (x_eql (tmI rfl rfl) (ev_cN 4)) ?_
  refine wl_nil ?_
  refine then_n (hK3 _ _ ?_); clear hK3 K3
  refine cnd (tm rfl) (fun hc0 => ?_) (fun hc0 => ?_)
  · exfalso
    simp only [nrm] at hc0
    omega
  try (exfalso; first | with_reducible exact absurd hc0 Bool.false_ne_true | with_reducible exact absurd hc0.symm Bool.false_ne_true | (simp only [nrm] at hc0; omega) | (simp at hc0; done))
  all_goals
   try simp only [nrm] at hc0
   refine wp_skip ?_
   refine then_n (hK2 _ _ ?_); clear hK2 K2
   refine wp_seq_k ?_; intro K4 hK4
   refine wp_seq_k ?_; intro K5 hK5
   refine wlit ?_
   refine wl_v (x_move (tmS rfl rfl)) ?_
   refine wl_v (x_len Try.underlying29 (tmS rfl rfl)) ?_
   refine wl_v (x_neq (tmI rfl rfl) (ev_cN 16)) ?_
   refine wl_nil ?_
   refine then_n (hK5 _ _ ?_); clear hK5 K5
   refine cnds (tm rfl) (fun hc1 => ?_) (fun hc1 => ?_)
   · exfalso
     simp only [nrm] at hc1
     omega
   try (exfalso; first | with_reducible exact absurd hc1 Bool.false_ne_true | with_reducible exact absurd hc1.symm Bool.false_ne_true | (simp only [nrm] at hc1; omega) | (simp at hc1; done))
   all_goals
    try simp only [nrm] at hc1
    refine wp_seq_k ?_; intro K6 hK6
    refine wlit ?_
    refine wl_v (x_build (bc_skip (.bool false) <| bc_skip (.int .u64 0) <| bc_skip (.int .u64 0) <| bc_nil) (by kernel_rfl)) ?_
    refine wl_e rfl ?_; intro K hK
    refine ow_storeA hS 0 rfl ts_24 (tmP rfl rfl) (tmA rfl rfl) rfl rfl rfl ?_
    clear hS; intro w hS
    try replace hS := St.nm (M' := [.blk _ _ [_, _, _], _]) hS rfl
    refine hK _ _ ?_; clear hK K
    refine wl_v (x_assign ev_c) ?_
    refine wl_nil ?_
    refine then_n (hK6 _ _ ?_); clear hK6 K6
    refine wp_ret ?_
    refine then_r ?_
    refine ret2 rfl (.cell rfl rfl (load_rowB (cs := [_, _, _]) hS.ok 0 rfl Try.underlying24 rfl ts_24 rfl)) (.tmp rfl (show _ = Value.bool _ from rfl)) ?_
    exact ⟨rfl, hS.kp⟩
theorem rad_of_c (n : Nat) (A : Option Addr) (c : Nat) (l : List Nat) (w0 : World) (hv : View w0 w0.heap.size A (l.map u8v)) (hl : l.length = n) (hn : n ≤ 1000) (hc : n ≤ c) (hb : Bytes l) :
    Calls Try.prog 42 #[.slice A n c] w0 fun e w' => ∃ a ok, e = .returned (.tuple #[.agg a.V.toArray, .bool ok]) ∧ (adGood l → a = adOf l) ∧ (ok = true ↔ adGood l) ∧ Kp [] w0 w' := by
  by_cases h4 : l.length = 4
  · obtain rfl : n = 4 := by omega
    refine Calls.mono (rad_of4_c A c l w0 hv h4 hc hb) ?_
    rintro e w' ⟨rfl, hk⟩
    exact ⟨_, true, rfl, fun _ => (by unfold adOf; rw [if_pos h4]), ⟨fun _ => .inl h4, fun _ => rfl⟩, hk⟩
  · by_cases h16 : l.length = 16
    · obtain rfl : n = 16 := by omega
      refine Calls.mono (rad_of16_c A c l w0 hv h16 hc hb) ?_
      rintro e w' ⟨rfl, hk⟩
      exact ⟨_, true, rfl, fun _ => (by unfold adOf; rw [if_neg h4]), ⟨fun _ => .inr h16, fun _ => rfl⟩, hk⟩
    · have hno : ¬ adGood l := fun h => by rcases h with h | h; exact h4 h; exact h16 h
      refine Calls.mono (rad_of_no_c n A c l w0 hl hn hno) ?_
      rintro e w' ⟨rfl, hk⟩
      exact ⟨_, false, rfl, fun h => absurd h hno, ⟨fun h => (by cases h), fun h => absurd h hno⟩, hk⟩
theorem not_ok {ok : Bool} {p : Prop} (h : ok = true ↔ p) (hp : ¬ p) : (!ok) = true := by
  cases ok with
  | false => rfl
  | true => exact absurd (h.1 rfl) hp
set_option maxRecDepth 100000 in
set_option maxHeartbeats 8000000 in
theorem raddr_c (gr : Nat) (A0 A : Option Addr) (q : Option Nat) (n m c : Nat) (l : List Nat) (bad : Bool) (F : List Nat) (w0 : World)
    (hS : St F w0 [.blk gr 59 (rfV A m c bad), .vw A0 (l.map u8v)] w0) (hR : RfO A0 n q A m c bad) (hl : l.length = n) (hb : Bytes l) :
    Calls Try.prog 21 #[.pointer (some ⟨gr, 0, none⟩)] w0 fun e w' => ∃ a A' m' c' bad', e = .returned (.agg a.V.toArray) ∧ (adGood (qx l n q) → a = adOf (qx l n q) ∧ RfO A0 n (qa l n q) A' m' c' bad') ∧ (¬ adGood (qx l n q) → RfO A0 n none A' m' c' bad') ∧
      St F w0 [.blk gr 59 (rfV A' m' c' bad')] w' := by
  refine ent (n := 25) Try.func21 rfl rfl ?_
  refine wp_seq_k ?_; intro K1 hK1
  refine wlit ?_
  refine wl_e rfl ?_; intro K hK
  refine ow_alloc hS tz_24 rfl ?_
  clear hS; intro g0_0 w hg0_0 hS
  refine hK _ _ ?_; clear hK K
  refine wl_nil ?_
  refine then_n (hK1 _ _ ?_); clear hK1 K1
  refine wp_seq_k ?_; intro K2 hK2
  refine wlit ?_
  refine wl_v (x_move (tmP rfl rfl)) ?_
  refine wl_v (x_move (tmP rfl rfl)) ?_
  refine wl_e rfl ?_; intro K hK
  refine ow_call Try.func20 rfl rfl (evs_cons (tmP rfl rfl) <| evs_cons (ev_cN 1) <| evs_nil) (rnm_c gr A0 A q 1 n m c l bad _ _ (hS.enter [1] [2] rfl rfl) hR hl hb (by omega)) ?_
  rintro e w ⟨A1, m1, c1, b1, rfl, hS2, hR1⟩
  refine ⟨_, rfl, ?_⟩
  replace hS := hS.leave [1] [2, 0] rfl rfl rfl hS2 rfl --ents gr,va,g0_0
  clear hS2
  have hsb : rdN l n 1 q < 256 := rdN_lt hb _
  try replace hS := St.nm (M' := [_, .vw _ _, .blk _ _ [_, _, _]]) hS rfl
  refine hK _ _ ?_; clear hK K
  refine wl_e rfl ?_; intro K hK
  refine ow_call Try.func41 rfl rfl (evs_cons (tmP rfl rfl) <| evs_cons (tmI rfl rfl) <| evs_nil) (rtk_c gr A0 A1 (adv n 1 q) (rdN l n 1 q) n m1 c1 l b1 _ _ (hS.enter [0] [1] rfl rfl) hR1 hl (by omega)) ?_
  rintro e w ⟨B, nb, cb, A2, m2, c2, b2, rfl, hnb, hcb, hsB, hS2, hR2⟩
  refine ⟨_, rfl, ?_⟩
  replace hS := hS.leave [0] [1, 2] rfl rfl rfl hS2 rfl --ents gr,va,g0_0
  clear hS2
  replace hS := hS.subb 1 rfl hsB -- +vx
  try replace hS := St.nm (M' := [.vw _ _, _, .vw _ _, .blk _ _ [_, _, _]]) hS rfl
  refine hK _ _ ?_; clear hK K
  refine wl_e rfl ?_; intro K hK
  refine ow_call Try.func42 rfl rfl (evs_cons (tmS rfl rfl) <| evs_nil) (rad_of_c nb B cb (qx l n q) _ (viewV hS.ok 0 rfl) hnb.symm (by rw [hnb]; exact Nat.le_trans (qx_len hl hb q) (by decide)) hcb (rdB_bytes hb _)) ?_
  rintro e w ⟨a, ok, rfl, hg, hok, hk⟩
  refine ⟨_, rfl, ?_⟩
  replace hS := hS.kept hk
  clear hk
  refine hK _ _ ?_; clear hK K
  refine wl_v (x_move (tmT rfl rfl)) ?_
  refine wl_v (x_ext (tmT rfl rfl) rfl) ?_
  refine wl_v (x_ext (tmT rfl rfl) rfl) ?_
  refine wl_e rfl ?_; intro K hK
  refine ow_alloc hS tz_24 rfl ?_
  clear hS; intro g1_8 w hg1_8 hS
  refine hK _ _ ?_; clear hK K
  refine wl_e rfl ?_; intro K hK
  refine ow_storeA hS 0 rfl ts_24 (tmP rfl rfl) (tmA rfl rfl) rfl rfl rfl ?_
  clear hS; intro w hS
  try replace hS := St.nm (M' := [.blk _ _ [_, _, _], .vw _ _, _, .vw _ _, .blk _ _ [_, _, _]]) hS rfl
  refine hK _ _ ?_; clear hK K
  refine wl_v (x_assign (tmB rfl rfl)) ?_
  refine wl_nil ?_
  refine then_n (hK2 _ _ ?_); clear hK2 K2
  refine wp_seq_k ?_; intro K3 hK3
  refine wlit ?_
  refine wl_v (x_move (tmP rfl rfl)) ?_
  refine wl_v (x_move (tmP rfl rfl)) ?_
  refine wl_v (x_nil (A := none) (tmP rfl rfl)) ?_
  refine wl_v (x_fa 1 Try.underlying59 rfl rfl ts_4 (tmP rfl rfl)) ?_
  first
   | refine wl_v (x_load Try.underlying4 rfl (tmP rfl rfl) (cellB hS.ok 2 rfl rfl)) ?_
   | refine wl_v (x_load Try.underlying4 rfl (tmP rfl rfl) (cellV hS.ok 1 rfl rfl)) ?_
   | refine wl_v (x_load Try.underlying4 rfl (tmP rfl rfl) (cellV hS.ok 1 rfl (getm (by omega)))) ?_
   | refine wl_v (x_load Try.underlying4 rfl (tmP rfl rfl) (cellVs hS.ok 1 rfl (fun _ => rfl) rfl (by omega) rfl)) ?_
   | refine wl_v (x_load Try.underlying4 rfl (tmP rfl rfl) (cellV hS.ok 3 rfl rfl)) ?_
   | refine wl_v (x_load Try.underlying4 rfl (tmP rfl rfl) (cellV hS.ok 3 rfl (getm (by omega)))) ?_
   | refine wl_v (x_load Try.underlying4 rfl (tmP rfl rfl) (cellVs hS.ok 3 rfl (fun _ => rfl) rfl (by omega) rfl)) ?_
  refine wl_v (x_move (tmB rfl rfl)) ?_
  refine gs_wl (tm (t := 18) rfl) (fun hg2_5 => ?_) (fun hg2_5 => ?_)
  · have hg2_5' := hg2_5; (try simp only [nrm] at hg2_5'); try (exfalso; first | with_reducible exact absurd hg2_5 Bool.false_ne_true | with_reducible exact absurd hg2_5.symm Bool.false_ne_true | omega | (simp at hg2_5; done))
    all_goals
     refine wl_s rfl (want_n rfl rfl rfl rfl (by rw [hg2_5]; rfl)) ?_
     refine wl_s rfl (want_n rfl rfl rfl rfl (by rw [hg2_5]; rfl)) ?_
     refine wl_v (x_pickT (tmB rfl rfl) hg2_5 ev_c) ?_
     refine wl_v (x_nil (A := none) (tmP rfl rfl)) ?_
     refine wl_v (x_fa 1 Try.underlying59 rfl rfl ts_4 (tmP rfl rfl)) ?_
     refine wl_e rfl ?_; intro K hK
     first
      | refine ow_store hS 0 rfl ts_4 (tmP rfl rfl) (tmB rfl rfl) rfl rfl ?_
      | refine ow_storeX hS 0 rfl ts_4 (tmP rfl rfl) (tmB rfl rfl) rfl (by simp; omega) ?_
      | refine ow_storeRs hS 0 rfl ts_4 (tmP rfl rfl) (tmB rfl rfl) rfl (by first | omega | (simp; omega)) ?_
      | refine ow_storeR hS 0 rfl ts_4 (tmP rfl rfl) (tmB rfl rfl) rfl (by first | omega | (simp; omega)) ?_
      | refine ow_store hS 1 rfl ts_4 (tmP rfl rfl) (tmB rfl rfl) rfl rfl ?_
      | refine ow_storeX hS 1 rfl ts_4 (tmP rfl rfl) (tmB rfl rfl) rfl (by simp; omega) ?_
      | refine ow_storeRs hS 1 rfl ts_4 (tmP rfl rfl) (tmB rfl rfl) rfl (by first | omega | (simp; omega)) ?_
      | refine ow_storeR hS 1 rfl ts_4 (tmP rfl rfl) (tmB rfl rfl) rfl (by first | omega | (simp; omega)) ?_
      | refine ow_store hS 2 rfl ts_4 (tmP rfl rfl) (tmB rfl rfl) rfl rfl ?_
      | refine ow_storeX hS 2 rfl ts_4 (tmP rfl rfl) (tmB rfl rfl) rfl (by simp; omega) ?_
      | refine ow_storeRs hS 2 rfl ts_4 (tmP rfl rfl) (tmB rfl rfl) rfl (by first | omega | (simp; omega)) ?_
      | refine ow_storeR hS 2 rfl ts_4 (tmP rfl rfl) (tmB rfl rfl) rfl (by first | omega | (simp; omega)) ?_
      | refine ow_store hS 3 rfl ts_4 (tmP rfl rfl) (tmB rfl rfl) rfl rfl ?_
      | refine ow_storeX hS 3 rfl ts_4 (tmP rfl rfl) (tmB rfl rfl) rfl (by simp; omega) ?_
      | refine ow_storeRs hS 3 rfl ts_4 (tmP rfl rfl) (tmB rfl rfl) rfl (by first | omega | (simp; omega)) ?_
      | refine ow_storeR hS 3 rfl ts_4 (tmP rfl rfl) (tmB rfl rfl) rfl (by first | omega | (simp; omega)) ?_
      | refine ow_store hS 4 rfl ts_4 (tmP rfl rfl) (tmB rfl rfl) rfl rfl ?_
      | refine ow_storeX hS 4 rfl ts_4 (tmP rfl rfl) (tmB rfl rfl) rfl (by simp; omega) ?_
      | refine ow_storeRs hS 4 rfl ts_4 (tmP rfl rfl) (tmB rfl rfl) rfl (by first | omega | (simp; omega)) ?_
      | refine ow_storeR hS 4 rfl ts_4 (tmP rfl rfl) (tmB rfl rfl) rfl (by first | omega | (simp; omega)) ?_
     clear hS; intro w hS
     refine hK _ _ ?_; clear hK K
     refine wl_nil ?_
     refine then_n (hK3 _ _ ?_); clear hK3 K3
     refine wp_seq_k ?_; intro K4 hK4
     refine wlit ?_
     refine wl_v (x_loadA (cs := [_, _, _]) Try.underlying24 rfl ts_24 (tmP rfl rfl) (rangeB hS.ok 0 rfl rfl)) ?_
     refine wl_e rfl ?_; intro K hK
     refine ow_storeA hS 4 rfl ts_24 (tmP rfl rfl) (tmA rfl rfl) rfl rfl rfl ?_
     clear hS; intro w hS
     try replace hS := St.nm (M' := [.blk _ _ [_, _, _], .vw _ _, _, .vw _ _, .blk _ _ [_, _, _]]) hS rfl
     refine hK _ _ ?_; clear hK K
     refine wl_nil ?_
     refine then_n (hK4 _ _ ?_); clear hK4 K4
     refine wp_ret ?_
     refine ret1 rfl (.cell rfl rfl (load_rowB (cs := [_, _, _]) hS.ok 4 rfl Try.underlying24 rfl ts_24 rfl)) ?_
     rw [hg2_5] at hR2
     first
       | exact ⟨a, A2, m2, c2, true, rfl, fun h => ⟨hg h, hR2⟩, fun _ => rfl, hS.pick [2] rfl rfl⟩
       | exact ⟨a, A2, m2, c2, !ok, rfl, fun h => ⟨hg h, by rw [hok.2 h]; exact hR2⟩, fun h => not_ok hok h, hS.pick [2] rfl rfl⟩
  have hg2_5' := hg2_5; (try simp only [nrm] at hg2_5'); try (exfalso; first | with_reducible exact absurd hg2_5 Bool.false_ne_true | with_reducible exact absurd hg2_5.symm Bool.false_ne_true | omega | (simp at hg2_5; done))
  all_goals
   refine wl_gv (want_y rfl rfl rfl rfl (by rw [hg2_5]; rfl)) (x_move (tmB rfl rfl)) ?_
   refine wl_gv (want_y rfl rfl rfl rfl (by rw [hg2_5]; rfl)) (x_not (tmB rfl rfl)) ?_
   refine wl_v (x_pickF (tmB rfl rfl) hg2_5 (tmB rfl rfl)) ?_
   refine wl_v (x_nil (A := none) (tmP rfl rfl)) ?_
   refine wl_v (x_fa 1 Try.underlying59 rfl rfl ts_4 (tmP rfl rfl)) ?_
   refine wl_e rfl ?_; intro K hK
   first
    | refine ow_store hS 0 rfl ts_4 (tmP rfl rfl) (tmB rfl rfl) rfl rfl ?_
    | refine ow_storeX hS 0 rfl ts_4 (tmP rfl rfl) (tmB rfl rfl) rfl (by simp; omega) ?_
    | refine ow_storeRs hS 0 rfl ts_4 (tmP rfl rfl) (tmB rfl rfl) rfl (by first | omega | (simp; omega)) ?_
    | refine ow_storeR hS 0 rfl ts_4 (tmP rfl rfl) (tmB rfl rfl) rfl (by first | omega | (simp; omega)) ?_
    | refine ow_store hS 1 rfl ts_4 (tmP rfl rfl) (tmB rfl rfl) rfl rfl ?_
    | refine ow_storeX hS 1 rfl ts_4 (tmP rfl rfl) (tmB rfl rfl) rfl (by simp; omega) ?_
    | refine ow_storeRs hS 1 rfl ts_4 (tmP rfl rfl) (tmB rfl rfl) rfl (by first | omega | (simp; omega)) ?_
    | refine ow_storeR hS 1 rfl ts_4 (tmP rfl rfl) (tmB rfl rfl) rfl (by first | omega | (simp; omega)) ?_
    | refine ow_store hS 2 rfl ts_4 (tmP rfl rfl) (tmB rfl rfl) rfl rfl ?_
    | refine ow_storeX hS 2 rfl ts_4 (tmP rfl rfl) (tmB rfl rfl) rfl (by simp; omega) ?_
    | refine ow_storeRs hS 2 rfl ts_4 (tmP rfl rfl) (tmB rfl rfl) rfl (by first | omega | (simp; omega)) ?_
    | refine ow_storeR hS 2 rfl ts_4 (tmP rfl rfl) (tmB rfl rfl) rfl (by first | omega | (simp; omega)) ?_
    | refine ow_store hS 3 rfl ts_4 (tmP rfl rfl) (tmB rfl rfl) rfl rfl ?_
    | refine ow_storeX hS 3 rfl ts_4 (tmP rfl rfl) (tmB rfl rfl) rfl (by simp; omega) ?_
    | refine ow_storeRs hS 3 rfl ts_4 (tmP rfl rfl) (tmB rfl rfl) rfl (by first | omega | (simp; omega)) ?_
    | refine ow_storeR hS 3 rfl ts_4 (tmP rfl rfl) (tmB rfl rfl) rfl (by first | omega | (simp; omega)) ?_
    | refine ow_store hS 4 rfl ts_4 (tmP rfl rfl) (tmB rfl rfl) rfl rfl ?_
    | refine ow_storeX hS 4 rfl ts_4 (tmP rfl rfl) (tmB rfl rfl) rfl (by simp; omega) ?_
    | refine ow_storeRs hS 4 rfl ts_4 (tmP rfl rfl) (tmB rfl rfl) rfl (by first | omega | (simp; omega)) ?_
    | refine ow_storeR hS 4 rfl ts_4 (tmP rfl rfl) (tmB rfl rfl) rfl (by first | omega | (simp; omega)) ?_
   clear hS; intro w hS
   refine hK _ _ ?_; clear hK K
   refine wl_nil ?_
   refine then_n (hK3 _ _ ?_); clear hK3 K3
   refine wp_seq_k ?_; intro K6 hK6
   refine wlit ?_
   refine wl_v (x_loadA (cs := [_, _, _]) Try.underlying24 rfl ts_24 (tmP rfl rfl) (rangeB hS.ok 0 rfl rfl)) ?_
   refine wl_e rfl ?_; intro K hK
   refine ow_storeA hS 4 rfl ts_24 (tmP rfl rfl) (tmA rfl rfl) rfl rfl rfl ?_
   clear hS; intro w hS
   try replace hS := St.nm (M' := [.blk _ _ [_, _, _], .vw _ _, _, .vw _ _, .blk _ _ [_, _, _]]) hS rfl
   refine hK _ _ ?_; clear hK K
   refine wl_nil ?_
   refine then_n (hK6 _ _ ?_); clear hK6 K6
   refine wp_ret ?_
   refine ret1 rfl (.cell rfl rfl (load_rowB (cs := [_, _, _]) hS.ok 4 rfl Try.underlying24 rfl ts_24 rfl)) ?_
   rw [hg2_5] at hR2
   first
     | exact ⟨a, A2, m2, c2, true, rfl, fun h => ⟨hg h, hR2⟩, fun _ => rfl, hS.pick [2] rfl rfl⟩
     | exact ⟨a, A2, m2, c2, !ok, rfl, fun h => ⟨hg h, by rw [hok.2 h]; exact hR2⟩, fun h => not_ok hok h, hS.pick [2] rfl rfl⟩
theorem mq_none (l : List Nat) (n k : Nat) : mq l n none k = none := by
  induction k with
  | zero => rfl
  | succ k ih => show adv n 1 (adv n 1 (mq l n none k)) = none; rw [ih]; rfl
theorem mq_stick {l : List Nat} {n : Nat} {q : Option Nat} {i : Nat} (h : mq l n q i = none) (j : Nat) : mq l n q (i + j) = none := by
  induction j with
  | zero => exact h
  | succ j ih => show adv n 1 (adv n 1 (mq l n q (i + j))) = none; rw [ih]; rfl
theorem RfO.badq {A0 A : Option Addr} {n m c : Nat} {q : Option Nat} (h : RfO A0 n q A m c true) : q = none := by
  cases q with
  | none => rfl
  | some p => cases h.1
theorem rf_flag {A0 A : Option Addr} {n m c : Nat} {q : Option Nat} {b1 : Bool} (h : RfO A0 n q A m c b1) (cnt : Nat) (b : Bool) (hb : b = (b1 || decide (64 < cnt))) : RfO A0 n (if cnt ≤ 64 then q else none) A m c b := by
  by_cases h64 : cnt ≤ 64
  · rw [if_pos h64]
    rw [decide_eq_false (by omega), Bool.or_false] at hb
    rw [hb]
    exact h
  · rw [if_neg h64]
    rw [decide_eq_true (by omega), Bool.or_true] at hb
    exact hb
set_option maxRecDepth 100000 in
set_option maxHeartbeats 8000000 in
theorem rmem_c (gr : Nat) (A0 A : Option Addr) (q : Option Nat) (n m c : Nat) (l : List Nat) (bad : Bool) (F : List Nat) (w0 : World)
    (hS : St F w0 [.blk gr 59 (rfV A m c bad), .vw A0 (l.map u8v)] w0) (hR : RfO A0 n q A m c bad) (hl : l.length = n) (hb : Bytes l) :
    Calls Try.prog 22 #[.pointer (some ⟨gr, 0, none⟩)] w0 fun e w' => ∃ L nr cr lm A' m' c' bad' qe, e = .returned (.slice L nr cr) ∧ lm.length = nr ∧ nr ≤ 255 ∧ RfO A0 n qe A' m' c' bad' ∧ (rdN l n 1 q ≤ 64 → qe = mq l n (adv n 1 q) (rdN l n 1 q) ∧ (qe ≠ none → lm = pms l n (adv n 1 q) (rdN l n 1 q))) ∧ (¬ rdN l n 1 q ≤ 64 → qe = none) ∧
      St F w0 [.row (.slice L nr cr) 65 2 nr (flat mmV lm), .blk gr 59 (rfV A' m' c' bad')] w' := by
  refine ent (n := 40) Try.func22 rfl rfl ?_
  refine wp_seq_k ?_; intro K1 hK1
  refine wlit ?_
  refine wl_v (x_assign ev_c) ?_
  refine wl_nil ?_
  refine then_n (hK1 _ _ ?_); clear hK1 K1
  refine wp_seq_k ?_; intro K2 hK2
  refine wlit ?_
  refine wl_v (x_move (tmP rfl rfl)) ?_
  refine wl_e rfl ?_; intro K hK
  refine ow_call Try.func20 rfl rfl (evs_cons (tmP rfl rfl) <| evs_cons (ev_cN 1) <| evs_nil) (rnm_c gr A0 A q 1 n m c l bad _ _ (hS.enter [0] [1] rfl rfl) hR hl hb (by omega)) ?_
  rintro e w ⟨A1, m1, c1, b1, rfl, hS2, hR1⟩
  refine ⟨_, rfl, ?_⟩
  replace hS := hS.leave [0] [1] rfl rfl rfl hS2 rfl --ents gr,va
  clear hS2
  have hcb : rdN l n 1 q < 256 := rdN_lt hb _
  try replace hS := St.nm (M' := [_, .vw _ _]) hS rfl
  refine hK _ _ ?_; clear hK K
  refine wl_v (x_assign (tmI rfl rfl)) ?_
  refine wl_nil ?_
  refine then_n (hK2 _ _ ?_); clear hK2 K2
  refine wp_seq_k ?_; intro K3 hK3
  refine cutc [8, 9, 10, 11, 12, 13, 14, 15, 16, 17, 18] (fun g w => ∃ (b2 : Bool), St F w0 [.blk gr 59 (rfV A1 m1 c1 b2), .vw A0 (l.map u8v)] w ∧ (RfO A0 n (if rdN l n 1 q ≤ 64 then adv n 1 q else none) A1 m1 c1 b2)) ?_ ?_
  · skip
    refine wlit ?_
    refine wl_v (x_move (tmP rfl rfl)) ?_
    refine wl_v (x_move (tmP rfl rfl)) ?_
    refine wl_v (x_nil (A := none) (tmP rfl rfl)) ?_
    refine wl_v (x_fa 1 Try.underlying59 rfl rfl ts_4 (tmP rfl rfl)) ?_
    first
     | refine wl_v (x_load Try.underlying4 rfl (tmP rfl rfl) (cellB hS.ok 0 rfl rfl)) ?_
     | refine wl_v (x_load Try.underlying4 rfl (tmP rfl rfl) (cellV hS.ok 1 rfl rfl)) ?_
     | refine wl_v (x_load Try.underlying4 rfl (tmP rfl rfl) (cellV hS.ok 1 rfl (getm (by omega)))) ?_
     | refine wl_v (x_load Try.underlying4 rfl (tmP rfl rfl) (cellVs hS.ok 1 rfl (fun _ => rfl) rfl (by omega) rfl)) ?_
    refine wl_v (x_move (tmB rfl rfl)) ?_
    refine gs_wl (tm (t := 13) rfl) (fun hg2_5 => ?_) (fun hg2_5 => ?_)
    · have hg2_5' := hg2_5; (try simp only [nrm] at hg2_5'); try (exfalso; first | with_reducible exact absurd hg2_5 Bool.false_ne_true | with_reducible exact absurd hg2_5.symm Bool.false_ne_true | omega | (simp at hg2_5; done))
      all_goals
       refine wl_s rfl (want_n rfl rfl rfl rfl (by rw [hg2_5]; rfl)) ?_
       refine wl_s rfl (want_n rfl rfl rfl rfl (by rw [hg2_5]; rfl)) ?_
       refine wl_v (x_pickT (tmB rfl rfl) hg2_5 ev_c) ?_
       refine wl_v (x_nil (A := none) (tmP rfl rfl)) ?_
       refine wl_v (x_fa 1 Try.underlying59 rfl rfl ts_4 (tmP rfl rfl)) ?_
       refine wl_e rfl ?_; intro K hK
       first
        | refine ow_store hS 0 rfl ts_4 (tmP rfl rfl) (tmB rfl rfl) rfl rfl ?_
        | refine ow_storeX hS 0 rfl ts_4 (tmP rfl rfl) (tmB rfl rfl) rfl (by simp; omega) ?_
        | refine ow_storeRs hS 0 rfl ts_4 (tmP rfl rfl) (tmB rfl rfl) rfl (by first | omega | (simp; omega)) ?_
        | refine ow_storeR hS 0 rfl ts_4 (tmP rfl rfl) (tmB rfl rfl) rfl (by first | omega | (simp; omega)) ?_
        | refine ow_store hS 1 rfl ts_4 (tmP rfl rfl) (tmB rfl rfl) rfl rfl ?_
        | refine ow_storeX hS 1 rfl ts_4 (tmP rfl rfl) (tmB rfl rfl) rfl (by simp; omega) ?_
        | refine ow_storeRs hS 1 rfl ts_4 (tmP rfl rfl) (tmB rfl rfl) rfl (by first | omega | (simp; omega)) ?_
        | refine ow_storeR hS 1 rfl ts_4 (tmP rfl rfl) (tmB rfl rfl) rfl (by first | omega | (simp; omega)) ?_
       clear hS; intro w hS
       refine hK _ _ ?_; clear hK K
       refine wl_nil ?_
       exact then_n ⟨_, rfl, (by repeat (first | exact agree_self | exact agree_refl | refine agree_upd rfl ?_ | refine agree_mix rfl ?_)), _, hS, (by exact rf_flag hR1 _ _ (by rw [hg2_5]; first | (simp; done) | (simp; omega)))⟩
    have hg2_5' := hg2_5; (try simp only [nrm] at hg2_5'); try (exfalso; first | with_reducible exact absurd hg2_5 Bool.false_ne_true | with_reducible exact absurd hg2_5.symm Bool.false_ne_true | omega | (simp at hg2_5; done))
    all_goals
     refine wl_gv (want_y rfl rfl rfl rfl (by rw [hg2_5]; rfl)) (x_move (tmI rfl rfl)) ?_
     refine wl_gv (want_y rfl rfl rfl rfl (by rw [hg2_5]; rfl)) (x_gtr (tmI rfl rfl) (ev_cN 64)) ?_
     refine wl_v (x_pickF (tmB rfl rfl) hg2_5 (tmB rfl rfl)) ?_
     refine wl_v (x_nil (A := none) (tmP rfl rfl)) ?_
     refine wl_v (x_fa 1 Try.underlying59 rfl rfl ts_4 (tmP rfl rfl)) ?_
     refine wl_e rfl ?_; intro K hK
     first
      | refine ow_store hS 0 rfl ts_4 (tmP rfl rfl) (tmB rfl rfl) rfl rfl ?_
      | refine ow_storeX hS 0 rfl ts_4 (tmP rfl rfl) (tmB rfl rfl) rfl (by simp; omega) ?_
      | refine ow_storeRs hS 0 rfl ts_4 (tmP rfl rfl) (tmB rfl rfl) rfl (by first | omega | (simp; omega)) ?_
      | refine ow_storeR hS 0 rfl ts_4 (tmP rfl rfl) (tmB rfl rfl) rfl (by first | omega | (simp; omega)) ?_
      | refine ow_store hS 1 rfl ts_4 (tmP rfl rfl) (tmB rfl rfl) rfl rfl ?_
      | refine ow_storeX hS 1 rfl ts_4 (tmP rfl rfl) (tmB rfl rfl) rfl (by simp; omega) ?_
      | refine ow_storeRs hS 1 rfl ts_4 (tmP rfl rfl) (tmB rfl rfl) rfl (by first | omega | (simp; omega)) ?_
      | refine ow_storeR hS 1 rfl ts_4 (tmP rfl rfl) (tmB rfl rfl) rfl (by first | omega | (simp; omega)) ?_
     clear hS; intro w hS
     refine hK _ _ ?_; clear hK K
     refine wl_nil ?_
     exact then_n ⟨_, rfl, (by repeat (first | exact agree_self | exact agree_refl | refine agree_upd rfl ?_ | refine agree_mix rfl ?_)), _, hS, (by exact rf_flag hR1 _ _ (by rw [hg2_5]; first | (simp; done) | (simp; omega)))⟩
  · clear hS; intro g w hI
    obtain ⟨b2, hS, hR2⟩ := hI
    refine then_n (hK3 _ _ ?_); clear hK3 K3
    refine wp_seq_k ?_; intro K5 hK5
    refine wlit ?_
    refine wl_v (x_assign ev_c) ?_
    refine wl_nil ?_
    refine then_n (hK5 _ _ ?_); clear hK5 K5
    refine wp_seq_k ?_; intro K6 hK6
    refine wp_seq_k ?_; intro K7 hK7
    refine wlit ?_
    refine wl_v (x_assign (ev_cN 0)) ?_
    refine wl_nil ?_
    refine then_n (hK7 _ _ ?_); clear hK7 K7
    refine wp_block ?_
    have hS := (hS.nilrow 65 2) --ents row,gr,va
    refine lp [4, 5, 19, 20, 21, 22, 23, 24, 25, 26, 27, 28, 29, 30, 31, 32, 33, 34, 35, 36, 37, 38] (fun mz g w => ∃ (k : Nat), ∃ (G : Option Addr), ∃ (cg : Nat), ∃ (A3 : Option Addr), ∃ (m3 c3 : Nat), ∃ (b3 : Bool), mz = rdN l n 1 q - k ∧ g 5 = .int .i64 (k : Int) ∧ g 4 = .slice G k cg ∧ St F w0 [.row (.slice G k cg) 65 2 k (flat mmV (pms l n (if rdN l n 1 q ≤ 64 then adv n 1 q else none) k)), .blk gr 59 (rfV A3 m3 c3 b3), .vw A0 (l.map u8v)] w ∧ (k ≤ rdN l n 1 q) ∧ (RfO A0 n (mq l n (if rdN l n 1 q ≤ 64 then adv n 1 q else none) k) A3 m3 c3 b3)) ?_ ?_
    · exact ⟨_, 0, none, 0, A1, m1, c1, b2, rfl, (by first | rfl | go_num | exact congrArg (Value.int _) (by first | omega | (simp; done) | (simp; omega))), (by first | rfl | go_num | exact congrArg (Value.int _) (by first | omega | (simp; done) | (simp; omega))), hS, (by omega), (by first | exact hR5 | exact hR2)⟩
    · clear hS; intro mz g w hI
      obtain ⟨k, G, cg, A3, m3, c3, b3, rfl, hs5, hs4, hS, hk, hR3⟩ := hI
      refine fr_know (d := 5) hs5 ?_; clear hs5
      refine fr_know (d := 4) hs4 ?_; clear hs4
      refine wp_seq_k ?_; intro K8 hK8
      refine wp_seq_k ?_; intro K9 hK9
      refine wlit ?_
      refine wl_v (x_move (tmI rfl rfl)) ?_
      refine wl_v (x_move (tmI rfl rfl)) ?_
      refine wl_v (x_lss (tmI rfl rfl) (tmI rfl rfl)) ?_
      refine wl_v (x_move (tmB rfl rfl)) ?_
      refine gs_wl (tm (t := 22) rfl) (fun hg5_3 => ?_) (fun hg5_3 => ?_)
      · have hg5_3' := hg5_3; (try simp only [nrm] at hg5_3'); try (exfalso; first | with_reducible exact absurd hg5_3 Bool.false_ne_true | with_reducible exact absurd hg5_3.symm Bool.false_ne_true | omega | (simp at hg5_3; done))
        all_goals
         refine wl_gv (want_y rfl rfl rfl rfl (by rw [hg5_3]; rfl)) (x_move (tmP rfl rfl)) ?_
         refine wl_gv (want_y rfl rfl rfl rfl (by rw [hg5_3]; rfl)) (x_nil (A := none) (tmP rfl rfl)) ?_
         refine wl_gv (want_y rfl rfl rfl rfl (by rw [hg5_3]; rfl)) (x_fa 1 Try.underlying59 rfl rfl ts_4 (tmP rfl rfl)) ?_
         first
          | refine wl_gv (want_y rfl rfl rfl rfl (by rw [hg5_3]; rfl)) (x_load Try.underlying4 rfl (tmP rfl rfl) (cellB hS.ok 1 rfl rfl)) ?_
          | refine wl_gv (want_y rfl rfl rfl rfl (by rw [hg5_3]; rfl)) (x_load Try.underlying4 rfl (tmP rfl rfl) (cellR hS.ok 0 rfl rfl)) ?_
          | refine wl_gv (want_y rfl rfl rfl rfl (by rw [hg5_3]; rfl)) (x_load Try.underlying4 rfl (tmP rfl rfl) (cellR hS.ok 0 rfl (getm (by omega)))) ?_
          | refine wl_gv (want_y rfl rfl rfl rfl (by rw [hg5_3]; rfl)) (x_load Try.underlying4 rfl (tmP rfl rfl) (cellRs hS.ok 0 rfl (fun _ => rfl) rfl (by omega) rfl)) ?_
          | refine wl_gv (want_y rfl rfl rfl rfl (by rw [hg5_3]; rfl)) (x_load Try.underlying4 rfl (tmP rfl rfl) (cellV hS.ok 2 rfl rfl)) ?_
          | refine wl_gv (want_y rfl rfl rfl rfl (by rw [hg5_3]; rfl)) (x_load Try.underlying4 rfl (tmP rfl rfl) (cellV hS.ok 2 rfl (getm (by omega)))) ?_
          | refine wl_gv (want_y rfl rfl rfl rfl (by rw [hg5_3]; rfl)) (x_load Try.underlying4 rfl (tmP rfl rfl) (cellVs hS.ok 2 rfl (fun _ => rfl) rfl (by omega) rfl)) ?_
         refine wl_gv (want_y rfl rfl rfl rfl (by rw [hg5_3]; rfl)) (x_not (tmB rfl rfl)) ?_
         refine wl_v (x_pickT (tmB rfl rfl) hg5_3 (tmB rfl rfl)) ?_
         refine wl_nil ?_
         refine then_n (hK9 _ _ ?_); clear hK9 K9
         refine cnd (tm rfl) (fun hc0 => ?_) (fun hc0 => ?_)
         · try (exfalso; first | with_reducible exact absurd hc0 Bool.false_ne_true | with_reducible exact absurd hc0.symm Bool.false_ne_true | (simp only [nrm] at hc0; omega) | (simp at hc0; done))
           all_goals
            try simp only [nrm] at hc0
            refine wp_skip ?_
            refine then_n (hK8 _ _ ?_); clear hK8 K8
            refine wp_seq_k ?_; intro K10 hK10
            refine wp_block ?_
            obtain ⟨qk, hqk⟩ : ∃ qk, qk = mq l n (if rdN l n 1 q ≤ 64 then adv n 1 q else none) k := ⟨_, rfl⟩
            refine wlit ?_
            refine wl_v (x_move (tmS rfl rfl)) ?_
            refine wl_v (x_move (tmP rfl rfl)) ?_
            refine wl_e rfl ?_; intro K hK
            refine ow_call Try.func20 rfl rfl (evs_cons (tmP rfl rfl) <| evs_cons (ev_cN 1) <| evs_nil) (rnm_c gr A0 A3 _ 1 n m3 c3 l b3 _ _ (hS.enter [1] [2] rfl rfl) hR3 hl hb (by omega)) ?_
            rintro e w ⟨A4, m4, c4, b4, rfl, hS2, hR4⟩
            refine ⟨_, rfl, ?_⟩
            replace hS := hS.leave [1] [0, 2] rfl rfl rfl hS2 rfl --ents gr,row,va
            clear hS2
            try replace hS := St.nm (M' := [_, .row _ _ _ _ _, .vw _ _]) hS rfl
            refine hK _ _ ?_; clear hK K
            refine wl_v (x_move (tmP rfl rfl)) ?_
            refine wl_e rfl ?_; intro K hK
            refine ow_call Try.func20 rfl rfl (evs_cons (tmP rfl rfl) <| evs_cons (ev_cN 1) <| evs_nil) (rnm_c gr A0 A4 _ 1 n m4 c4 l b4 _ _ (hS.enter [0] [2] rfl rfl) hR4 hl hb (by omega)) ?_
            rintro e w ⟨A5, m5, c5, b5, rfl, hS2, hR5⟩
            refine ⟨_, rfl, ?_⟩
            replace hS := hS.leave [0] [1, 2] rfl rfl rfl hS2 rfl --ents gr,row,va
            clear hS2
            try replace hS := St.nm (M' := [_, .row _ _ _ _ _, .vw _ _]) hS rfl
            refine hK _ _ ?_; clear hK K
            refine wl_v (x_build (bc_take (tmI rfl rfl) <| bc_take (tmI rfl rfl) <| bc_nil) (by kernel_rfl)) ?_
            refine wl_e rfl ?_; intro K hK
            refine ow_build hS Try.underlying26 tz_65 (bc_takeL (tmA rfl rfl) <| bc_nil) rfl rfl (by kernel_rfl) ?_
            clear hS; intro g7_6 w hg7_6 hS
            refine hK _ _ ?_; clear hK K
            refine wl_e rfl ?_; intro K hK
            (refine ow_append hS 2 0 rfl rfl Try.underlying26 tz_65 rfl (tmS rfl rfl) (tmS rfl rfl) rfl ⟨by decide, by decide, rfl⟩ (by simp only [maxLen]; omega) (by omega) ?_; clear hS; intro g7_7 cg7_7 w hS)
            refine hK _ _ ?_; clear hK K
            refine wl_v (x_assign (tmS rfl rfl)) ?_
            refine wl_nil ?_
            refine inb_n ?_
            refine then_n (hK10 _ _ ?_); clear hK10 K10
            refine wlit ?_
            refine wl_v (x_move (tmI rfl rfl)) ?_
            first
             | refine wl_v (x_addN (tmI rfl rfl) (ev_cN 1) (fit_i64 (by omega))) ?_
             | refine wl_v (x_addI (tmI rfl rfl) (ev_cN 1) (IntWalk.i64_in _ (by omega))) ?_
             | refine wl_v (x_add (tmI rfl rfl) (ev_cN 1)) ?_
            refine wl_v (x_assign (tmI rfl rfl)) ?_
            refine wl_nil ?_
            exact then_n ⟨_, _, rfl, (by show _ < _; omega), (by repeat (first | exact agree_self | exact agree_refl | refine agree_upd rfl ?_ | refine agree_mix rfl ?_)), k + 1, _, _, A5, m5, c5, b5, rfl, (by first | rfl | go_num | exact congrArg (Value.int _) (by first | omega | (simp; done) | (simp; omega))), (by first | rfl | go_num | exact congrArg (Value.int _) (by first | omega | (simp; done) | (simp; omega))), (by rw [pms_succ, flat_snoc]; exact hS.pick [2, 1, 3] rfl rfl), (by omega), (by first | exact hR5 | exact hR2)⟩
         try (exfalso; first | with_reducible exact absurd hc0 Bool.false_ne_true | with_reducible exact absurd hc0.symm Bool.false_ne_true | (simp only [nrm] at hc0; omega) | (simp at hc0; done))
         all_goals
          try simp only [nrm] at hc0
          refine wp_exit ?_
          refine then_x ?_; clear hK8 K8
          refine then_x ?_
          refine inb_x ?_
          refine then_n (hK6 _ _ ?_); clear hK6 K6
          refine wp_seq_k ?_; intro K11 hK11
          refine wlit ?_
          refine wl_v (x_move (tmS rfl rfl)) ?_
          refine wl_v (x_assign (tmS rfl rfl)) ?_
          refine wl_nil ?_
          refine then_n (hK11 _ _ ?_); clear hK11 K11
          refine wp_ret ?_
          refine ret1 rfl (.tmp rfl (show _ = Value.slice _ _ _ from rfl)) ?_
          by_cases h64 : rdN l n 1 q ≤ 64
          · rw [if_pos h64] at hR3 hS
            first
              | (have hn : mq l n (adv n 1 q) k = none := by rw [hc0] at hR3; exact hR3.badq
                 have hn2 : mq l n (adv n 1 q) (rdN l n 1 q) = none := by
                   have := mq_stick hn (rdN l n 1 q - k)
                   rwa [show k + (rdN l n 1 q - k) = rdN l n 1 q from by omega] at this
                 exact ⟨G, k, cg, _, A3, m3, c3, b3, none, rfl, pms_len _ _ _ _, by omega, hc0, fun _ => ⟨hn2.symm, fun h => absurd rfl h⟩, fun h => absurd h64 h, hS.pick [0, 1] rfl rfl⟩)
              | (obtain rfl : k = rdN l n 1 q := by omega
                 exact ⟨G, _, cg, _, A3, m3, c3, b3, _, rfl, pms_len _ _ _ _, by omega, hR3, fun _ => ⟨rfl, fun _ => rfl⟩, fun h => absurd h64 h, hS.pick [0, 1] rfl rfl⟩)
          · rw [if_neg h64, mq_none] at hR3
            rw [if_neg h64] at hS
            exact ⟨G, k, cg, _, A3, m3, c3, b3, none, rfl, pms_len _ _ _ _, by omega, hR3, fun h => absurd h h64, fun _ => rfl, hS.pick [0, 1] rfl rfl⟩
      have hg5_3' := hg5_3; (try simp only [nrm] at hg5_3'); try (exfalso; first | with_reducible exact absurd hg5_3 Bool.false_ne_true | with_reducible exact absurd hg5_3.symm Bool.false_ne_true | omega | (simp at hg5_3; done))
      all_goals
       refine wl_s rfl (want_n rfl rfl rfl rfl (by rw [hg5_3]; rfl)) ?_
       refine wl_s rfl (want_n rfl rfl rfl rfl (by rw [hg5_3]; rfl)) ?_
       refine wl_s rfl (want_n rfl rfl rfl rfl (by rw [hg5_3]; rfl)) ?_
       refine wl_s rfl (want_n rfl rfl rfl rfl (by rw [hg5_3]; rfl)) ?_
       refine wl_s rfl (want_n rfl rfl rfl rfl (by rw [hg5_3]; rfl)) ?_
       refine wl_v (x_pickF (tmB rfl rfl) hg5_3 ev_c) ?_
       refine wl_nil ?_
       refine then_n (hK9 _ _ ?_); clear hK9 K9
       refine cnd_f (tmB rfl rfl) rfl ?_
       refine wp_exit ?_
       refine then_x ?_; clear hK8 K8
       refine then_x ?_
       refine inb_x ?_
       refine then_n (hK6 _ _ ?_); clear hK6 K6
       refine wp_seq_k ?_; intro K12 hK12
       refine wlit ?_
       refine wl_v (x_move (tmS rfl rfl)) ?_
       refine wl_v (x_assign (tmS rfl rfl)) ?_
       refine wl_nil ?_
       refine then_n (hK12 _ _ ?_); clear hK12 K12
       refine wp_ret ?_
       refine ret1 rfl (.tmp rfl (show _ = Value.slice _ _ _ from rfl)) ?_
       by_cases h64 : rdN l n 1 q ≤ 64
       · rw [if_pos h64] at hR3 hS
         first
           | (have hn : mq l n (adv n 1 q) k = none := by rw [hc0] at hR3; exact hR3.badq
              have hn2 : mq l n (adv n 1 q) (rdN l n 1 q) = none := by
                have := mq_stick hn (rdN l n 1 q - k)
                rwa [show k + (rdN l n 1 q - k) = rdN l n 1 q from by omega] at this
              exact ⟨G, k, cg, _, A3, m3, c3, b3, none, rfl, pms_len _ _ _ _, by omega, hc0, fun _ => ⟨hn2.symm, fun h => absurd rfl h⟩, fun h => absurd h64 h, hS.pick [0, 1] rfl rfl⟩)
           | (obtain rfl : k = rdN l n 1 q := by omega
              exact ⟨G, _, cg, _, A3, m3, c3, b3, _, rfl, pms_len _ _ _ _, by omega, hR3, fun _ => ⟨rfl, fun _ => rfl⟩, fun h => absurd h64 h, hS.pick [0, 1] rfl rfl⟩)
       · rw [if_neg h64, mq_none] at hR3
         rw [if_neg h64] at hS
         exact ⟨G, k, cg, _, A3, m3, c3, b3, none, rfl, pms_len _ _ _ _, by omega, hR3, fun h => absurd h h64, fun _ => rfl, hS.pick [0, 1] rfl rfl⟩
end Go.Proofs.Ytoaodcbfehfdoaa
