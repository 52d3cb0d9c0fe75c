
/- octet's Reader by contract, also past the end: a place, or none. Conditions: none but bounds. -/
import Derived.Test.YtoaodcbfehfdoaaRd
namespace Go.Proofs.Ytoaodcbfehfdoaa
open Go.RowKit
/-- A Reader's state: at place p, or bad. -/
def RdO (A0 : Option Addr) (n : Nat) (q : Option Nat) (A : Option Addr) (m c : Nat) (bad : Bool) : Prop :=
  match q with
  | some p => bad = false ∧ p ≤ n ∧ m = n - p ∧ Off A0 p n A ∧ m ≤ c
  | none => bad = true ∧ A = none ∧ m = 0 ∧ c = 0
def adv (n k : Nat) : Option Nat → Option Nat
  | some p => if p + k ≤ n then some (p + k) else none
  | none => none
def rdN (l : List Nat) (n k : Nat) : Option Nat → Nat
  | some p => if p + k ≤ n then getN l p k else 0
  | none => 0
def rdB (l : List Nat) (n k : Nat) : Option Nat → List Nat
  | some p => if p + k ≤ n then (l.drop p).take k else []
  | none => []
def Sub (A0 : Option Addr) (l : List Nat) (B : Option Addr) (x : List Nat) : Prop :=
  (∀ w bd, View w bd A0 (l.map u8v) → View w bd B (x.map u8v)) ∧ ∀ g, (Ent.vw B (x.map u8v)).blk? = some g → (Ent.vw A0 (l.map u8v)).blk? = some g
theorem sub_nil {A0 : Option Addr} {l : List Nat} : Sub A0 l none [] := ⟨fun _ _ _ => View.nil_, fun g hg => by cases hg⟩
theorem sub_off {A0 A : Option Addr} {l : List Nat} {n p : Nat} (hl : l.length = n) (hA : Off A0 p n A) (k : Nat) : Sub A0 l A ((l.drop p).take k) := by
  have hl' : (l.map u8v).length = n := by rw [List.length_map]; exact hl
  refine ⟨fun w bd hv => ?_, fun g hg => ?_⟩
  · have := off_view hv hl' hA k
    rwa [← List.map_drop, ← List.map_take] at this
  · rw [List.map_take, List.map_drop] at hg
    exact off_blk hl' hA g hg
theorem St.subb {F : List Nat} {w0 w : World} {M : List Ent} (h : St F w0 M w) (i : Nat) {A0 B : Option Addr} {l x : List Nat} (hM : M[i]? = some (.vw A0 (l.map u8v))) (hs : Sub A0 l B x) : St F w0 (.vw B (x.map u8v) :: M) w :=
  h.subv i hM (hs.1 _ _ (h.ok _ (mem_of_get hM))) hs.2
theorem rdB_len {l : List Nat} {n k : Nat} (hl : l.length = n) (q : Option Nat) : (rdB l n k q).length ≤ k := by
  cases q with
  | none => exact Nat.zero_le _
  | some p =>
    unfold rdB
    dsimp only
    split
    · rw [List.length_take]; omega
    · exact Nat.zero_le _
theorem rdB_bytes {l : List Nat} {n k : Nat} (hb : Bytes l) (q : Option Nat) : Bytes (rdB l n k q) := by
  cases q with
  | none => exact Bytes.nil
  | some p =>
    unfold rdB
    dsimp only
    split
    · exact (hb.drop p).take k
    · exact Bytes.nil
theorem rdN_lt {l : List Nat} {n k : Nat} (hb : Bytes l) (q : Option Nat) : rdN l n k q < 256 ^ k := by
  have h0 : 0 < 256 ^ k := Nat.pow_pos (by omega)
  cases q with
  | none => exact h0
  | some p =>
    unfold rdN
    dsimp only
    split
    · exact getN_lt hb p k
    · exact h0
set_option maxRecDepth 100000 in
set_option maxHeartbeats 4000000 in
theorem takeS_c (gr : Nat) (A : Option Addr) (m k c : Nat) (bad : Bool) (F : List Nat) (w0 : World)
    (hS : St F w0 [.blk gr 79 (rdV A m c bad)] w0) (hk : m < k) :
    Calls Try.prog 46 #[.pointer (some ⟨gr, 0, none⟩), .int .i64 (k : Int)] w0 fun e w' => e = .returned (.slice none 0 0) ∧
      St F w0 [.blk gr 79 (rdV none 0 0 true)] w' := by
  refine ent (n := 42) Try.func46 rfl rfl ?_
  refine wp_seq_k ?_; intro K1 hK1
  refine wlit ?_
  refine wl_v (x_assign ev_c) ?_
  refine wl_nil ?_
  refine then_n (hK1 _ _ ?_); clear hK1 K1
  refine wp_seq_k ?_; intro K2 hK2
  refine wp_seq_k ?_; intro K3 hK3
  refine wlit ?_
  refine wl_v (x_move (tmP rfl rfl)) ?_
  first
   | refine wl_v (x_peql Try.underlying48 (tmP rfl rfl) ev_c) ?_
   | refine wl_v (x_peqln Try.underlying48 (tmP rfl rfl) ev_c) ?_
  refine wl_nil ?_
  refine then_n (hK3 _ _ ?_); clear hK3 K3
  refine cnd (tm rfl) (fun hc0 => ?_) (fun hc0 => ?_)
  · exfalso
    simp at hc0
  try (exfalso; first | with_reducible exact absurd hc0 Bool.false_ne_true | with_reducible exact absurd hc0.symm Bool.false_ne_true | (simp only [nrm] at hc0; omega) | (simp at hc0; done))
  all_goals
   try simp only [nrm] at hc0
   refine wp_skip ?_
   refine then_n (hK2 _ _ ?_); clear hK2 K2
   refine wp_seq_k ?_; intro K4 hK4
   refine wp_seq_k ?_; intro K5 hK5
   refine wlit ?_
   refine wl_v (x_move (tmI rfl rfl)) ?_
   refine wl_v (x_lss (tmI rfl rfl) (ev_cN 0)) ?_
   refine wl_v (x_move (tmB rfl rfl)) ?_
   refine gs_wl (tm (t := 10) rfl) (fun hg3_2 => ?_) (fun hg3_2 => ?_)
   · have hg3_2' := hg3_2; (try simp only [nrm] at hg3_2'); try (exfalso; first | with_reducible exact absurd hg3_2 Bool.false_ne_true | with_reducible exact absurd hg3_2.symm Bool.false_ne_true | omega | (simp at hg3_2; done))
     all_goals
      refine wl_s rfl (want_n rfl rfl rfl rfl (by rw [hg3_2]; rfl)) ?_
      refine wl_s rfl (want_n rfl rfl rfl rfl (by rw [hg3_2]; rfl)) ?_
      refine wl_s rfl (want_n rfl rfl rfl rfl (by rw [hg3_2]; rfl)) ?_
      refine wl_s rfl (want_n rfl rfl rfl rfl (by rw [hg3_2]; rfl)) ?_
      refine wl_s rfl (want_n rfl rfl rfl rfl (by rw [hg3_2]; rfl)) ?_
      refine wl_s rfl (want_n rfl rfl rfl rfl (by rw [hg3_2]; rfl)) ?_
      refine wl_s rfl (want_n rfl rfl rfl rfl (by rw [hg3_2]; rfl)) ?_
      refine wl_v (x_pickT (tmB rfl rfl) hg3_2 ev_c) ?_
      refine wl_nil ?_
      refine then_n (hK5 _ _ ?_); clear hK5 K5
      refine cnd_t (tmB rfl rfl) rfl ?_
      refine wp_seq_k ?_; intro K6 hK6
      refine wlit ?_
      refine wl_v (x_move (tmP rfl rfl)) ?_
      refine wl_v (x_move (tmP rfl rfl)) ?_
      refine wl_v (x_nil (A := none) (tmP rfl rfl)) ?_
      refine wl_v (x_fa 0 Try.underlying79 rfl rfl ts_29 (tmP rfl rfl)) ?_
      refine wl_e rfl ?_; intro K hK
      first
       | refine ow_store hS 0 rfl ts_29 (tmP rfl rfl) ev_c rfl rfl ?_
       | refine ow_storeX hS 0 rfl ts_29 (tmP rfl rfl) ev_c rfl (by simp; omega) ?_
       | refine ow_storeRs hS 0 rfl ts_29 (tmP rfl rfl) ev_c rfl (by first | omega | (simp; omega)) ?_
       | refine ow_storeR hS 0 rfl ts_29 (tmP rfl rfl) ev_c rfl (by first | omega | (simp; omega)) ?_
      clear hS; intro w hS
      refine hK _ _ ?_; clear hK K
      refine wl_v (x_nil (A := none) (tmP rfl rfl)) ?_
      refine wl_v (x_fa 1 Try.underlying79 rfl rfl ts_4 (tmP rfl rfl)) ?_
      refine wl_e rfl ?_; intro K hK
      first
       | refine ow_store hS 0 rfl ts_4 (tmP rfl rfl) ev_c rfl rfl ?_
       | refine ow_storeX hS 0 rfl ts_4 (tmP rfl rfl) ev_c rfl (by simp; omega) ?_
       | refine ow_storeRs hS 0 rfl ts_4 (tmP rfl rfl) ev_c rfl (by first | omega | (simp; omega)) ?_
       | refine ow_storeR hS 0 rfl ts_4 (tmP rfl rfl) ev_c rfl (by first | omega | (simp; omega)) ?_
      clear hS; intro w hS
      refine hK _ _ ?_; clear hK K
      refine wl_nil ?_
      refine then_n (hK6 _ _ ?_); clear hK6 K6
      refine wp_seq_k ?_; intro K7 hK7
      refine wlit ?_
      refine wl_v (x_assign ev_c) ?_
      refine wl_nil ?_
      refine then_n (hK7 _ _ ?_); clear hK7 K7
      refine wp_ret ?_
      refine then_r ?_
      refine ret1 rfl (.tmp rfl (show _ = Value.slice _ _ _ from rfl)) ?_
      exact ⟨rfl, hS⟩
   have hg3_2' := hg3_2; (try simp only [nrm] at hg3_2'); try (exfalso; first | with_reducible exact absurd hg3_2 Bool.false_ne_true | with_reducible exact absurd hg3_2.symm Bool.false_ne_true | omega | (simp at hg3_2; done))
   all_goals
    refine wl_gv (want_y rfl rfl rfl rfl (by rw [hg3_2]; rfl)) (x_move (tmI rfl rfl)) ?_
    refine wl_gv (want_y rfl rfl rfl rfl (by rw [hg3_2]; rfl)) (x_move (tmP rfl rfl)) ?_
    refine wl_gv (want_y rfl rfl rfl rfl (by rw [hg3_2]; rfl)) (x_nil (A := none) (tmP rfl rfl)) ?_
    refine wl_gv (want_y rfl rfl rfl rfl (by rw [hg3_2]; rfl)) (x_fa 0 Try.underlying79 rfl rfl ts_29 (tmP rfl rfl)) ?_
    refine wl_gv (want_y rfl rfl rfl rfl (by rw [hg3_2]; rfl)) (x_load Try.underlying29 rfl (tmP rfl rfl) (cellB hS.ok 0 rfl rfl)) ?_
    refine wl_gv (want_y rfl rfl rfl rfl (by rw [hg3_2]; rfl)) (x_len Try.underlying29 (tmS rfl rfl)) ?_
    refine wl_gv (want_y rfl rfl rfl rfl (by rw [hg3_2]; rfl)) (x_gtr (tmI rfl rfl) (tmI rfl rfl)) ?_
    refine wl_v (x_pickF (tmB rfl rfl) hg3_2 (tmB rfl rfl)) ?_
    refine wl_nil ?_
    refine then_n (hK5 _ _ ?_); clear hK5 K5
    refine cnds (tm rfl) (fun hc1 => ?_) (fun hc1 => ?_)
    · exfalso
      simp at hc1
      omega
    try (exfalso; first | with_reducible exact absurd hc1 Bool.false_ne_true | with_reducible exact absurd hc1.symm Bool.false_ne_true | (simp only [nrm] at hc1; omega) | (simp at hc1; done))
    all_goals
     try simp only [nrm] at hc1
     refine wp_seq_k ?_; intro K8 hK8
     refine wlit ?_
     refine wl_v (x_move (tmP rfl rfl)) ?_
     refine wl_v (x_move (tmP rfl rfl)) ?_
     refine wl_v (x_nil (A := none) (tmP rfl rfl)) ?_
     refine wl_v (x_fa 0 Try.underlying79 rfl rfl ts_29 (tmP rfl rfl)) ?_
     refine wl_e rfl ?_; intro K hK
     first
      | refine ow_store hS 0 rfl ts_29 (tmP rfl rfl) ev_c rfl rfl ?_
      | refine ow_storeX hS 0 rfl ts_29 (tmP rfl rfl) ev_c rfl (by simp; omega) ?_
      | refine ow_storeRs hS 0 rfl ts_29 (tmP rfl rfl) ev_c rfl (by first | omega | (simp; omega)) ?_
      | refine ow_storeR hS 0 rfl ts_29 (tmP rfl rfl) ev_c rfl (by first | omega | (simp; omega)) ?_
     clear hS; intro w hS
     refine hK _ _ ?_; clear hK K
     refine wl_v (x_nil (A := none) (tmP rfl rfl)) ?_
     refine wl_v (x_fa 1 Try.underlying79 rfl rfl ts_4 (tmP rfl rfl)) ?_
     refine wl_e rfl ?_; intro K hK
     first
      | refine ow_store hS 0 rfl ts_4 (tmP rfl rfl) ev_c rfl rfl ?_
      | refine ow_storeX hS 0 rfl ts_4 (tmP rfl rfl) ev_c rfl (by simp; omega) ?_
      | refine ow_storeRs hS 0 rfl ts_4 (tmP rfl rfl) ev_c rfl (by first | omega | (simp; omega)) ?_
      | refine ow_storeR hS 0 rfl ts_4 (tmP rfl rfl) ev_c rfl (by first | omega | (simp; omega)) ?_
     clear hS; intro w hS
     refine hK _ _ ?_; clear hK K
     refine wl_nil ?_
     refine then_n (hK8 _ _ ?_); clear hK8 K8
     refine wp_seq_k ?_; intro K9 hK9
     refine wlit ?_
     refine wl_v (x_assign ev_c) ?_
     refine wl_nil ?_
     refine then_n (hK9 _ _ ?_); clear hK9 K9
     refine wp_ret ?_
     refine then_r ?_
     refine ret1 rfl (.tmp rfl (show _ = Value.slice _ _ _ from rfl)) ?_
     exact ⟨rfl, hS⟩
set_option maxRecDepth 100000 in
set_option maxHeartbeats 4000000 in
theorem takeZ_c (gr k : Nat) (hk : k ≤ 0) (F : List Nat) (w0 : World)
    (hS : St F w0 [.blk gr 79 (rdV none 0 0 true)] w0) :
    Calls Try.prog 46 #[.pointer (some ⟨gr, 0, none⟩), .int .i64 (k : Int)] w0 fun e w' => e = .returned (.slice none 0 0) ∧
      St F w0 [.blk gr 79 (rdV none 0 0 true)] w' := by
  refine ent (n := 42) Try.func46 rfl rfl ?_
  refine wp_seq_k ?_; intro K1 hK1
  refine wlit ?_
  refine wl_v (x_assign ev_c) ?_
  refine wl_nil ?_
  refine then_n (hK1 _ _ ?_); clear hK1 K1
  refine wp_seq_k ?_; intro K2 hK2
  refine wp_seq_k ?_; intro K3 hK3
  refine wlit ?_
  refine wl_v (x_move (tmP rfl rfl)) ?_
  first
   | refine wl_v (x_peql Try.underlying48 (tmP rfl rfl) ev_c) ?_
   | refine wl_v (x_peqln Try.underlying48 (tmP rfl rfl) ev_c) ?_
  refine wl_nil ?_
  refine then_n (hK3 _ _ ?_); clear hK3 K3
  refine cnd (tm rfl) (fun hc0 => ?_) (fun hc0 => ?_)
  · exfalso
    simp at hc0
  try (exfalso; first | with_reducible exact absurd hc0 Bool.false_ne_true | with_reducible exact absurd hc0.symm Bool.false_ne_true | (simp only [nrm] at hc0; omega) | (simp at hc0; done))
  all_goals
   try simp only [nrm] at hc0
   refine wp_skip ?_
   refine then_n (hK2 _ _ ?_); clear hK2 K2
   refine wp_seq_k ?_; intro K4 hK4
   refine wp_seq_k ?_; intro K5 hK5
   refine wlit ?_
   refine wl_v (x_move (tmI rfl rfl)) ?_
   refine wl_v (x_lss (tmI rfl rfl) (ev_cN 0)) ?_
   refine wl_v (x_move (tmB rfl rfl)) ?_
   refine gs_wl (tm (t := 10) rfl) (fun hg3_2 => ?_) (fun hg3_2 => ?_)
   · have hg3_2' := hg3_2; (try simp only [nrm] at hg3_2'); try (exfalso; first | with_reducible exact absurd hg3_2 Bool.false_ne_true | with_reducible exact absurd hg3_2.symm Bool.false_ne_true | omega | (simp at hg3_2; done))
     all_goals
      refine wl_s rfl (want_n rfl rfl rfl rfl (by rw [hg3_2]; rfl)) ?_
      refine wl_s rfl (want_n rfl rfl rfl rfl (by rw [hg3_2]; rfl)) ?_
      refine wl_s rfl (want_n rfl rfl rfl rfl (by rw [hg3_2]; rfl)) ?_
      refine wl_s rfl (want_n rfl rfl rfl rfl (by rw [hg3_2]; rfl)) ?_
      refine wl_s rfl (want_n rfl rfl rfl rfl (by rw [hg3_2]; rfl)) ?_
      refine wl_s rfl (want_n rfl rfl rfl rfl (by rw [hg3_2]; rfl)) ?_
      refine wl_s rfl (want_n rfl rfl rfl rfl (by rw [hg3_2]; rfl)) ?_
      refine wl_v (x_pickT (tmB rfl rfl) hg3_2 ev_c) ?_
      refine wl_nil ?_
      refine then_n (hK5 _ _ ?_); clear hK5 K5
      refine cnd_t (tmB rfl rfl) rfl ?_
      refine wp_seq_k ?_; intro K6 hK6
      refine wlit ?_
      refine wl_v (x_move (tmP rfl rfl)) ?_
      refine wl_v (x_move (tmP rfl rfl)) ?_
      refine wl_v (x_nil (A := none) (tmP rfl rfl)) ?_
      refine wl_v (x_fa 0 Try.underlying79 rfl rfl ts_29 (tmP rfl rfl)) ?_
      refine wl_e rfl ?_; intro K hK
      first
       | refine ow_store hS 0 rfl ts_29 (tmP rfl rfl) ev_c rfl rfl ?_
       | refine ow_storeX hS 0 rfl ts_29 (tmP rfl rfl) ev_c rfl (by simp; omega) ?_
       | refine ow_storeRs hS 0 rfl ts_29 (tmP rfl rfl) ev_c rfl (by first | omega | (simp; omega)) ?_
       | refine ow_storeR hS 0 rfl ts_29 (tmP rfl rfl) ev_c rfl (by first | omega | (simp; omega)) ?_
      clear hS; intro w hS
      refine hK _ _ ?_; clear hK K
      refine wl_v (x_nil (A := none) (tmP rfl rfl)) ?_
      refine wl_v (x_fa 1 Try.underlying79 rfl rfl ts_4 (tmP rfl rfl)) ?_
      refine wl_e rfl ?_; intro K hK
      first
       | refine ow_store hS 0 rfl ts_4 (tmP rfl rfl) ev_c rfl rfl ?_
       | refine ow_storeX hS 0 rfl ts_4 (tmP rfl rfl) ev_c rfl (by simp; omega) ?_
       | refine ow_storeRs hS 0 rfl ts_4 (tmP rfl rfl) ev_c rfl (by first | omega | (simp; omega)) ?_
       | refine ow_storeR hS 0 rfl ts_4 (tmP rfl rfl) ev_c rfl (by first | omega | (simp; omega)) ?_
      clear hS; intro w hS
      refine hK _ _ ?_; clear hK K
      refine wl_nil ?_
      refine then_n (hK6 _ _ ?_); clear hK6 K6
      refine wp_seq_k ?_; intro K7 hK7
      refine wlit ?_
      refine wl_v (x_assign ev_c) ?_
      refine wl_nil ?_
      refine then_n (hK7 _ _ ?_); clear hK7 K7
      refine wp_ret ?_
      refine then_r ?_
      refine ret1 rfl (.tmp rfl (show _ = Value.slice _ _ _ from rfl)) ?_
      obtain rfl : k = 0 := by omega
      exact ⟨rfl, hS⟩
   have hg3_2' := hg3_2; (try simp only [nrm] at hg3_2'); try (exfalso; first | with_reducible exact absurd hg3_2 Bool.false_ne_true | with_reducible exact absurd hg3_2.symm Bool.false_ne_true | omega | (simp at hg3_2; done))
   all_goals
    refine wl_gv (want_y rfl rfl rfl rfl (by rw [hg3_2]; rfl)) (x_move (tmI rfl rfl)) ?_
    refine wl_gv (want_y rfl rfl rfl rfl (by rw [hg3_2]; rfl)) (x_move (tmP rfl rfl)) ?_
    refine wl_gv (want_y rfl rfl rfl rfl (by rw [hg3_2]; rfl)) (x_nil (A := none) (tmP rfl rfl)) ?_
    refine wl_gv (want_y rfl rfl rfl rfl (by rw [hg3_2]; rfl)) (x_fa 0 Try.underlying79 rfl rfl ts_29 (tmP rfl rfl)) ?_
    refine wl_gv (want_y rfl rfl rfl rfl (by rw [hg3_2]; rfl)) (x_load Try.underlying29 rfl (tmP rfl rfl) (cellB hS.ok 0 rfl rfl)) ?_
    refine wl_gv (want_y rfl rfl rfl rfl (by rw [hg3_2]; rfl)) (x_len Try.underlying29 (tmS rfl rfl)) ?_
    refine wl_gv (want_y rfl rfl rfl rfl (by rw [hg3_2]; rfl)) (x_gtr (tmI rfl rfl) (tmI rfl rfl)) ?_
    refine wl_v (x_pickF (tmB rfl rfl) hg3_2 (tmB rfl rfl)) ?_
    refine wl_nil ?_
    refine then_n (hK5 _ _ ?_); clear hK5 K5
    refine cnd (tm rfl) (fun hc1 => ?_) (fun hc1 => ?_)
    · exfalso
      simp at hc1
      omega
    try (exfalso; first | with_reducible exact absurd hc1 Bool.false_ne_true | with_reducible exact absurd hc1.symm Bool.false_ne_true | (simp only [nrm] at hc1; omega) | (simp at hc1; done))
    all_goals
     try simp only [nrm] at hc1
     refine wp_skip ?_
     refine then_n (hK4 _ _ ?_); clear hK4 K4
     refine wp_seq_k ?_; intro K8 hK8
     refine wlit ?_
     refine wl_v (x_move (tmP rfl rfl)) ?_
     refine wl_v (x_nil (A := none) (tmP rfl rfl)) ?_
     refine wl_v (x_fa 0 Try.underlying79 rfl rfl ts_29 (tmP rfl rfl)) ?_
     refine wl_v (x_load Try.underlying29 rfl (tmP rfl rfl) (cellB hS.ok 0 rfl rfl)) ?_
     refine wl_v (x_move (tmI rfl rfl)) ?_
     refine wl_v (x_move (tmI rfl rfl)) ?_
     refine wl_v (x_sliceHM Try.underlying29 ts_5 (tmS rfl rfl) (tmI rfl rfl) (tmI rfl rfl) (by omega)) ?_
     refine wl_v (x_assign (tmS rfl rfl)) ?_
     refine wl_nil ?_
     refine then_n (hK8 _ _ ?_); clear hK8 K8
     refine wp_seq_k ?_; intro K9 hK9
     refine wlit ?_
     refine wl_v (x_move (tmP rfl rfl)) ?_
     refine wl_v (x_move (tmP rfl rfl)) ?_
     refine wl_v (x_nil (A := none) (tmP rfl rfl)) ?_
     refine wl_v (x_fa 0 Try.underlying79 rfl rfl ts_29 (tmP rfl rfl)) ?_
     refine wl_v (x_load Try.underlying29 rfl (tmP rfl rfl) (cellB hS.ok 0 rfl rfl)) ?_
     refine wl_v (x_move (tmI rfl rfl)) ?_
     refine wl_v (x_sliceL Try.underlying29 ts_5 (tmS rfl rfl) (tmI rfl rfl) (by omega)) ?_
     refine wl_v (x_nil (A := none) (tmP rfl rfl)) ?_
     refine wl_v (x_fa 0 Try.underlying79 rfl rfl ts_29 (tmP rfl rfl)) ?_
     refine wl_e rfl ?_; intro K hK
     first
      | refine ow_store hS 0 rfl ts_29 (tmP rfl rfl) (tmS rfl rfl) rfl rfl ?_
      | refine ow_storeX hS 0 rfl ts_29 (tmP rfl rfl) (tmS rfl rfl) rfl (by simp; omega) ?_
      | refine ow_storeRs hS 0 rfl ts_29 (tmP rfl rfl) (tmS rfl rfl) rfl (by first | omega | (simp; omega)) ?_
      | refine ow_storeR hS 0 rfl ts_29 (tmP rfl rfl) (tmS rfl rfl) rfl (by first | omega | (simp; omega)) ?_
     clear hS; intro w hS
     refine hK _ _ ?_; clear hK K
     refine wl_nil ?_
     refine then_n (hK9 _ _ ?_); clear hK9 K9
     refine wp_seq_k ?_; intro K10 hK10
     refine wlit ?_
     refine wl_v (x_move (tmS rfl rfl)) ?_
     refine wl_v (x_assign (tmS rfl rfl)) ?_
     refine wl_nil ?_
     refine then_n (hK10 _ _ ?_); clear hK10 K10
     refine wp_ret ?_
     refine ret1 rfl (.tmp rfl (show _ = Value.slice _ _ _ from rfl)) ?_
     obtain rfl : k = 0 := by omega
     exact ⟨rfl, hS⟩
/-- take, wherever the Reader stands. -/
theorem takeT_c (gr : Nat) (A0 A : Option Addr) (q : Option Nat) (k n m c : Nat) (l : List Nat) (bad : Bool) (F : List Nat) (w0 : World)
    (hS : St F w0 [.blk gr 79 (rdV A m c bad), .vw A0 (l.map u8v)] w0) (hR : RdO A0 n q A m c bad) (hl : l.length = n) :
    Calls Try.prog 46 #[.pointer (some ⟨gr, 0, none⟩), .int .i64 (k : Int)] w0 fun e w' => ∃ B nb A' m' c' bad', nb = (rdB l n k q).length ∧ e = .returned (.slice B nb nb) ∧ Sub A0 l B (rdB l n k q) ∧
      St F w0 [.blk gr 79 (rdV A' m' c' bad')] w' ∧ RdO A0 n (adv n k q) A' m' c' bad' := by
  cases q with
  | none =>
    obtain ⟨rfl, rfl, rfl, rfl⟩ := hR
    by_cases hk : k = 0
    · subst hk
      exact Calls.mono (takeZ_c gr 0 (Nat.le_refl 0) F w0 (hS.pick [0] rfl rfl)) fun e w' ⟨h1, h2⟩ => ⟨none, 0, none, 0, 0, true, rfl, h1, sub_nil, h2, rfl, rfl, rfl, rfl⟩
    · exact Calls.mono (takeS_c gr none 0 k 0 true F w0 (hS.pick [0] rfl rfl) (by omega)) fun e w' ⟨h1, h2⟩ => ⟨none, 0, none, 0, 0, true, rfl, h1, sub_nil, h2, rfl, rfl, rfl, rfl⟩
  | some p =>
    obtain ⟨rfl, hp, rfl, hA, hc⟩ := hR
    by_cases hk : p + k ≤ n
    · refine Calls.mono (take_c gr A0 A p k n c l false F w0 hS hA hk hc) fun e w' ⟨A', c', h1, h2, h3, h4⟩ => ⟨A, k, A', n - (p + k), c', false, ?_, h1, ?_, h2, ?_⟩
      · show k = (if p + k ≤ n then (l.drop p).take k else []).length
        rw [if_pos hk, List.length_take, List.length_drop]; omega
      · show Sub A0 l A (if p + k ≤ n then (l.drop p).take k else [])
        rw [if_pos hk]; exact sub_off hl hA k
      · unfold adv RdO
        dsimp only
        rw [if_pos hk]
        exact ⟨rfl, hk, rfl, h3, h4⟩
    · refine Calls.mono (takeS_c gr A (n - p) k c false F w0 (hS.pick [0] rfl rfl) (by omega)) fun e w' ⟨h1, h2⟩ => ⟨none, 0, none, 0, 0, true, ?_, h1, ?_, h2, ?_⟩
      · show 0 = (if p + k ≤ n then (l.drop p).take k else []).length
        rw [if_neg hk]; rfl
      · show Sub A0 l none (if p + k ≤ n then (l.drop p).take k else [])
        rw [if_neg hk]; exact sub_nil
      · unfold adv RdO
        dsimp only
        rw [if_neg hk]
        exact ⟨rfl, rfl, rfl, rfl⟩
theorem rdN_rdB {l : List Nat} {n k : Nat} (q : Option Nat) : numBE (rdB l n k q) = rdN l n k q := by
  cases q with
  | none => rfl
  | some p =>
    unfold rdN rdB
    dsimp only
    split <;> rfl
set_option maxRecDepth 100000 in
set_option maxHeartbeats 4000000 in
theorem numT_c (gr : Nat) (A0 A : Option Addr) (q : Option Nat) (k n m c : Nat) (l : List Nat) (bad : Bool) (F : List Nat) (w0 : World)
    (hS : St F w0 [.blk gr 79 (rdV A m c bad), .vw A0 (l.map u8v)] w0) (hR : RdO A0 n q A m c bad) (hl : l.length = n) (hb : Bytes l) (h8 : k ≤ 8) :
    Calls Try.prog 35 #[.pointer (some ⟨gr, 0, none⟩), .int .i64 (k : Int)] w0 fun e w' => ∃ A' m' c' bad', e = .returned (.int .u64 ((rdN l n k q : Nat) : Int)) ∧
      St F w0 [.blk gr 79 (rdV A' m' c' bad')] w' ∧ RdO A0 n (adv n k q) A' m' c' bad' := by
  have hlk : (rdB l n k q).length ≤ k := rdB_len hl q
  have hbk : Bytes (rdB l n k q) := rdB_bytes hb q
  have hNB := rdN_rdB (l := l) (n := n) (k := k) q
  refine ent (n := 25) Try.func35 rfl rfl ?_
  refine wp_seq_k ?_; intro K1 hK1
  refine wlit ?_
  refine wl_v (x_assign (ev_cN 0)) ?_
  refine wl_nil ?_
  refine then_n (hK1 _ _ ?_); clear hK1 K1
  refine wp_seq_k ?_; intro K2 hK2
  refine wp_seq_k ?_; intro K3 hK3
  refine wlit ?_
  refine wl_v (x_move (tmI rfl rfl)) ?_
  refine wl_v (x_gtr (tmI rfl rfl) (ev_cN 8)) ?_
  refine wl_nil ?_
  refine then_n (hK3 _ _ ?_); clear hK3 K3
  refine cnd (tm rfl) (fun hc0 => ?_) (fun hc0 => ?_)
  · exfalso
    simp at hc0
    omega
  try (exfalso; first | with_reducible exact absurd hc0 Bool.false_ne_true | with_reducible exact absurd hc0.symm Bool.false_ne_true | (simp only [nrm] at hc0; omega) | (simp at hc0; done))
  all_goals
   try simp only [nrm] at hc0
   refine wp_skip ?_
   refine then_n (hK2 _ _ ?_); clear hK2 K2
   refine wp_seq_k ?_; intro K4 hK4
   refine wlit ?_
   refine wl_v (x_assign (ev_cN 0)) ?_
   refine wl_nil ?_
   refine then_n (hK4 _ _ ?_); clear hK4 K4
   refine wp_seq_k ?_; intro K5 hK5
   refine wp_seq_k ?_; intro K6 hK6
   refine wlit ?_
   refine wl_v (x_move (tmP rfl rfl)) ?_
   refine wl_v (x_move (tmI rfl rfl)) ?_
   refine wl_e rfl ?_; intro K hK
   refine ow_call Try.func46 rfl rfl (evs_cons (tmP rfl rfl) <| evs_cons (tmI rfl rfl) <| evs_nil) (takeT_c gr A0 A q k n m c l bad _ _ (hS.enter [0] [1] rfl rfl) hR hl) ?_
   rintro e w ⟨B, nb, A', m', c', bad', hnb, rfl, hsub, hS2, hR2⟩
   refine ⟨_, rfl, ?_⟩
   replace hS := hS.leave [0] [1] rfl rfl rfl hS2 rfl
   clear hS2
   replace hS := hS.subb 1 rfl hsub --+vb
   generalize rdB l n k q = x at *
   clear hsub hR
   try replace hS := St.nm (M' := [.vw _ _, _, .vw _ _]) hS rfl
   refine hK _ _ ?_; clear hK K
   refine wl_v (x_len Try.underlying29 (tmS rfl rfl)) ?_
   refine wl_v (x_move (ev_cN 0)) ?_
   refine wl_nil ?_
   refine then_n (hK6 _ _ ?_); clear hK6 K6
   refine wp_block ?_
   refine lp [5, 7, 14, 15, 16, 17, 18, 19, 20, 21, 22, 23] (fun mz g w => ∃ (j : Nat), mz = nb - j ∧ g 14 = .int .i64 (j : Int) ∧ g 5 = .int .u64 ((numBE (x.take j) : Nat) : Int) ∧ St F w0 [.vw B (x.map u8v), .blk gr 79 (rdV A' m' c' bad'), .vw A0 (l.map u8v)] w ∧ (j ≤ nb)) ?_ ?_
   · exact ⟨_, 0, rfl, (by first | rfl | go_num | exact congrArg (Value.int _) (by first | omega | (simp; done) | (simp; omega))), (by first | rfl | go_num | exact congrArg (Value.int _) (by first | omega | (simp; done) | (simp; omega))), hS, (by omega)⟩
   · clear hS; intro mz g w hI
     obtain ⟨j, rfl, hs14, hs5, hS, hj⟩ := hI
     refine fr_know (d := 14) hs14 ?_; clear hs14
     refine fr_know (d := 5) hs5 ?_; clear hs5
     refine wp_seq_k ?_; intro K7 hK7
     refine wlit ?_
     refine wl_v (x_lss (tmI rfl rfl) (tmI rfl rfl)) ?_
     refine wl_nil ?_
     refine then_n (hK7 _ _ ?_); clear hK7 K7
     refine wp_seq_k ?_; intro K8 hK8
     refine cnd (tm rfl) (fun hc1 => ?_) (fun hc1 => ?_)
     · try (exfalso; first | with_reducible exact absurd hc1 Bool.false_ne_true | with_reducible exact absurd hc1.symm Bool.false_ne_true | (simp only [nrm] at hc1; omega) | (simp at hc1; done))
       all_goals
        try simp only [nrm] at hc1
        obtain ⟨b4, o4, rfl⟩ := view_some (viewV hS.ok 0 rfl) (by rw [List.length_map]; omega)
        have hbj' : x.getD j 0 < 256 := nth_lt hbk j
        have hnl := numBE_lt hbk j (by omega)
        have hnl2 : numBE (x.take j) < 256 ^ 7 := Nat.lt_of_lt_of_le hnl (Nat.pow_le_pow_right (by omega) (by omega))
        have hx : numBE (x.take (j + 1)) = numBE (x.take j) * 2 ^ 8 ||| x.getD j 0 := by
          rw [numBE_snoc _ j (by omega), or_low hbj']; rfl
        generalize hq : numBE (x.take j) = qq at *
        refine wp_skip ?_
        refine then_n (hK8 _ _ ?_); clear hK8 K8
        refine wp_seq_k ?_; intro K9 hK9
        refine wp_block ?_
        refine wp_seq_k ?_; intro K10 hK10
        refine wlit ?_
        refine wl_v (x_ixs1 Try.underlying29 ts_5 (tmS rfl rfl) (tmI rfl rfl) (by omega)) ?_
        first
         | refine wl_v (x_load Try.underlying5 rfl (tmP rfl rfl) (cellB hS.ok 1 rfl rfl)) ?_
         | refine wl_v (x_load Try.underlying5 rfl (tmP rfl rfl) (cellV hS.ok 0 rfl rfl)) ?_
         | refine wl_v (x_load Try.underlying5 rfl (tmP rfl rfl) (cellV hS.ok 0 rfl (getm (by omega)))) ?_
         | refine wl_v (x_load Try.underlying5 rfl (tmP rfl rfl) (cellVs hS.ok 0 rfl (fun _ => rfl) rfl (by omega) rfl)) ?_
         | refine wl_v (x_load Try.underlying5 rfl (tmP rfl rfl) (cellV hS.ok 2 rfl rfl)) ?_
         | refine wl_v (x_load Try.underlying5 rfl (tmP rfl rfl) (cellV hS.ok 2 rfl (getm (by omega)))) ?_
         | refine wl_v (x_load Try.underlying5 rfl (tmP rfl rfl) (cellVs hS.ok 2 rfl (fun _ => rfl) rfl (by omega) rfl)) ?_
        refine wl_v (x_assign (tmI rfl rfl)) ?_
        refine wl_nil ?_
        refine then_n (hK10 _ _ ?_); clear hK10 K10
        refine wlit ?_
        refine wl_v (x_move (tmI rfl rfl)) ?_
        first
         | refine wl_v (x_shlN (tmI rfl rfl) (ev_cN 8) (by decide) (fit_u64 (by omega))) ?_
         | refine wl_v (x_shlN (tmI rfl rfl) (ev_cN 8) (by have : IntKind.bits .u64 = 64 := rfl; omega) (fit_u64 (by omega))) ?_
         | refine wl_v (x_shlU (tmI rfl rfl) (ev_cN 8) rfl) ?_
        refine wl_v (x_move (tmI rfl rfl)) ?_
        first
         | refine wl_v (x_convN Try.underlying5 Try.underlying22 (tmI rfl rfl) (fit_u64 (by omega))) ?_
         | refine wl_v (x_convU Try.underlying5 Try.underlying22 (tmI rfl rfl) rfl) ?_
         | refine wl_v (x_conv Try.underlying5 Try.underlying22 (tmI rfl rfl)) ?_
        refine wl_v (x_orN (tmI rfl rfl) (tmI rfl rfl) (fit_u64 (by omega)) (fit_u64 (by omega))) ?_
        refine wl_v (x_assign (tmI rfl rfl)) ?_
        refine wl_nil ?_
        refine inb_n ?_
        refine then_n (hK9 _ _ ?_); clear hK9 K9
        refine wlit ?_
        first
         | refine wl_v (x_addN (tmI rfl rfl) (ev_cN 1) (fit_i64 (by omega))) ?_
         | refine wl_v (x_addI (tmI rfl rfl) (ev_cN 1) (IntWalk.i64_in _ (by omega))) ?_
         | refine wl_v (x_add (tmI rfl rfl) (ev_cN 1)) ?_
        refine wl_v (x_move (tmI rfl rfl)) ?_
        refine wl_nil ?_
        exact then_n ⟨_, _, rfl, (by show _ < _; omega), (by repeat (first | exact agree_self | exact agree_refl | refine agree_upd rfl ?_ | refine agree_mix rfl ?_)), j + 1, rfl, (by first | rfl | go_num | exact congrArg (Value.int _) (by first | omega | (simp; done) | (simp; omega))), (by first | rfl | (rw [hx]; done) | (rw [hx]; rfl) | (rw [hx]; go_num)), hS, (by omega)⟩
     try (exfalso; first | with_reducible exact absurd hc1 Bool.false_ne_true | with_reducible exact absurd hc1.symm Bool.false_ne_true | (simp only [nrm] at hc1; omega) | (simp at hc1; done))
     all_goals
      try simp only [nrm] at hc1
      refine wp_exit ?_
      refine then_x ?_; clear hK8 K8
      refine then_x ?_
      refine inb_x ?_
      refine then_n (hK5 _ _ ?_); clear hK5 K5
      refine wp_seq_k ?_; intro K11 hK11
      refine wlit ?_
      refine wl_v (x_move (tmI rfl rfl)) ?_
      refine wl_v (x_assign (tmI rfl rfl)) ?_
      refine wl_nil ?_
      refine then_n (hK11 _ _ ?_); clear hK11 K11
      refine wp_ret ?_
      refine ret1 rfl (.tmp rfl (show _ = Value.int _ _ from rfl)) ?_
      obtain rfl : nb = j := by omega
      rw [List.take_of_length_le (by omega), hNB]
      exact ⟨A', m', c', bad', rfl, hS.pick [1] rfl rfl, hR2⟩
set_option maxRecDepth 100000 in
set_option maxHeartbeats 4000000 in
theorem byteT_c (gr : Nat) (A0 A : Option Addr) (q : Option Nat) (n m c : Nat) (l : List Nat) (bad : Bool) (F : List Nat) (w0 : World)
    (hS : St F w0 [.blk gr 79 (rdV A m c bad), .vw A0 (l.map u8v)] w0) (hR : RdO A0 n q A m c bad) (hl : l.length = n) (hb : Bytes l) :
    Calls Try.prog 15 #[.pointer (some ⟨gr, 0, none⟩)] w0 fun e w' => ∃ A' m' c' bad', e = .returned (.int .u8 ((rdN l n 1 q : Nat) : Int)) ∧
      St F w0 [.blk gr 79 (rdV A' m' c' bad')] w' ∧ RdO A0 n (adv n 1 q) A' m' c' bad' := by
  have hbd : rdN l n 1 q < 256 ^ 1 := rdN_lt hb q
  refine ent (n := 6) Try.func15 rfl rfl ?_
  refine wp_seq_k ?_; intro K1 hK1
  refine wlit ?_
  refine wl_v (x_assign (ev_cN 0)) ?_
  refine wl_nil ?_
  refine then_n (hK1 _ _ ?_); clear hK1 K1
  refine wp_seq_k ?_; intro K2 hK2
  refine wlit ?_
  refine wl_v (x_move (tmP rfl rfl)) ?_
  refine wl_e rfl ?_; intro K hK
  refine ow_call Try.func35 rfl rfl (evs_cons (tmP rfl rfl) <| evs_cons (ev_cN 1) <| evs_nil) (numT_c gr A0 A q 1 n m c l bad _ _ (hS.enter [0] [1] rfl rfl) hR hl hb (by omega)) ?_
  rintro e w ⟨A', m', c', bad', rfl, hS2, hR2⟩
  refine ⟨_, rfl, ?_⟩
  replace hS := hS.leave [0] [1] rfl rfl rfl hS2 rfl
  clear hS2
  try replace hS := St.nm (M' := [_, .vw _ _]) hS rfl
  refine hK _ _ ?_; clear hK K
  first
   | refine wl_v (x_convN Try.underlying22 Try.underlying5 (tmI rfl rfl) (fit_u8 (by omega))) ?_
   | refine wl_v (x_convU Try.underlying22 Try.underlying5 (tmI rfl rfl) rfl) ?_
   | refine wl_v (x_conv Try.underlying22 Try.underlying5 (tmI rfl rfl)) ?_
  refine wl_v (x_assign (tmI rfl rfl)) ?_
  refine wl_nil ?_
  refine then_n (hK2 _ _ ?_); clear hK2 K2
  refine wp_ret ?_
  refine ret1 rfl (.tmp rfl (show _ = Value.int _ _ from rfl)) ?_
  exact ⟨A', m', c', bad', rfl, hS.pick [0] rfl rfl, hR2⟩
set_option maxRecDepth 100000 in
set_option maxHeartbeats 4000000 in
theorem wordT_c (gr : Nat) (A0 A : Option Addr) (q : Option Nat) (n m c : Nat) (l : List Nat) (bad : Bool) (F : List Nat) (w0 : World)
    (hS : St F w0 [.blk gr 79 (rdV A m c bad), .vw A0 (l.map u8v)] w0) (hR : RdO A0 n q A m c bad) (hl : l.length = n) (hb : Bytes l) :
    Calls Try.prog 17 #[.pointer (some ⟨gr, 0, none⟩)] w0 fun e w' => ∃ A' m' c' bad', e = .returned (.int .u16 ((rdN l n 2 q : Nat) : Int)) ∧
      St F w0 [.blk gr 79 (rdV A' m' c' bad')] w' ∧ RdO A0 n (adv n 2 q) A' m' c' bad' := by
  have hbd : rdN l n 2 q < 256 ^ 2 := rdN_lt hb q
  refine ent (n := 6) Try.func17 rfl rfl ?_
  refine wp_seq_k ?_; intro K1 hK1
  refine wlit ?_
  refine wl_v (x_assign (ev_cN 0)) ?_
  refine wl_nil ?_
  refine then_n (hK1 _ _ ?_); clear hK1 K1
  refine wp_seq_k ?_; intro K2 hK2
  refine wlit ?_
  refine wl_v (x_move (tmP rfl rfl)) ?_
  refine wl_e rfl ?_; intro K hK
  refine ow_call Try.func35 rfl rfl (evs_cons (tmP rfl rfl) <| evs_cons (ev_cN 2) <| evs_nil) (numT_c gr A0 A q 2 n m c l bad _ _ (hS.enter [0] [1] rfl rfl) hR hl hb (by omega)) ?_
  rintro e w ⟨A', m', c', bad', rfl, hS2, hR2⟩
  refine ⟨_, rfl, ?_⟩
  replace hS := hS.leave [0] [1] rfl rfl rfl hS2 rfl
  clear hS2
  try replace hS := St.nm (M' := [_, .vw _ _]) hS rfl
  refine hK _ _ ?_; clear hK K
  first
   | refine wl_v (x_convN Try.underlying22 Try.underlying25 (tmI rfl rfl) (fit_u16 (by omega))) ?_
   | refine wl_v (x_convU Try.underlying22 Try.underlying25 (tmI rfl rfl) rfl) ?_
   | refine wl_v (x_conv Try.underlying22 Try.underlying25 (tmI rfl rfl)) ?_
  refine wl_v (x_assign (tmI rfl rfl)) ?_
  refine wl_nil ?_
  refine then_n (hK2 _ _ ?_); clear hK2 K2
  refine wp_ret ?_
  refine ret1 rfl (.tmp rfl (show _ = Value.int _ _ from rfl)) ?_
  exact ⟨A', m', c', bad', rfl, hS.pick [0] rfl rfl, hR2⟩
set_option maxRecDepth 100000 in
set_option maxHeartbeats 4000000 in
theorem bytesT_c (gr : Nat) (A0 A : Option Addr) (q : Option Nat) (k n m c : Nat) (l : List Nat) (bad : Bool) (F : List Nat) (w0 : World)
    (hS : St F w0 [.blk gr 79 (rdV A m c bad), .vw A0 (l.map u8v)] w0) (hR : RdO A0 n q A m c bad) (hl : l.length = n) :
    Calls Try.prog 37 #[.pointer (some ⟨gr, 0, none⟩), .int .i64 (k : Int)] w0 fun e w' => ∃ B nb A' m' c' bad', nb = (rdB l n k q).length ∧ e = .returned (.slice B nb nb) ∧ Sub A0 l B (rdB l n k q) ∧
      St F w0 [.blk gr 79 (rdV A' m' c' bad')] w' ∧ RdO A0 n (adv n k q) A' m' c' bad' := by
  refine ent (n := 8) Try.func37 rfl rfl ?_
  refine wp_seq_k ?_; intro K1 hK1
  refine wlit ?_
  refine wl_v (x_assign ev_c) ?_
  refine wl_nil ?_
  refine then_n (hK1 _ _ ?_); clear hK1 K1
  refine wp_seq_k ?_; intro K2 hK2
  refine wlit ?_
  refine wl_v (x_move (tmP rfl rfl)) ?_
  refine wl_v (x_move (tmI rfl rfl)) ?_
  refine wl_e rfl ?_; intro K hK
  refine ow_call Try.func46 rfl rfl (evs_cons (tmP rfl rfl) <| evs_cons (tmI rfl rfl) <| evs_nil) (takeT_c gr A0 A q k n m c l bad _ _ (hS.enter [0] [1] rfl rfl) hR hl) ?_
  rintro e w ⟨B, nb, A', m', c', bad', hnb, rfl, hsub, hS2, hR2⟩
  refine ⟨_, rfl, ?_⟩
  replace hS := hS.leave [0] [1] rfl rfl rfl hS2 rfl
  clear hS2
  try replace hS := St.nm (M' := [_, .vw _ _]) hS rfl
  refine hK _ _ ?_; clear hK K
  refine wl_v (x_assign (tmS rfl rfl)) ?_
  refine wl_nil ?_
  refine then_n (hK2 _ _ ?_); clear hK2 K2
  refine wp_ret ?_
  refine ret1 rfl (.tmp rfl (show _ = Value.slice _ _ _ from rfl)) ?_
  exact ⟨B, nb, A', m', c', bad', hnb, rfl, hsub, hS.pick [0] rfl rfl, hR2⟩
set_option maxRecDepth 100000 in
set_option maxHeartbeats 4000000 in
theorem bad_c (gr : Nat) (A : Option Addr) (n c : Nat) (bad : Bool) (w0 : World) (hv : View w0 w0.heap.size (some ⟨gr, 0, none⟩) (rdV A n c bad)) :
    Calls Try.prog 39 #[.pointer (some ⟨gr, 0, none⟩)] w0 fun e w' => e = .returned (.bool bad) ∧ Kp [] w0 w' := by
  have hS := (St.sv w0).vcons rfl hv
  refine ent (n := 11) Try.func39 rfl rfl ?_
  refine wp_seq_k ?_; intro K1 hK1
  refine wlit ?_
  refine wl_v (x_assign ev_c) ?_
  refine wl_nil ?_
  refine then_n (hK1 _ _ ?_); clear hK1 K1
  refine wp_seq_k ?_; intro K2 hK2
  refine wlit ?_
  refine wl_v (x_move (tmP rfl rfl)) ?_
  first
   | refine wl_v (x_peql Try.underlying48 (tmP rfl rfl) ev_c) ?_
   | refine wl_v (x_peqln Try.underlying48 (tmP rfl rfl) ev_c) ?_
  refine wl_v (x_move (tmB rfl rfl)) ?_
  refine gs_wl (tm (t := 5) rfl) (fun hg1_2 => ?_) (fun hg1_2 => ?_)
  · have hg1_2' := hg1_2; (try simp only [nrm] at hg1_2'); try (exfalso; first | with_reducible exact absurd hg1_2 Bool.false_ne_true | with_reducible exact absurd hg1_2.symm Bool.false_ne_true | omega | (simp at hg1_2; done))
    all_goals
     refine wl_s rfl (want_n rfl rfl rfl rfl (by rw [hg1_2]; rfl)) ?_
     refine wl_s rfl (want_n rfl rfl rfl rfl (by rw [hg1_2]; rfl)) ?_
     refine wl_s rfl (want_n rfl rfl rfl rfl (by rw [hg1_2]; rfl)) ?_
     refine wl_s rfl (want_n rfl rfl rfl rfl (by rw [hg1_2]; rfl)) ?_
     refine wl_v (x_pickT (tmB rfl rfl) hg1_2 ev_c) ?_
     refine wl_v (x_assign (tmB rfl rfl)) ?_
     refine wl_nil ?_
     refine then_n (hK2 _ _ ?_); clear hK2 K2
     refine wp_ret ?_
     refine ret1 rfl (.tmp rfl (show _ = Value.bool _ from rfl)) ?_
     exact ⟨rfl, hS.kp⟩
  have hg1_2' := hg1_2; (try simp only [nrm] at hg1_2'); try (exfalso; first | with_reducible exact absurd hg1_2 Bool.false_ne_true | with_reducible exact absurd hg1_2.symm Bool.false_ne_true | omega | (simp at hg1_2; done))
  all_goals
   refine wl_gv (want_y rfl rfl rfl rfl (by rw [hg1_2]; rfl)) (x_move (tmP rfl rfl)) ?_
   refine wl_gv (want_y rfl rfl rfl rfl (by rw [hg1_2]; rfl)) (x_nil (A := none) (tmP rfl rfl)) ?_
   refine wl_gv (want_y rfl rfl rfl rfl (by rw [hg1_2]; rfl)) (x_fa 1 Try.underlying79 rfl rfl ts_4 (tmP rfl rfl)) ?_
   first
    | refine wl_gv (want_y rfl rfl rfl rfl (by rw [hg1_2]; rfl)) (x_load Try.underlying4 rfl (tmP rfl rfl) (cellV hS.ok 0 rfl rfl)) ?_
    | refine wl_gv (want_y rfl rfl rfl rfl (by rw [hg1_2]; rfl)) (x_load Try.underlying4 rfl (tmP rfl rfl) (cellV hS.ok 0 rfl (getm (by omega)))) ?_
    | refine wl_gv (want_y rfl rfl rfl rfl (by rw [hg1_2]; rfl)) (x_load Try.underlying4 rfl (tmP rfl rfl) (cellVs hS.ok 0 rfl (fun _ => rfl) rfl (by omega) rfl)) ?_
   refine wl_v (x_pickF (tmB rfl rfl) hg1_2 (tmB rfl rfl)) ?_
   refine wl_v (x_assign (tmB rfl rfl)) ?_
   refine wl_nil ?_
   refine then_n (hK2 _ _ ?_); clear hK2 K2
   refine wp_ret ?_
   refine ret1 rfl (.tmp rfl (show _ = Value.bool _ from rfl)) ?_
   exact ⟨rfl, hS.kp⟩
end Go.Proofs.Ytoaodcbfehfdoaa
