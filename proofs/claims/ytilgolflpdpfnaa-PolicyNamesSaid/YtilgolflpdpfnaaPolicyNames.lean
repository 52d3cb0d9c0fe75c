
/- Proved: PolicyNames returns true for every way and name, and changes no memory that was there. Conditions: none. -/
import Derived.Test.YtilgolflpdpfnaaLeastP
import Derived.Test.YtilgolflpdpfnaaArgs
import Derived.Test.YtilgolflpdpfnaaArr
namespace Go.Proofs.Ytilgolflpdpfnaa
open Go.RowKit
namespace PolicyNames
def nameL (z : Int) : List Nat := if z = 1 then [116, 117, 114, 110, 115] else if z = 2 then [119, 101, 105, 103, 104, 116, 115] else if z = 3 then [108, 111, 97, 100, 115] else if z = 4 then [100, 114, 97, 119, 115] else []
theorem n1 : nameL 1 = [116, 117, 114, 110, 115] := rfl
theorem n2 : nameL 2 = [119, 101, 105, 103, 104, 116, 115] := rfl
theorem n3 : nameL 3 = [108, 111, 97, 100, 115] := rfl
theorem n4 : nameL 4 = [100, 114, 97, 119, 115] := rfl
theorem nx {z : Int} (h : z < 1 ∨ 4 < z) : nameL z = [] := by unfold nameL; rw [if_neg (by omega), if_neg (by omega), if_neg (by omega), if_neg (by omega)]
theorem name_bytes (z : Int) : Bytes (nameL z) := by
  unfold nameL
  repeat' split
  all_goals (intro x hx; first | (simp at hx; done) | (simp at hx; omega))
theorem bstr_of (s : ByteArray) : ∃ l, Bytes l ∧ s = bstr l := by
  refine ⟨s.data.toList.map UInt8.toNat, ?_, ?_⟩
  · intro x hx
    obtain ⟨b, _, rfl⟩ := List.mem_map.1 hx
    exact b.toNat_lt
  · unfold bstr
    rw [List.map_map]
    have h : (UInt8.ofNat ∘ UInt8.toNat) = id := by
      funext b
      simp
    rw [h, List.map_id]
def ofL (l : List Nat) : Nat := if l = nameL 1 then 1 else if l = nameL 2 then 2 else if l = nameL 3 then 3 else if l = nameL 4 then 4 else 0
theorem ofL_le (l : List Nat) : ofL l ≤ 4 := by
  unfold ofL
  repeat' split
  all_goals omega
theorem ofL_iff {l : List Nat} {i : Nat} (h1 : 1 ≤ i) (h4 : i ≤ 4) : nameL (i : Int) = l ↔ ofL l = i := by
  have e : i = 1 ∨ i = 2 ∨ i = 3 ∨ i = 4 := by omega
  constructor
  · rintro rfl
    rcases e with rfl | rfl | rfl | rfl <;> decide
  · intro h
    unfold ofL at h
    rcases e with rfl | rfl | rfl | rfl
    · split at h
      · rename_i h9; exact h9.symm
      · split at h <;> (try omega)
        split at h <;> (try omega)
        split at h <;> omega
    · split at h
      · omega
      · split at h
        · rename_i h9; exact h9.symm
        · split at h <;> (try omega)
          split at h <;> omega
    · split at h
      · omega
      · split at h
        · omega
        · split at h
          · rename_i h9; exact h9.symm
          · split at h <;> omega
    · split at h
      · omega
      · split at h
        · omega
        · split at h
          · omega
          · split at h
            · rename_i h9; exact h9.symm
            · omega
set_option maxRecDepth 100000 in
set_option maxHeartbeats 4000000 in
theorem right_c (z : Int) (w0 : World) :
    Calls Try.prog 72 #[.int .i64 z] w0 fun e w' => e = .returned (.bool (decide (1 ≤ z ∧ z ≤ 4))) ∧ Kp [] w0 w' := by
  have hS := St.sv w0
  refine ent (n := 9) Try.func72 rfl rfl ?_
  refine wp_seq_k ?_; intro K1 hK1
  refine wlit ?_
  refine wl_v (x_assign ev_c) ?_
  refine wl_nil ?_
  refine then_n (hK1 _ _ ?_); clear hK1 K1
  refine wp_seq_k ?_; intro K2 hK2
  refine wlit ?_
  refine wl_v (x_move (tmI rfl rfl)) ?_
  refine wl_v (x_geq (tmI rfl rfl) (ev_cN 1)) ?_
  refine wl_v (x_move (tmB rfl rfl)) ?_
  refine gs_wl (tm (t := 5) rfl) (fun hg1_2 => ?_) (fun hg1_2 => ?_)
  · have hg1_2' := hg1_2; (try simp only [nrm] at hg1_2'); try (exfalso; first | with_reducible exact absurd hg1_2 Bool.false_ne_true | with_reducible exact absurd hg1_2.symm Bool.false_ne_true | omega | (simp at hg1_2; done))
    all_goals
     refine wl_gv (want_y rfl rfl rfl rfl (by rw [hg1_2]; rfl)) (x_move (tmI rfl rfl)) ?_
     refine wl_gv (want_y rfl rfl rfl rfl (by rw [hg1_2]; rfl)) (x_leq (tmI rfl rfl) (ev_cN 4)) ?_
     refine wl_v (x_pickT (tmB rfl rfl) hg1_2 (tmB rfl rfl)) ?_
     refine wl_v (x_assign (tmB rfl rfl)) ?_
     refine wl_nil ?_
     refine then_n (hK2 _ _ ?_); clear hK2 K2
     refine wp_ret ?_
     refine ret1 rfl (.tmp rfl (show _ = Value.bool _ from rfl)) ?_
     refine ⟨ret_bool ?_, hS.kp⟩
     first
       | exact (decide_eq_false (fun h => by omega)).symm
       | (rw [decide_eq_decide]; omega)
  have hg1_2' := hg1_2; (try simp only [nrm] at hg1_2'); try (exfalso; first | with_reducible exact absurd hg1_2 Bool.false_ne_true | with_reducible exact absurd hg1_2.symm Bool.false_ne_true | omega | (simp at hg1_2; done))
  all_goals
   refine wl_s rfl (want_n rfl rfl rfl rfl (by rw [hg1_2]; rfl)) ?_
   refine wl_s rfl (want_n rfl rfl rfl rfl (by rw [hg1_2]; rfl)) ?_
   refine wl_v (x_pickF (tmB rfl rfl) hg1_2 ev_c) ?_
   refine wl_v (x_assign (tmB rfl rfl)) ?_
   refine wl_nil ?_
   refine then_n (hK2 _ _ ?_); clear hK2 K2
   refine wp_ret ?_
   refine ret1 rfl (.tmp rfl (show _ = Value.bool _ from rfl)) ?_
   refine ⟨ret_bool ?_, hS.kp⟩
   first
     | exact (decide_eq_false (fun h => by omega)).symm
     | (rw [decide_eq_decide]; omega)
set_option maxRecDepth 100000 in
set_option maxHeartbeats 4000000 in
theorem name_c (z : Int) (w0 : World) :
    Calls Try.prog 73 #[.int .i64 z] w0 fun e w' => e = .returned (.string (bstr (nameL z))) ∧ Kp [] w0 w' := by
  have hS := St.sv w0
  refine ent (n := 12) Try.func73 rfl rfl ?_
  refine wp_seq_k ?_; intro K1 hK1
  refine wlit ?_
  refine wl_v (x_assign ev_c) ?_
  refine wl_nil ?_
  refine then_n (hK1 _ _ ?_); clear hK1 K1
  refine wp_seq_k ?_; intro K2 hK2
  refine wp_seq_k ?_; intro K3 hK3
  refine wlit ?_
  refine wl_v (x_move (tmI rfl rfl)) ?_
  refine wl_nil ?_
  refine then_n (hK3 _ _ ?_); clear hK3 K3
  refine wp_block ?_
  refine wp_seq_k ?_; intro K4 hK4
  refine wlit ?_
  refine wl_v (x_eql (tmI rfl rfl) (ev_cN 1)) ?_
  refine wl_v (x_assign (tmB rfl rfl)) ?_
  refine wl_nil ?_
  refine then_n (hK4 _ _ ?_); clear hK4 K4
  refine cnd (tm rfl) (fun hc0 => ?_) (fun hc0 => ?_)
  · try (exfalso; first | with_reducible exact absurd hc0 Bool.false_ne_true | with_reducible exact absurd hc0.symm Bool.false_ne_true | (simp only [nrm] at hc0; omega) | (simp at hc0; done))
    all_goals
     try simp only [nrm] at hc0
     refine wp_seq_k ?_; intro K5 hK5
     refine wlit ?_
     refine wl_v (x_assign ev_c) ?_
     refine wl_nil ?_
     refine then_n (hK5 _ _ ?_); clear hK5 K5
     refine wp_ret ?_
     refine inb_r ?_
     refine then_r ?_
     refine ret1 rfl (.tmp rfl rfl) ?_
     refine ⟨?_, hS.kp⟩
     first
       | (have h : z = 1 := by omega
          subst h; rfl)
       | (have h : z = 2 := by omega
          subst h; rfl)
       | (have h : z = 3 := by omega
          subst h; rfl)
       | (have h : z = 4 := by omega
          subst h; rfl)
       | (rw [nx (by omega)]; rfl)
  try (exfalso; first | with_reducible exact absurd hc0 Bool.false_ne_true | with_reducible exact absurd hc0.symm Bool.false_ne_true | (simp only [nrm] at hc0; omega) | (simp at hc0; done))
  all_goals
   try simp only [nrm] at hc0
   refine wp_seq_k ?_; intro K6 hK6
   refine wlit ?_
   refine wl_v (x_eql (tmI rfl rfl) (ev_cN 2)) ?_
   refine wl_v (x_assign (tmB rfl rfl)) ?_
   refine wl_nil ?_
   refine then_n (hK6 _ _ ?_); clear hK6 K6
   refine cnd (tm rfl) (fun hc1 => ?_) (fun hc1 => ?_)
   · try (exfalso; first | with_reducible exact absurd hc1 Bool.false_ne_true | with_reducible exact absurd hc1.symm Bool.false_ne_true | (simp only [nrm] at hc1; omega) | (simp at hc1; done))
     all_goals
      try simp only [nrm] at hc1
      refine wp_seq_k ?_; intro K7 hK7
      refine wlit ?_
      refine wl_v (x_assign ev_c) ?_
      refine wl_nil ?_
      refine then_n (hK7 _ _ ?_); clear hK7 K7
      refine wp_ret ?_
      refine inb_r ?_
      refine then_r ?_
      refine ret1 rfl (.tmp rfl rfl) ?_
      refine ⟨?_, hS.kp⟩
      first
        | (have h : z = 1 := by omega
           subst h; rfl)
        | (have h : z = 2 := by omega
           subst h; rfl)
        | (have h : z = 3 := by omega
           subst h; rfl)
        | (have h : z = 4 := by omega
           subst h; rfl)
        | (rw [nx (by omega)]; rfl)
   try (exfalso; first | with_reducible exact absurd hc1 Bool.false_ne_true | with_reducible exact absurd hc1.symm Bool.false_ne_true | (simp only [nrm] at hc1; omega) | (simp at hc1; done))
   all_goals
    try simp only [nrm] at hc1
    refine wp_seq_k ?_; intro K8 hK8
    refine wlit ?_
    refine wl_v (x_eql (tmI rfl rfl) (ev_cN 3)) ?_
    refine wl_v (x_assign (tmB rfl rfl)) ?_
    refine wl_nil ?_
    refine then_n (hK8 _ _ ?_); clear hK8 K8
    refine cnd (tm rfl) (fun hc2 => ?_) (fun hc2 => ?_)
    · try (exfalso; first | with_reducible exact absurd hc2 Bool.false_ne_true | with_reducible exact absurd hc2.symm Bool.false_ne_true | (simp only [nrm] at hc2; omega) | (simp at hc2; done))
      all_goals
       try simp only [nrm] at hc2
       refine wp_seq_k ?_; intro K9 hK9
       refine wlit ?_
       refine wl_v (x_assign ev_c) ?_
       refine wl_nil ?_
       refine then_n (hK9 _ _ ?_); clear hK9 K9
       refine wp_ret ?_
       refine inb_r ?_
       refine then_r ?_
       refine ret1 rfl (.tmp rfl rfl) ?_
       refine ⟨?_, hS.kp⟩
       first
         | (have h : z = 1 := by omega
            subst h; rfl)
         | (have h : z = 2 := by omega
            subst h; rfl)
         | (have h : z = 3 := by omega
            subst h; rfl)
         | (have h : z = 4 := by omega
            subst h; rfl)
         | (rw [nx (by omega)]; rfl)
    try (exfalso; first | with_reducible exact absurd hc2 Bool.false_ne_true | with_reducible exact absurd hc2.symm Bool.false_ne_true | (simp only [nrm] at hc2; omega) | (simp at hc2; done))
    all_goals
     try simp only [nrm] at hc2
     refine wp_seq_k ?_; intro K10 hK10
     refine wlit ?_
     refine wl_v (x_eql (tmI rfl rfl) (ev_cN 4)) ?_
     refine wl_v (x_assign (tmB rfl rfl)) ?_
     refine wl_nil ?_
     refine then_n (hK10 _ _ ?_); clear hK10 K10
     refine cnd (tm rfl) (fun hc3 => ?_) (fun hc3 => ?_)
     · try (exfalso; first | with_reducible exact absurd hc3 Bool.false_ne_true | with_reducible exact absurd hc3.symm Bool.false_ne_true | (simp only [nrm] at hc3; omega) | (simp at hc3; done))
       all_goals
        try simp only [nrm] at hc3
        refine wp_seq_k ?_; intro K11 hK11
        refine wlit ?_
        refine wl_v (x_assign ev_c) ?_
        refine wl_nil ?_
        refine then_n (hK11 _ _ ?_); clear hK11 K11
        refine wp_ret ?_
        refine inb_r ?_
        refine then_r ?_
        refine ret1 rfl (.tmp rfl rfl) ?_
        refine ⟨?_, hS.kp⟩
        first
          | (have h : z = 1 := by omega
             subst h; rfl)
          | (have h : z = 2 := by omega
             subst h; rfl)
          | (have h : z = 3 := by omega
             subst h; rfl)
          | (have h : z = 4 := by omega
             subst h; rfl)
          | (rw [nx (by omega)]; rfl)
     try (exfalso; first | with_reducible exact absurd hc3 Bool.false_ne_true | with_reducible exact absurd hc3.symm Bool.false_ne_true | (simp only [nrm] at hc3; omega) | (simp at hc3; done))
     all_goals
      try simp only [nrm] at hc3
      refine wp_skip ?_
      refine inb_n ?_
      refine then_n (hK2 _ _ ?_); clear hK2 K2
      refine wp_seq_k ?_; intro K12 hK12
      refine wlit ?_
      refine wl_v (x_assign ev_c) ?_
      refine wl_nil ?_
      refine then_n (hK12 _ _ ?_); clear hK12 K12
      refine wp_ret ?_
      refine ret1 rfl (.tmp rfl rfl) ?_
      refine ⟨?_, hS.kp⟩
      first
        | (have h : z = 1 := by omega
           subst h; rfl)
        | (have h : z = 2 := by omega
           subst h; rfl)
        | (have h : z = 3 := by omega
           subst h; rfl)
        | (have h : z = 4 := by omega
           subst h; rfl)
        | (rw [nx (by omega)]; rfl)
def strs : List Value := [.string (bstr []), .string (bstr [116, 117, 114, 110, 115]), .string (bstr [119, 101, 105, 103, 104, 116, 115]), .string (bstr [108, 111, 97, 100, 115]), .string (bstr [100, 114, 97, 119, 115])]
theorem strs_get {k : Nat} (h1 : 1 ≤ k) (h : k ≤ 4) : strs[k]? = some (.string (bstr (nameL (k : Int)))) := by
  have e : k = 1 ∨ k = 2 ∨ k = 3 ∨ k = 4 := by omega
  rcases e with rfl | rfl | rfl | rfl <;> rfl
set_option maxRecDepth 100000 in
set_option maxHeartbeats 4000000 in
theorem rname_c (z : Int) (w0 : World) :
    Calls Try.prog 71 #[.int .i64 z] w0 fun e w' => e = .returned (.string (bstr (nameL z))) ∧ Kp [] w0 w' := by
  have hS := St.sv w0
  by_cases hz : 1 ≤ z ∧ z ≤ 4
  · obtain ⟨k, rfl⟩ := Int.eq_ofNat_of_zero_le (a := z) (by omega)
    have hk1 : 1 ≤ k := by omega
    have hk4 : k ≤ 4 := by omega
    refine ent (n := 15) Try.func71 rfl rfl ?_
    refine wp_seq_k ?_; intro K1 hK1
    refine wlit ?_
    refine wl_v (x_assign ev_c) ?_
    refine wl_nil ?_
    refine then_n (hK1 _ _ ?_); clear hK1 K1
    refine wp_seq_k ?_; intro K2 hK2
    refine wlit ?_
    refine wl_e rfl ?_; intro K hK
    refine ow_build hS Try.underlying102 tz_9 (bc_take ev_c <| bc_take ev_c <| bc_take ev_c <| bc_take ev_c <| bc_take ev_c <| bc_nil) rfl rfl (by kernel_rfl) ?_
    clear hS; intro g1_0 w hg1_0 hS
    refine hK _ _ ?_; clear hK K
    refine wl_v (x_assign (tmS rfl rfl)) ?_
    refine wl_nil ?_
    refine then_n (hK2 _ _ ?_); clear hK2 K2
    refine wp_seq_k ?_; intro K3 hK3
    refine wp_seq_k ?_; intro K4 hK4
    refine wlit ?_
    refine wl_v (x_move (tmI rfl rfl)) ?_
    refine wl_v (x_lss (tmI rfl rfl) (ev_cN 1)) ?_
    refine wl_v (x_move (tmB rfl rfl)) ?_
    refine gs_wl (tm (t := 7) rfl) (fun hg2_2 => ?_) (fun hg2_2 => ?_)
    · have hg2_2' := hg2_2; (try simp only [nrm] at hg2_2'); try (exfalso; first | with_reducible exact absurd hg2_2 Bool.false_ne_true | with_reducible exact absurd hg2_2.symm Bool.false_ne_true | omega | (simp at hg2_2; done))
      all_goals
       refine wl_s rfl (want_n rfl rfl rfl rfl (by rw [hg2_2]; rfl)) ?_
       refine wl_s rfl (want_n rfl rfl rfl rfl (by rw [hg2_2]; rfl)) ?_
       refine wl_v (x_pickT (tmB rfl rfl) hg2_2 ev_c) ?_
       refine wl_nil ?_
       refine then_n (hK4 _ _ ?_); clear hK4 K4
       refine cnd_t (tmB rfl rfl) rfl ?_
       refine wp_seq_k ?_; intro K5 hK5
       refine wlit ?_
       refine wl_v (x_assign ev_c) ?_
       refine wl_nil ?_
       refine then_n (hK5 _ _ ?_); clear hK5 K5
       refine wp_ret ?_
       refine then_r ?_
       refine ret1 rfl (.tmp rfl rfl) ?_
       exact ⟨rfl, hS.kp⟩
    have hg2_2' := hg2_2; (try simp only [nrm] at hg2_2'); try (exfalso; first | with_reducible exact absurd hg2_2 Bool.false_ne_true | with_reducible exact absurd hg2_2.symm Bool.false_ne_true | omega | (simp at hg2_2; done))
    all_goals
     refine wl_gv (want_y rfl rfl rfl rfl (by rw [hg2_2]; rfl)) (x_move (tmI rfl rfl)) ?_
     refine wl_gv (want_y rfl rfl rfl rfl (by rw [hg2_2]; rfl)) (x_gtr (tmI rfl rfl) (ev_cN 4)) ?_
     refine wl_v (x_pickF (tmB rfl rfl) hg2_2 (tmB rfl rfl)) ?_
     refine wl_nil ?_
     refine then_n (hK4 _ _ ?_); clear hK4 K4
     refine cnd (tm rfl) (fun hc0 => ?_) (fun hc0 => ?_)
     · exfalso
       simp only [nrm] at hc0
       omega
     try (exfalso; first | with_reducible exact absurd hc0 Bool.false_ne_true | with_reducible exact absurd hc0.symm Bool.false_ne_true | (simp only [nrm] at hc0; omega) | (simp at hc0; done))
     all_goals
      try simp only [nrm] at hc0
      refine wp_skip ?_
      refine then_n (hK3 _ _ ?_); clear hK3 K3
      refine wp_seq_k ?_; intro K6 hK6
      refine wlit ?_
      refine wl_v (x_move (tmS rfl rfl)) ?_
      refine wl_v (x_move (tmI rfl rfl)) ?_
      refine wl_v (x_ixs1 Try.underlying102 ts_9 (tmS rfl rfl) (tmI rfl rfl) (by omega)) ?_
      refine wl_v (x_load Try.underlying9 rfl (tmP rfl rfl) (cellB hS.ok 0 rfl (by rw [Nat.zero_add]; exact strs_get hk1 hk4))) ?_
      refine wl_v (x_assign (tmG rfl rfl)) ?_
      refine wl_nil ?_
      refine then_n (hK6 _ _ ?_); clear hK6 K6
      refine wp_ret ?_
      refine ret1 rfl (.tmp rfl rfl) ?_
      exact ⟨rfl, hS.kp⟩
  · skip
    refine ent (n := 15) Try.func71 rfl rfl ?_
    refine wp_seq_k ?_; intro K1 hK1
    refine wlit ?_
    refine wl_v (x_assign ev_c) ?_
    refine wl_nil ?_
    refine then_n (hK1 _ _ ?_); clear hK1 K1
    refine wp_seq_k ?_; intro K2 hK2
    refine wlit ?_
    refine wl_e rfl ?_; intro K hK
    refine ow_build hS Try.underlying102 tz_9 (bc_take ev_c <| bc_take ev_c <| bc_take ev_c <| bc_take ev_c <| bc_take ev_c <| bc_nil) rfl rfl (by kernel_rfl) ?_
    clear hS; intro g1_0 w hg1_0 hS
    refine hK _ _ ?_; clear hK K
    refine wl_v (x_assign (tmS rfl rfl)) ?_
    refine wl_nil ?_
    refine then_n (hK2 _ _ ?_); clear hK2 K2
    refine wp_seq_k ?_; intro K3 hK3
    refine wp_seq_k ?_; intro K4 hK4
    refine wlit ?_
    refine wl_v (x_move (tmI rfl rfl)) ?_
    refine wl_v (x_lss (tmI rfl rfl) (ev_cN 1)) ?_
    refine wl_v (x_move (tmB rfl rfl)) ?_
    refine gs_wl (tm (t := 7) rfl) (fun hg2_2 => ?_) (fun hg2_2 => ?_)
    · have hg2_2' := hg2_2; (try simp only [nrm] at hg2_2'); try (exfalso; first | with_reducible exact absurd hg2_2 Bool.false_ne_true | with_reducible exact absurd hg2_2.symm Bool.false_ne_true | omega | (simp at hg2_2; done))
      all_goals
       refine wl_s rfl (want_n rfl rfl rfl rfl (by rw [hg2_2]; rfl)) ?_
       refine wl_s rfl (want_n rfl rfl rfl rfl (by rw [hg2_2]; rfl)) ?_
       refine wl_v (x_pickT (tmB rfl rfl) hg2_2 ev_c) ?_
       refine wl_nil ?_
       refine then_n (hK4 _ _ ?_); clear hK4 K4
       refine cnd_t (tmB rfl rfl) rfl ?_
       refine wp_seq_k ?_; intro K5 hK5
       refine wlit ?_
       refine wl_v (x_assign ev_c) ?_
       refine wl_nil ?_
       refine then_n (hK5 _ _ ?_); clear hK5 K5
       refine wp_ret ?_
       refine then_r ?_
       refine ret1 rfl (.tmp rfl rfl) ?_
       rw [nx (by omega)]
       exact ⟨rfl, hS.kp⟩
    have hg2_2' := hg2_2; (try simp only [nrm] at hg2_2'); try (exfalso; first | with_reducible exact absurd hg2_2 Bool.false_ne_true | with_reducible exact absurd hg2_2.symm Bool.false_ne_true | omega | (simp at hg2_2; done))
    all_goals
     refine wl_gv (want_y rfl rfl rfl rfl (by rw [hg2_2]; rfl)) (x_move (tmI rfl rfl)) ?_
     refine wl_gv (want_y rfl rfl rfl rfl (by rw [hg2_2]; rfl)) (x_gtr (tmI rfl rfl) (ev_cN 4)) ?_
     refine wl_v (x_pickF (tmB rfl rfl) hg2_2 (tmB rfl rfl)) ?_
     refine wl_nil ?_
     refine then_n (hK4 _ _ ?_); clear hK4 K4
     refine cnds (tm rfl) (fun hc0 => ?_) (fun hc0 => ?_)
     · exfalso
       simp only [nrm] at hc0
       omega
     try (exfalso; first | with_reducible exact absurd hc0 Bool.false_ne_true | with_reducible exact absurd hc0.symm Bool.false_ne_true | (simp only [nrm] at hc0; omega) | (simp at hc0; done))
     all_goals
      try simp only [nrm] at hc0
      refine wp_seq_k ?_; intro K6 hK6
      refine wlit ?_
      refine wl_v (x_assign ev_c) ?_
      refine wl_nil ?_
      refine then_n (hK6 _ _ ?_); clear hK6 K6
      refine wp_ret ?_
      refine then_r ?_
      refine ret1 rfl (.tmp rfl rfl) ?_
      rw [nx (by omega)]
      exact ⟨rfl, hS.kp⟩
set_option maxRecDepth 100000 in
set_option maxHeartbeats 4000000 in
theorem of_c (l : List Nat) (w0 : World) (hb : Bytes l) :
    Calls Try.prog 74 #[.string (bstr l)] w0 fun e w' => e = .returned (.int .i64 (ofL l : Int)) ∧ Kp [] w0 w' := by
  have hS := St.sv w0
  have hle := ofL_le l
  refine ent (n := 13) Try.func74 rfl rfl ?_
  refine wp_seq_k ?_; intro K1 hK1
  refine wlit ?_
  refine wl_v (x_assign (ev_cN 0)) ?_
  refine wl_nil ?_
  refine then_n (hK1 _ _ ?_); clear hK1 K1
  refine wp_seq_k ?_; intro K2 hK2
  refine wp_seq_k ?_; intro K3 hK3
  refine wlit ?_
  refine wl_v (x_assign (ev_cN 1)) ?_
  refine wl_nil ?_
  refine then_n (hK3 _ _ ?_); clear hK3 K3
  refine wp_block ?_
  refine lp [2, 3, 4, 5, 6, 7, 8, 9, 10, 11, 12] (fun mz g w => ∃ (i : Nat), mz = 5 - i ∧ g 3 = .int .i64 (i : Int) ∧ St [] w0 [] w ∧ (1 ≤ i ∧ i ≤ 5) ∧ (ofL l = 0 ∨ i ≤ ofL l)) ?_ ?_
  · exact ⟨_, 1, rfl, (by first | rfl | go_num | exact congrArg (Value.int _) (by first | omega | (simp; done) | (simp; omega))), hS, (by omega), (by omega)⟩
  · clear hS; intro mz g w hI
    obtain ⟨i, rfl, hs3, hS, hi, ho⟩ := hI
    refine fr_know (d := 3) hs3 ?_; clear hs3
    refine wp_seq_k ?_; intro K4 hK4
    refine wp_seq_k ?_; intro K5 hK5
    refine wlit ?_
    refine wl_v (x_move (tmI rfl rfl)) ?_
    refine wl_v (x_leq (tmI rfl rfl) (ev_cN 4)) ?_
    refine wl_nil ?_
    refine then_n (hK5 _ _ ?_); clear hK5 K5
    refine cnd (tm rfl) (fun hc0 => ?_) (fun hc0 => ?_)
    · try (exfalso; first | with_reducible exact absurd hc0 Bool.false_ne_true | with_reducible exact absurd hc0.symm Bool.false_ne_true | (simp only [nrm] at hc0; omega) | (simp at hc0; done))
      all_goals
       try simp only [nrm] at hc0
       refine wp_skip ?_
       refine then_n (hK4 _ _ ?_); clear hK4 K4
       refine wp_seq_k ?_; intro K6 hK6
       refine wp_block ?_
       refine wp_seq_k ?_; intro K7 hK7
       refine wlit ?_
       refine wl_v (x_move (tmI rfl rfl)) ?_
       refine wl_e rfl ?_; intro K hK
       refine ow_call Try.func73 rfl rfl (evs_cons (tmI rfl rfl) <| evs_nil) (name_c _ _) ?_
       rintro e w ⟨rfl, hk⟩
       refine ⟨_, rfl, ?_⟩
       replace hS := hS.kept hk
       clear hk
       refine hK _ _ ?_; clear hK K
       refine wl_v (x_move (tmG rfl rfl)) ?_
       refine wl_v (x_Geql (tmG rfl rfl) (tmG rfl rfl) (name_bytes _) hb) ?_
       refine wl_nil ?_
       refine then_n (hK7 _ _ ?_); clear hK7 K7
       refine cnd (tm rfl) (fun hc1 => ?_) (fun hc1 => ?_)
       · try (exfalso; first | with_reducible exact absurd hc1 Bool.false_ne_true | with_reducible exact absurd hc1.symm Bool.false_ne_true | (simp only [nrm] at hc1; omega) | (simp at hc1; done))
         all_goals
          try simp only [nrm] at hc1
          have hoi : ofL l = i := (ofL_iff (by omega) (by omega)).1 (by simpa using hc1)
          refine wp_seq_k ?_; intro K8 hK8
          refine wlit ?_
          refine wl_v (x_move (tmI rfl rfl)) ?_
          refine wl_v (x_assign (tmI rfl rfl)) ?_
          refine wl_nil ?_
          refine then_n (hK8 _ _ ?_); clear hK8 K8
          refine wp_ret ?_
          refine inb_r ?_
          refine then_r ?_
          refine then_r ?_
          refine inb_r ?_
          refine then_r ?_
          refine ret1 rfl (.tmp rfl (show _ = Value.int _ _ from rfl)) ?_
          first
            | (rw [hoi]; exact ⟨rfl, hS.kp⟩)
            | (rw [show ofL l = 0 by omega]; exact ⟨rfl, hS.kp⟩)
       try (exfalso; first | with_reducible exact absurd hc1 Bool.false_ne_true | with_reducible exact absurd hc1.symm Bool.false_ne_true | (simp only [nrm] at hc1; omega) | (simp at hc1; done))
       all_goals
        try simp only [nrm] at hc1
        have hni : ofL l ≠ i := fun h => by
          have := (ofL_iff (l := l) (i := i) (by omega) (by omega)).2 h
          simp [this] at hc1
        refine wp_skip ?_
        refine inb_n ?_
        refine then_n (hK6 _ _ ?_); clear hK6 K6
        refine wlit ?_
        refine wl_v (x_move (tmI rfl rfl)) ?_
        first
         | refine wl_v (x_addN (tmI rfl rfl) (ev_cN 1) (fit_i64 (by omega))) ?_
         | refine wl_v (x_addI (tmI rfl rfl) (ev_cN 1) (IntWalk.i64_in _ (by omega))) ?_
         | refine wl_v (x_add (tmI rfl rfl) (ev_cN 1)) ?_
        refine wl_v (x_assign (tmI rfl rfl)) ?_
        refine wl_nil ?_
        exact then_n ⟨_, _, rfl, (by show _ < _; omega), (by repeat (first | exact agree_self | exact agree_refl | refine agree_upd rfl ?_ | refine agree_mix rfl ?_)), i + 1, rfl, (by first | rfl | go_num | exact congrArg (Value.int _) (by first | omega | (simp; done) | (simp; omega))), hS, (by omega), (by omega)⟩
    try (exfalso; first | with_reducible exact absurd hc0 Bool.false_ne_true | with_reducible exact absurd hc0.symm Bool.false_ne_true | (simp only [nrm] at hc0; omega) | (simp at hc0; done))
    all_goals
     try simp only [nrm] at hc0
     refine wp_exit ?_
     refine then_x ?_; clear hK4 K4
     refine then_x ?_
     refine inb_x ?_
     refine then_n (hK2 _ _ ?_); clear hK2 K2
     refine wp_seq_k ?_; intro K9 hK9
     refine wlit ?_
     refine wl_v (x_assign (ev_cN 0)) ?_
     refine wl_nil ?_
     refine then_n (hK9 _ _ ?_); clear hK9 K9
     refine wp_ret ?_
     refine ret1 rfl (.tmp rfl (show _ = Value.int _ _ from rfl)) ?_
     first
       | (rw [hoi]; exact ⟨rfl, hS.kp⟩)
       | (rw [show ofL l = 0 by omega]; exact ⟨rfl, hS.kp⟩)
def wantR (l : List Nat) : Nat → Nat
  | 0 => 0
  | j + 1 => if nameL ((j + 1 : Nat) : Int) = l then j + 1 else wantR l j
theorem want_of (l : List Nat) : wantR l 4 = ofL l := by
  by_cases h1 : l = nameL 1
  · subst h1; decide
  by_cases h2 : l = nameL 2
  · subst h2; decide
  by_cases h3 : l = nameL 3
  · subst h3; decide
  by_cases h4 : l = nameL 4
  · subst h4; decide
  unfold ofL
  rw [if_neg h1, if_neg h2, if_neg h3, if_neg h4]
  show (if nameL 4 = l then _ else if nameL 3 = l then _ else if nameL 2 = l then _ else if nameL 1 = l then _ else 0) = 0
  rw [if_neg (fun h => h4 h.symm), if_neg (fun h => h3 h.symm), if_neg (fun h => h2 h.symm), if_neg (fun h => h1 h.symm)]
set_option maxRecDepth 100000 in
set_option maxHeartbeats 4000000 in
theorem choose3_c (gp : Nat) (n : Nat) (A : Option Addr) (c : Nat) (l : List Cn) (a b : Int) (w0 : World) (hv : View w0 w0.heap.size A (flat cnV l)) (hl : l.length = n) (hn4 : n ≤ 1000000) (hn0 : 0 < n) :
    Calls Try.prog 123 #[.pointer (some ⟨gp, 0, none⟩), .int .i64 3, .slice A n c, .int .u32 a, .int .u32 b] w0 fun e w' => e = .returned (.tuple #[.agg (cnV (bstC l n)).toArray, .bool true]) ∧ Kp [] w0 w' := by
  have hS := (St.sv w0).vcons rfl hv
  refine ent (n := 49) Try.func123 rfl rfl ?_
  refine wp_seq_k ?_; intro K1 hK1
  refine wlit ?_
  refine wl_e rfl ?_; intro K hK
  refine ow_alloc hS tz_193 rfl ?_
  clear hS; intro g0_0 w hg0_0 hS
  refine hK _ _ ?_; clear hK K
  refine wl_v (x_assign ev_c) ?_
  refine wl_nil ?_
  refine then_n (hK1 _ _ ?_); clear hK1 K1
  refine wp_seq_k ?_; intro K2 hK2
  refine wp_seq_k ?_; intro K3 hK3
  refine wlit ?_
  refine wl_v (x_move (tmP rfl rfl)) ?_
  first
   | refine wl_v (x_peql Try.underlying184 (tmP rfl rfl) ev_c) ?_
   | refine wl_v (x_peqln Try.underlying184 (tmP rfl rfl) ev_c) ?_
  refine wl_nil ?_
  refine then_n (hK3 _ _ ?_); clear hK3 K3
  refine cnd (tm rfl) (fun hc0 => ?_) (fun hc0 => ?_)
  · exfalso
    simp at hc0
  try (exfalso; first | with_reducible exact absurd hc0 Bool.false_ne_true | with_reducible exact absurd hc0.symm Bool.false_ne_true | (simp only [nrm] at hc0; omega) | (simp at hc0; done))
  all_goals
   try simp only [nrm] at hc0
   refine wp_skip ?_
   refine then_n (hK2 _ _ ?_); clear hK2 K2
   refine wp_seq_k ?_; intro K4 hK4
   refine wp_seq_k ?_; intro K5 hK5
   refine wlit ?_
   refine wl_v (x_move (tmI rfl rfl)) ?_
   refine wl_nil ?_
   refine then_n (hK5 _ _ ?_); clear hK5 K5
   refine wp_block ?_
   refine wp_seq_k ?_; intro K6 hK6
   refine wlit ?_
   refine wl_v (x_eql (tmI rfl rfl) (ev_cN 1)) ?_
   refine wl_v (x_assign (tmB rfl rfl)) ?_
   refine wl_nil ?_
   refine then_n (hK6 _ _ ?_); clear hK6 K6
   refine cnd (tm rfl) (fun hc1 => ?_) (fun hc1 => ?_)
   · exfalso
     simp at hc1
   try (exfalso; first | with_reducible exact absurd hc1 Bool.false_ne_true | with_reducible exact absurd hc1.symm Bool.false_ne_true | (simp only [nrm] at hc1; omega) | (simp at hc1; done))
   all_goals
    try simp only [nrm] at hc1
    refine wp_seq_k ?_; intro K7 hK7
    refine wlit ?_
    refine wl_v (x_eql (tmI rfl rfl) (ev_cN 2)) ?_
    refine wl_v (x_assign (tmB rfl rfl)) ?_
    refine wl_nil ?_
    refine then_n (hK7 _ _ ?_); clear hK7 K7
    refine cnd (tm rfl) (fun hc2 => ?_) (fun hc2 => ?_)
    · exfalso
      simp at hc2
    try (exfalso; first | with_reducible exact absurd hc2 Bool.false_ne_true | with_reducible exact absurd hc2.symm Bool.false_ne_true | (simp only [nrm] at hc2; omega) | (simp at hc2; done))
    all_goals
     try simp only [nrm] at hc2
     refine wp_seq_k ?_; intro K8 hK8
     refine wlit ?_
     refine wl_v (x_eql (tmI rfl rfl) (ev_cN 3)) ?_
     refine wl_v (x_assign (tmB rfl rfl)) ?_
     refine wl_nil ?_
     refine then_n (hK8 _ _ ?_); clear hK8 K8
     refine cnds (tm rfl) (fun hc3 => ?_) (fun hc3 => ?_)
     · exfalso
       simp at hc3
     try (exfalso; first | with_reducible exact absurd hc3 Bool.false_ne_true | with_reducible exact absurd hc3.symm Bool.false_ne_true | (simp only [nrm] at hc3; omega) | (simp at hc3; done))
     all_goals
      try simp only [nrm] at hc3
      refine wp_seq_k ?_; intro K9 hK9
      refine wlit ?_
      refine wl_v (x_move (tmS rfl rfl)) ?_
      refine wl_e rfl ?_; intro K hK
      refine ow_call Try.func153 rfl rfl (evs_cons (tmS rfl rfl) <| evs_nil) (least_pick_c n A c l _ (viewV hS.ok 1 rfl) hl hn4 hn0) ?_
      rintro e w ⟨rfl, hk⟩
      refine ⟨_, rfl, ?_⟩
      replace hS := hS.kept hk
      clear hk
      refine hK _ _ ?_; clear hK K
      refine wl_v (x_ext (tmT rfl rfl) rfl) ?_
      refine wl_v (x_ext (tmT rfl rfl) rfl) ?_
      refine wl_e rfl ?_; intro K hK
      refine ow_storeA hS 0 rfl ts_193 (tmP rfl rfl) (tmA rfl rfl) rfl rfl rfl ?_
      clear hS; intro w hS
      try replace hS := St.nm (M' := [.blk _ _ [_, _, _, _], .vw _ _]) hS rfl
      refine hK _ _ ?_; clear hK K
      refine wl_v (x_assign (tmB rfl rfl)) ?_
      refine wl_nil ?_
      refine then_n (hK9 _ _ ?_); clear hK9 K9
      refine wp_ret ?_
      refine inb_r ?_
      refine then_r ?_
      refine ret2 rfl (.cell rfl rfl (load_rowB (cs := [_, _, _, _]) hS.ok 0 rfl Try.underlying193 rfl ts_193 rfl)) (.tmp rfl (show _ = Value.bool _ from rfl)) ?_
      exact ⟨rfl, hS.kp⟩
set_option maxRecDepth 100000 in
set_option maxHeartbeats 4000000 in
theorem law21_awake_c (w0 : World) :
    Calls Try.prog 70 #[] w0 fun e w' => e = .returned (.bool true) ∧ Kp [] w0 w' := by
  have hS := St.sv w0
  have hb1 : (bstC [⟨0, 0, 0, 5⟩, ⟨1, 0, 0, 2⟩] 2).slot = 1 := by decide
  have hC := fun g A c w hv => choose3_c g 2 A c [⟨0, 0, 0, 5⟩, ⟨1, 0, 0, 2⟩] 0 0 w hv rfl (by omega) (by omega)
  generalize bstC [⟨0, 0, 0, 5⟩, ⟨1, 0, 0, 2⟩] 2 = B0 at *
  refine ent (n := 20) Try.func70 rfl rfl ?_
  refine wp_seq_k ?_; intro K1 hK1
  refine wlit ?_
  refine wl_v (x_assign ev_c) ?_
  refine wl_nil ?_
  refine then_n (hK1 _ _ ?_); clear hK1 K1
  refine wp_seq_k ?_; intro K2 hK2
  refine wlit ?_
  refine wl_v (x_build (bc_skipL [.int .i64 0] <| bc_skipL [.slice none 0 0] <| bc_nil) (by kernel_rfl)) ?_
  refine wl_e rfl ?_; intro K hK
  refine ow_box hS (tmA rfl rfl) rfl ?_
  clear hS; intro g1_1 w hg1_1 hS
  refine hK _ _ ?_; clear hK K
  refine wl_v (x_assign (tmP rfl rfl)) ?_
  refine wl_nil ?_
  refine then_n (hK2 _ _ ?_); clear hK2 K2
  refine wp_seq_k ?_; intro K3 hK3
  refine wlit ?_
  refine wl_v (x_move (tmP rfl rfl)) ?_
  refine wl_v (x_build (bc_take (ev_cN 0) <| bc_skip (.int .i64 0) <| bc_skip (.int .i64 0) <| bc_take (ev_cN 5) <| bc_nil) (by kernel_rfl)) ?_
  refine wl_v (x_build (bc_take (ev_cN 1) <| bc_skip (.int .i64 0) <| bc_skip (.int .i64 0) <| bc_take (ev_cN 2) <| bc_nil) (by kernel_rfl)) ?_
  refine wl_e rfl ?_; intro K hK
  refine ow_build hS Try.underlying196 tz_193 (bc_takeL (tmA rfl rfl) <| bc_takeL (tmA rfl rfl) <| bc_nil) rfl rfl (by kernel_rfl) ?_
  clear hS; intro g2_3 w hg2_3 hS
  refine hK _ _ ?_; clear hK K
  refine wl_e rfl ?_; intro K hK
  refine ow_call Try.func123 rfl rfl (evs_cons (tmP rfl rfl) <| evs_cons (ev_cN 3) <| evs_cons (tmS rfl rfl) <| evs_cons (ev_cN 0) <| evs_cons (ev_cN 0) <| evs_nil) (hC _ _ _ _ (viewB hS.ok 0 rfl)) ?_
  rintro e w ⟨rfl, hk⟩
  refine ⟨_, rfl, ?_⟩
  replace hS := hS.kept hk
  clear hk
  refine hK _ _ ?_; clear hK K
  refine wl_v (x_move (tmT rfl rfl)) ?_
  refine wl_v (x_ext (tmT rfl rfl) rfl) ?_
  refine wl_v (x_ext (tmT rfl rfl) rfl) ?_
  refine wl_e rfl ?_; intro K hK
  refine ow_alloc hS tz_193 rfl ?_
  clear hS; intro g2_8 w hg2_8 hS
  refine hK _ _ ?_; clear hK K
  refine wl_e rfl ?_; intro K hK
  refine ow_storeA hS 0 rfl ts_193 (tmP rfl rfl) (tmA rfl rfl) rfl rfl rfl ?_
  clear hS; intro w hS
  try replace hS := St.nm (M' := [.blk _ _ [_, _, _, _], _, .blk _ _ [_, _], _]) hS rfl
  refine hK _ _ ?_; clear hK K
  refine wl_v (x_assign (tmB rfl rfl)) ?_
  refine wl_nil ?_
  refine then_n (hK3 _ _ ?_); clear hK3 K3
  refine wp_seq_k ?_; intro K4 hK4
  refine wlit ?_
  refine wl_v (x_move (tmB rfl rfl)) ?_
  refine wl_v (x_move (tmB rfl rfl)) ?_
  refine gs_wl (tm (t := 15) rfl) (fun hg3_1 => ?_) (fun hg3_1 => ?_)
  · have hg3_1' := hg3_1; (try simp only [nrm] at hg3_1'); try (exfalso; first | with_reducible exact absurd hg3_1 Bool.false_ne_true | with_reducible exact absurd hg3_1.symm Bool.false_ne_true | omega | (simp at hg3_1; done))
    all_goals
     refine wl_gv (want_y rfl rfl rfl rfl (by rw [hg3_1]; rfl)) (x_fa 0 Try.underlying193 rfl rfl ts_3 (tmP rfl rfl)) ?_
     first
      | refine wl_gv (want_y rfl rfl rfl rfl (by rw [hg3_1]; rfl)) (x_load Try.underlying3 rfl (tmP rfl rfl) (cellB hS.ok 0 rfl rfl)) ?_
      | refine wl_gv (want_y rfl rfl rfl rfl (by rw [hg3_1]; rfl)) (x_load Try.underlying3 rfl (tmP rfl rfl) (cellB hS.ok 0 rfl (getm (by omega)))) ?_
     refine wl_gv (want_y rfl rfl rfl rfl (by rw [hg3_1]; rfl)) (x_eql (tmI rfl rfl) (ev_cN 1)) ?_
     refine wl_v (x_pickT (tmB rfl rfl) hg3_1 (tmB rfl rfl)) ?_
     refine wl_v (x_assign (tmB rfl rfl)) ?_
     refine wl_nil ?_
     refine then_n (hK4 _ _ ?_); clear hK4 K4
     refine wp_ret ?_
     refine ret1 rfl (.tmp rfl (show _ = Value.bool _ from rfl)) ?_
     refine ⟨?_, hS.kp⟩
     rw [hb1]
     rfl
  have hg3_1' := hg3_1; (try simp only [nrm] at hg3_1'); try (exfalso; first | with_reducible exact absurd hg3_1 Bool.false_ne_true | with_reducible exact absurd hg3_1.symm Bool.false_ne_true | omega | (simp at hg3_1; done))
  all_goals
   refine wl_s rfl (want_n rfl rfl rfl rfl (by rw [hg3_1]; rfl)) ?_
   refine wl_s rfl (want_n rfl rfl rfl rfl (by rw [hg3_1]; rfl)) ?_
   refine wl_s rfl (want_n rfl rfl rfl rfl (by rw [hg3_1]; rfl)) ?_
   refine wl_v (x_pickF (tmB rfl rfl) hg3_1 ev_c) ?_
   refine wl_v (x_assign (tmB rfl rfl)) ?_
   refine wl_nil ?_
   refine then_n (hK4 _ _ ?_); clear hK4 K4
   refine wp_ret ?_
   refine ret1 rfl (.tmp rfl (show _ = Value.bool _ from rfl)) ?_
   refine ⟨?_, hS.kp⟩
   rw [hb1]
   rfl
set_option maxRecDepth 100000 in
set_option maxHeartbeats 4000000 in
theorem walkC (z : Int) (l : List Nat) (w0 : World) (hb : Bytes l) :
    Calls Try.prog 14 #[.int .i64 z, .string (bstr l)] w0 fun e w' => e = .returned (.bool true) ∧ Below w0.heap.size w0 w' := by
  have hS := St.sv w0
  refine ent (n := 45) Try.func14 rfl rfl ?_
  refine wp_seq_k ?_; intro K1 hK1
  refine wlit ?_
  refine wl_v (x_assign ev_c) ?_
  refine wl_nil ?_
  refine then_n (hK1 _ _ ?_); clear hK1 K1
  refine wp_seq_k ?_; intro K2 hK2
  refine wp_seq_k ?_; intro K3 hK3
  refine wlit ?_
  refine wl_v (x_move (tmG rfl rfl)) ?_
  refine wl_v (x_lenS Try.underlying9 (tmG rfl rfl)) ?_
  refine wl_v (x_gtr (tmI rfl rfl) (ev_cN 50)) ?_
  refine wl_nil ?_
  refine then_n (hK3 _ _ ?_); clear hK3 K3
  refine cnd (tm rfl) (fun hc0 => ?_) (fun hc0 => ?_)
  · try (exfalso; first | with_reducible exact absurd hc0 Bool.false_ne_true | with_reducible exact absurd hc0.symm Bool.false_ne_true | (simp only [nrm] at hc0; omega) | (simp at hc0; done))
    all_goals
     try simp only [nrm] at hc0
     refine wp_seq_k ?_; intro K4 hK4
     refine wlit ?_
     refine wl_e rfl ?_; intro K hK
     refine ow_call Try.func70 rfl rfl (evs_nil) (law21_awake_c _) ?_
     rintro e w ⟨rfl, hk⟩
     refine ⟨_, rfl, ?_⟩
     replace hS := hS.kept hk
     clear hk
     refine hK _ _ ?_; clear hK K
     refine wl_v (x_assign (tmB rfl rfl)) ?_
     refine wl_nil ?_
     refine then_n (hK4 _ _ ?_); clear hK4 K4
     refine wp_ret ?_
     refine then_r ?_
     refine ret1 rfl (.tmp rfl (show _ = Value.bool _ from rfl)) ?_
     exact ⟨rfl, hS.kp.below⟩
  try (exfalso; first | with_reducible exact absurd hc0 Bool.false_ne_true | with_reducible exact absurd hc0.symm Bool.false_ne_true | (simp only [nrm] at hc0; omega) | (simp at hc0; done))
  all_goals
   try simp only [nrm] at hc0
   refine wp_skip ?_
   refine then_n (hK2 _ _ ?_); clear hK2 K2
   refine wp_seq_k ?_; intro K5 hK5
   refine wlit ?_
   refine wl_v (x_assign (ev_cN 0)) ?_
   refine wl_nil ?_
   refine then_n (hK5 _ _ ?_); clear hK5 K5
   refine wp_seq_k ?_; intro K6 hK6
   refine wp_seq_k ?_; intro K7 hK7
   refine wlit ?_
   refine wl_v (x_assign (ev_cN 1)) ?_
   refine wl_nil ?_
   refine then_n (hK7 _ _ ?_); clear hK7 K7
   refine wp_block ?_
   refine lp [5, 6, 11, 12, 13, 14, 15, 16, 17, 18, 19] (fun mz g w => ∃ (j : Nat), mz = 4 - j ∧ g 6 = .int .i64 ((j + 1 : Nat) : Int) ∧ g 5 = .int .i64 (wantR l j : Int) ∧ St [] w0 [] w ∧ (j ≤ 4)) ?_ ?_
   · exact ⟨_, 0, rfl, (by first | rfl | go_num | exact congrArg (Value.int _) (by first | omega | (simp; done) | (simp; omega))), (by first | rfl | go_num | exact congrArg (Value.int _) (by first | omega | (simp; done) | (simp; omega))), hS, (by omega)⟩
   · clear hS; intro mz g w hI
     obtain ⟨j, rfl, hs6, hs5, hS, hj⟩ := hI
     refine fr_know (d := 6) hs6 ?_; clear hs6
     refine fr_know (d := 5) hs5 ?_; clear hs5
     refine wp_seq_k ?_; intro K8 hK8
     refine wp_seq_k ?_; intro K9 hK9
     refine wlit ?_
     refine wl_v (x_move (tmI rfl rfl)) ?_
     refine wl_v (x_leq (tmI rfl rfl) (ev_cN 4)) ?_
     refine wl_nil ?_
     refine then_n (hK9 _ _ ?_); clear hK9 K9
     refine cnd (tm rfl) (fun hc1 => ?_) (fun hc1 => ?_)
     · try (exfalso; first | with_reducible exact absurd hc1 Bool.false_ne_true | with_reducible exact absurd hc1.symm Bool.false_ne_true | (simp only [nrm] at hc1; omega) | (simp at hc1; done))
       all_goals
        try simp only [nrm] at hc1
        refine wp_skip ?_
        refine then_n (hK8 _ _ ?_); clear hK8 K8
        refine wp_seq_k ?_; intro K10 hK10
        refine wp_block ?_
        refine wp_seq_k ?_; intro K11 hK11
        refine wlit ?_
        refine wl_v (x_move (tmI rfl rfl)) ?_
        refine wl_e rfl ?_; intro K hK
        refine ow_call Try.func71 rfl rfl (evs_cons (tmI rfl rfl) <| evs_nil) (rname_c _ _) ?_
        rintro e w ⟨rfl, hk⟩
        refine ⟨_, rfl, ?_⟩
        replace hS := hS.kept hk
        clear hk
        refine hK _ _ ?_; clear hK K
        refine wl_v (x_move (tmG rfl rfl)) ?_
        refine wl_v (x_Geql (tmG rfl rfl) (tmG rfl rfl) (name_bytes _) hb) ?_
        refine wl_nil ?_
        refine then_n (hK11 _ _ ?_); clear hK11 K11
        refine cnd (tm rfl) (fun hc2 => ?_) (fun hc2 => ?_)
        · try (exfalso; first | with_reducible exact absurd hc2 Bool.false_ne_true | with_reducible exact absurd hc2.symm Bool.false_ne_true | (simp only [nrm] at hc2; omega) | (simp at hc2; done))
          all_goals
           try simp only [nrm] at hc2
           have hx : wantR l (j + 1) = j + 1 := if_pos (by simpa using hc2)
           refine wlit ?_
           refine wl_v (x_move (tmI rfl rfl)) ?_
           refine wl_v (x_assign (tmI rfl rfl)) ?_
           refine wl_nil ?_
           refine inb_n ?_
           refine then_n (hK10 _ _ ?_); clear hK10 K10
           refine wlit ?_
           refine wl_v (x_move (tmI rfl rfl)) ?_
           first
            | refine wl_v (x_addN (tmI rfl rfl) (ev_cN 1) (fit_i64 (by omega))) ?_
            | refine wl_v (x_addI (tmI rfl rfl) (ev_cN 1) (IntWalk.i64_in _ (by omega))) ?_
            | refine wl_v (x_add (tmI rfl rfl) (ev_cN 1)) ?_
           refine wl_v (x_assign (tmI rfl rfl)) ?_
           refine wl_nil ?_
           exact then_n ⟨_, _, rfl, (by show _ < _; omega), (by repeat (first | exact agree_self | exact agree_refl | refine agree_upd rfl ?_ | refine agree_mix rfl ?_)), j + 1, rfl, (by first | rfl | go_num | exact congrArg (Value.int _) (by first | omega | (simp; done) | (simp; omega))), (by first | rfl | (exact congrArg (fun q : Nat => Value.int .i64 (q : Int)) hx.symm; done) | (exact congrArg (fun q : Nat => Value.int .i64 (q : Int)) hx.symm; rfl) | (exact congrArg (fun q : Nat => Value.int .i64 (q : Int)) hx.symm; go_num)), hS, (by omega)⟩
        try (exfalso; first | with_reducible exact absurd hc2 Bool.false_ne_true | with_reducible exact absurd hc2.symm Bool.false_ne_true | (simp only [nrm] at hc2; omega) | (simp at hc2; done))
        all_goals
         try simp only [nrm] at hc2
         have hx : wantR l (j + 1) = wantR l j := if_neg (by simpa using hc2)
         refine wp_skip ?_
         refine inb_n ?_
         refine then_n (hK10 _ _ ?_); clear hK10 K10
         refine wlit ?_
         refine wl_v (x_move (tmI rfl rfl)) ?_
         first
          | refine wl_v (x_addN (tmI rfl rfl) (ev_cN 1) (fit_i64 (by omega))) ?_
          | refine wl_v (x_addI (tmI rfl rfl) (ev_cN 1) (IntWalk.i64_in _ (by omega))) ?_
          | refine wl_v (x_add (tmI rfl rfl) (ev_cN 1)) ?_
         refine wl_v (x_assign (tmI rfl rfl)) ?_
         refine wl_nil ?_
         exact then_n ⟨_, _, rfl, (by show _ < _; omega), (by repeat (first | exact agree_self | exact agree_refl | refine agree_upd rfl ?_ | refine agree_mix rfl ?_)), j + 1, rfl, (by first | rfl | go_num | exact congrArg (Value.int _) (by first | omega | (simp; done) | (simp; omega))), (by first | rfl | (exact congrArg (fun q : Nat => Value.int .i64 (q : Int)) hx.symm; done) | (exact congrArg (fun q : Nat => Value.int .i64 (q : Int)) hx.symm; rfl) | (exact congrArg (fun q : Nat => Value.int .i64 (q : Int)) hx.symm; go_num)), hS, (by omega)⟩
     try (exfalso; first | with_reducible exact absurd hc1 Bool.false_ne_true | with_reducible exact absurd hc1.symm Bool.false_ne_true | (simp only [nrm] at hc1; omega) | (simp at hc1; done))
     all_goals
      try simp only [nrm] at hc1
      refine wp_exit ?_
      refine then_x ?_; clear hK8 K8
      refine then_x ?_
      refine inb_x ?_
      refine then_n (hK6 _ _ ?_); clear hK6 K6
      refine wp_seq_k ?_; intro K12 hK12
      obtain rfl : j = 4 := by omega
      have hw := want_of l
      refine wlit ?_
      refine wl_v (x_move (tmI rfl rfl)) ?_
      refine wl_e rfl ?_; intro K hK
      refine ow_call Try.func72 rfl rfl (evs_cons (tmI rfl rfl) <| evs_nil) (right_c _ _) ?_
      rintro e w ⟨rfl, hk⟩
      refine ⟨_, rfl, ?_⟩
      replace hS := hS.kept hk
      clear hk
      refine hK _ _ ?_; clear hK K
      refine wl_v (x_move (tmI rfl rfl)) ?_
      refine wl_v (x_geq (tmI rfl rfl) (ev_cN 1)) ?_
      refine wl_v (x_move (tmB rfl rfl)) ?_
      refine gs_wl (tm (t := 24) rfl) (fun hg9_4 => ?_) (fun hg9_4 => ?_)
      · have hg9_4' := hg9_4; (try simp only [nrm] at hg9_4'); try (exfalso; first | with_reducible exact absurd hg9_4 Bool.false_ne_true | with_reducible exact absurd hg9_4.symm Bool.false_ne_true | omega | (simp at hg9_4; done))
        all_goals
         refine wl_gv (want_y rfl rfl rfl rfl (by rw [hg9_4]; rfl)) (x_move (tmI rfl rfl)) ?_
         refine wl_gv (want_y rfl rfl rfl rfl (by rw [hg9_4]; rfl)) (x_leq (tmI rfl rfl) (ev_cN 4)) ?_
         refine wl_v (x_pickT (tmB rfl rfl) hg9_4 (tmB rfl rfl)) ?_
         refine wl_v (x_beql Try.underlying4 (tmB rfl rfl) (tmB rfl rfl)) ?_
         refine wl_v (x_move (tmB rfl rfl)) ?_
         refine gs_wls (tm (t := 29) rfl) (fun hg9_9 => ?_) (fun hg9_9 => ?_)
         · exfalso
           simp at hg9_9
           omega
         have hg9_9' := hg9_9; (try simp only [nrm] at hg9_9'); try (exfalso; first | with_reducible exact absurd hg9_9 Bool.false_ne_true | with_reducible exact absurd hg9_9.symm Bool.false_ne_true | omega | (simp at hg9_9; done))
         all_goals
          refine wl_gv (want_y rfl rfl rfl rfl (by rw [hg9_9]; rfl)) (x_move (tmI rfl rfl)) ?_
          refine wl_g (want_y rfl rfl rfl rfl (by rw [hg9_9]; rfl)) ?_; intro K hK
          refine ow_call Try.func73 rfl rfl (evs_cons (tmI rfl rfl) <| evs_nil) (name_c _ _) ?_
          rintro e w ⟨rfl, hk⟩
          refine ⟨_, rfl, ?_⟩
          replace hS := hS.kept hk
          clear hk
          refine hK _ _ ?_; clear hK K
          refine wl_gv (want_y rfl rfl rfl rfl (by rw [hg9_9]; rfl)) (x_move (tmI rfl rfl)) ?_
          refine wl_g (want_y rfl rfl rfl rfl (by rw [hg9_9]; rfl)) ?_; intro K hK
          refine ow_call Try.func71 rfl rfl (evs_cons (tmI rfl rfl) <| evs_nil) (rname_c _ _) ?_
          rintro e w ⟨rfl, hk⟩
          refine ⟨_, rfl, ?_⟩
          replace hS := hS.kept hk
          clear hk
          refine hK _ _ ?_; clear hK K
          refine wl_gv (want_y rfl rfl rfl rfl (by rw [hg9_9]; rfl)) (x_Geql (tmG rfl rfl) (tmG rfl rfl) (name_bytes _) (name_bytes _)) ?_
          refine wl_v (x_pickT (tmB rfl rfl) hg9_9 (tmB rfl rfl)) ?_
          refine wl_v (x_move (tmB rfl rfl)) ?_
          refine gs_wls (tm (t := 36) rfl) (fun hg9_16 => ?_) (fun hg9_16 => ?_)
          · exfalso
            simp at hg9_16
          have hg9_16' := hg9_16; (try simp only [nrm] at hg9_16'); try (exfalso; first | with_reducible exact absurd hg9_16 Bool.false_ne_true | with_reducible exact absurd hg9_16.symm Bool.false_ne_true | omega | (simp at hg9_16; done))
          all_goals
           refine wl_gv (want_y rfl rfl rfl rfl (by rw [hg9_16]; rfl)) (x_move (tmG rfl rfl)) ?_
           refine wl_g (want_y rfl rfl rfl rfl (by rw [hg9_16]; rfl)) ?_; intro K hK
           refine ow_call Try.func74 rfl rfl (evs_cons (tmG rfl rfl) <| evs_nil) (of_c l _ hb) ?_
           rintro e w ⟨rfl, hk⟩
           refine ⟨_, rfl, ?_⟩
           replace hS := hS.kept hk
           clear hk
           refine hK _ _ ?_; clear hK K
           refine wl_gv (want_y rfl rfl rfl rfl (by rw [hg9_16]; rfl)) (x_move (tmI rfl rfl)) ?_
           refine wl_gv (want_y rfl rfl rfl rfl (by rw [hg9_16]; rfl)) (x_eql (tmI rfl rfl) (tmI rfl rfl)) ?_
           refine wl_v (x_pickT (tmB rfl rfl) hg9_16 (tmB rfl rfl)) ?_
           refine wl_v (x_move (tmB rfl rfl)) ?_
           refine gs_wls (tm (t := 42) rfl) (fun hg9_22 => ?_) (fun hg9_22 => ?_)
           · exfalso
             simp at hg9_22
             omega
           have hg9_22' := hg9_22; (try simp only [nrm] at hg9_22'); try (exfalso; first | with_reducible exact absurd hg9_22 Bool.false_ne_true | with_reducible exact absurd hg9_22.symm Bool.false_ne_true | omega | (simp at hg9_22; done))
           all_goals
            refine wl_g (want_y rfl rfl rfl rfl (by rw [hg9_22]; rfl)) ?_; intro K hK
            refine ow_call Try.func70 rfl rfl (evs_nil) (law21_awake_c _) ?_
            rintro e w ⟨rfl, hk⟩
            refine ⟨_, rfl, ?_⟩
            replace hS := hS.kept hk
            clear hk
            refine hK _ _ ?_; clear hK K
            refine wl_v (x_pickT (tmB rfl rfl) hg9_22 (tmB rfl rfl)) ?_
            refine wl_v (x_assign (tmB rfl rfl)) ?_
            refine wl_nil ?_
            refine then_n (hK12 _ _ ?_); clear hK12 K12
            refine wp_ret ?_
            refine ret1 rfl (.tmp rfl (show _ = Value.bool _ from rfl)) ?_
            exact ⟨rfl, hS.kp.below⟩
      have hg9_4' := hg9_4; (try simp only [nrm] at hg9_4'); try (exfalso; first | with_reducible exact absurd hg9_4 Bool.false_ne_true | with_reducible exact absurd hg9_4.symm Bool.false_ne_true | omega | (simp at hg9_4; done))
      all_goals
       refine wl_s rfl (want_n rfl rfl rfl rfl (by rw [hg9_4]; rfl)) ?_
       refine wl_s rfl (want_n rfl rfl rfl rfl (by rw [hg9_4]; rfl)) ?_
       refine wl_v (x_pickF (tmB rfl rfl) hg9_4 ev_c) ?_
       refine wl_v (x_beql Try.underlying4 (tmB rfl rfl) (tmB rfl rfl)) ?_
       refine wl_v (x_move (tmB rfl rfl)) ?_
       refine gs_wls (tm (t := 29) rfl) (fun hg9_9 => ?_) (fun hg9_9 => ?_)
       · exfalso
         simp at hg9_9
         omega
       have hg9_9' := hg9_9; (try simp only [nrm] at hg9_9'); try (exfalso; first | with_reducible exact absurd hg9_9 Bool.false_ne_true | with_reducible exact absurd hg9_9.symm Bool.false_ne_true | omega | (simp at hg9_9; done))
       all_goals
        refine wl_gv (want_y rfl rfl rfl rfl (by rw [hg9_9]; rfl)) (x_move (tmI rfl rfl)) ?_
        refine wl_g (want_y rfl rfl rfl rfl (by rw [hg9_9]; rfl)) ?_; intro K hK
        refine ow_call Try.func73 rfl rfl (evs_cons (tmI rfl rfl) <| evs_nil) (name_c _ _) ?_
        rintro e w ⟨rfl, hk⟩
        refine ⟨_, rfl, ?_⟩
        replace hS := hS.kept hk
        clear hk
        refine hK _ _ ?_; clear hK K
        refine wl_gv (want_y rfl rfl rfl rfl (by rw [hg9_9]; rfl)) (x_move (tmI rfl rfl)) ?_
        refine wl_g (want_y rfl rfl rfl rfl (by rw [hg9_9]; rfl)) ?_; intro K hK
        refine ow_call Try.func71 rfl rfl (evs_cons (tmI rfl rfl) <| evs_nil) (rname_c _ _) ?_
        rintro e w ⟨rfl, hk⟩
        refine ⟨_, rfl, ?_⟩
        replace hS := hS.kept hk
        clear hk
        refine hK _ _ ?_; clear hK K
        refine wl_gv (want_y rfl rfl rfl rfl (by rw [hg9_9]; rfl)) (x_Geql (tmG rfl rfl) (tmG rfl rfl) (name_bytes _) (name_bytes _)) ?_
        refine wl_v (x_pickT (tmB rfl rfl) hg9_9 (tmB rfl rfl)) ?_
        refine wl_v (x_move (tmB rfl rfl)) ?_
        refine gs_wls (tm (t := 36) rfl) (fun hg9_16 => ?_) (fun hg9_16 => ?_)
        · exfalso
          simp at hg9_16
        have hg9_16' := hg9_16; (try simp only [nrm] at hg9_16'); try (exfalso; first | with_reducible exact absurd hg9_16 Bool.false_ne_true | with_reducible exact absurd hg9_16.symm Bool.false_ne_true | omega | (simp at hg9_16; done))
        all_goals
         refine wl_gv (want_y rfl rfl rfl rfl (by rw [hg9_16]; rfl)) (x_move (tmG rfl rfl)) ?_
         refine wl_g (want_y rfl rfl rfl rfl (by rw [hg9_16]; rfl)) ?_; intro K hK
         refine ow_call Try.func74 rfl rfl (evs_cons (tmG rfl rfl) <| evs_nil) (of_c l _ hb) ?_
         rintro e w ⟨rfl, hk⟩
         refine ⟨_, rfl, ?_⟩
         replace hS := hS.kept hk
         clear hk
         refine hK _ _ ?_; clear hK K
         refine wl_gv (want_y rfl rfl rfl rfl (by rw [hg9_16]; rfl)) (x_move (tmI rfl rfl)) ?_
         refine wl_gv (want_y rfl rfl rfl rfl (by rw [hg9_16]; rfl)) (x_eql (tmI rfl rfl) (tmI rfl rfl)) ?_
         refine wl_v (x_pickT (tmB rfl rfl) hg9_16 (tmB rfl rfl)) ?_
         refine wl_v (x_move (tmB rfl rfl)) ?_
         refine gs_wls (tm (t := 42) rfl) (fun hg9_22 => ?_) (fun hg9_22 => ?_)
         · exfalso
           simp at hg9_22
           omega
         have hg9_22' := hg9_22; (try simp only [nrm] at hg9_22'); try (exfalso; first | with_reducible exact absurd hg9_22 Bool.false_ne_true | with_reducible exact absurd hg9_22.symm Bool.false_ne_true | omega | (simp at hg9_22; done))
         all_goals
          refine wl_g (want_y rfl rfl rfl rfl (by rw [hg9_22]; rfl)) ?_; intro K hK
          refine ow_call Try.func70 rfl rfl (evs_nil) (law21_awake_c _) ?_
          rintro e w ⟨rfl, hk⟩
          refine ⟨_, rfl, ?_⟩
          replace hS := hS.kept hk
          clear hk
          refine hK _ _ ?_; clear hK K
          refine wl_v (x_pickT (tmB rfl rfl) hg9_22 (tmB rfl rfl)) ?_
          refine wl_v (x_assign (tmB rfl rfl)) ?_
          refine wl_nil ?_
          refine then_n (hK12 _ _ ?_); clear hK12 K12
          refine wp_ret ?_
          refine ret1 rfl (.tmp rfl (show _ = Value.bool _ from rfl)) ?_
          exact ⟨rfl, hS.kp.below⟩
set_option maxRecDepth 100000 in
theorem walk (z : Int) (s : ByteArray) (w0 : World) (_ : -9223372036854775808 ≤ z ∧ z ≤ 9223372036854775807) (_ : s.size ≤ maxLen) :
    Calls Try.prog 14 #[.int .i64 z, .string s] w0 fun e w' => e = .returned (.bool true) ∧ Below w0.heap.size w0 w' := by
  obtain ⟨l, hb, rfl⟩ := bstr_of s
  exact walkC z l w0 hb
end PolicyNames
end Go.Proofs.Ytilgolflpdpfnaa
