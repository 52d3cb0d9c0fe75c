
/- the law's awake, by contract. Conditions: none. -/
import Derived.Test.YtpibinkekfkafaaFrD
import Derived.Test.YtpibinkekfkafaaIp4M
namespace Go.Proofs.Ytpibinkekfkafaa
open Go.ChangeShapes Go.WideShapes Go.ChangeAt Go.RowKit
theorem split28 (pp : List Nat) (hpp : pp = pkB 0 0 false false 0 9 0 ad0 ad0 [] (List.replicate 20 0)) (A : Option Addr) (n c : Nat) (hn : n = pp.length) (w0 : World) (hv : View w0 w0.heap.size A (pp.map u8v)) (hc : n ≤ c) :
    Calls Try.prog 7 #[.slice A n c, .int .i64 28] w0 fun e w' => ∃ G c', e = .returned (.tuple #[.slice G 3 c', .int .i64 0]) ∧ Kp [] w0 w' := by
  subst hn
  have hb : Bytes pp := by rw [hpp]; exact pkB_bytes _ _ _ _ _ _ _ _ _ Bytes.nil (Bytes.replicate 20)
  have hpp2 : pp = hd4B 0 (20 + ([] : List Nat).length + (List.replicate 20 0).length) 0 (flN 0 false false) 9 0 (hd4C 0 (20 + ([] : List Nat).length + (List.replicate 20 0).length) 0 (flN 0 false false) 9 0 0 0 []) 0 0 [] ++ List.replicate 20 0 := by
    rw [hpp]; unfold pkB; rw [if_pos (by decide)]; rfl
  have got := hd4B_read 0 0 (flN 0 false false) 9 0 0 0 [] (List.replicate 20 0) (by omega) (by omega) (flN_lt (by omega)) (by omega) (by omega) (by omega) (by omega) (by decide) (by decide) (by decide) pp _ rfl hpp2
  have hl : pp.length = 40 := by rw [hpp2, List.length_append, hd4B_len]; rfl
  have e6 := got.g6
  have hst := flN_stay (off := 0) (stay := false) (more := false) (by omega)
  have hoff := flN_off (off := 0) (stay := false) (more := false) (by omega)
  have h12 := got.g12
  have h16 := got.g16
  have b1 : getN pp 1 1 < 256 := getN_lt hb 1 1
  have b4 : getN pp 4 2 < 65536 := getN_lt hb 4 2
  have b8 : getN pp 8 1 < 256 := getN_lt hb 8 1
  have b9 : getN pp 9 1 < 256 := getN_lt hb 9 1
  have hop : (pp.drop 20).take (20 - 20) = [] := by rw [Nat.sub_self, List.take_zero]
  have hlo : (pp.drop 20).take (40 - 20) = List.replicate 20 0 := got.load
  have hP : PartF 14 pp (fun O c => hdV (getN pp 1 1) ((40 : Nat) : Int) (getN pp 4 2) false (decide (getN pp 6 2 / 2 ^ 13 % 2 = 1)) ((0 : Nat) : Int) (getN pp 8 1) (getN pp 9 1) (getN pp 10 2) ad0 ad0 O ([] : List Nat).length c) [] (List.replicate 20 0) 0 := fun w A c hv hc => by
    refine Calls.mono (ip4_parse_c pp.length A c pp w hv rfl hc hb (by omega) 20 40 got.form (by omega) got.sum) fun e w' ⟨O, L, h1, h2, h3, h4⟩ => ⟨O, 0, L, 20, 20, rfl, Nat.le_refl _, ?_, ?_, ?_, h4⟩
    · rw [e6, hst, hoff, h12, h16] at h1
      rw [e6]
      exact h1
    · rw [hop] at h2; exact h2
    · rw [hlo] at h3; exact h3
  refine Calls.mono (split_c A c pp 28 (getN pp 1 1) ((40 : Nat) : Int) (getN pp 4 2) false (decide (getN pp 6 2 / 2 ^ 13 % 2 = 1)) 0 (getN pp 8 1) (getN pp 9 1) (getN pp 10 2) ad0 ad0 [] (List.replicate 20 0) 0 w0 hv hc (by omega) (by omega) b1 b4 b8 b9 (by omega) Bytes.nil (by simp) (by simp) (by omega) (fun _ => ⟨40, rfl, by omega⟩) hP) fun e w' ⟨G, n, c', rows, er, h1, h2, h3, h4, h5, h6⟩ => ?_
  have hE : ∀ p, p < 20 → cutEx 0 ad0 ad0 [] (List.replicate 20 0) 1 p = 0 := by
    intro p hp
    unfold cutEx pkE
    rw [if_pos]
    have hle : ((List.drop p (List.replicate 20 (0 : Nat))).take (min (p + 8 * 1) (List.replicate 20 (0 : Nat)).length - p)).length ≤ 20 := by rw [List.length_take, List.length_drop, List.length_replicate]; omega
    refine ⟨by decide, by decide, ?_, ?_, by omega, by omega, by decide, by decide⟩
    · simp only [List.length_nil]; omega
    · simp only [List.length_nil]; omega
  rcases h3 with ⟨h, _⟩ | ⟨_, ⟨h, _⟩ | ⟨_, ⟨h, _⟩ | ⟨_, ⟨h, _⟩ | ⟨_, hR⟩⟩⟩⟩
  · exact absurd rfl h
  · exact absurd h (by decide)
  · cases h
  · exact absurd h (by decide)
  · rcases hR with ⟨h, _, k, k1, _, k3⟩ | ⟨rfl, k, k1, k2, k3⟩
    · have hk : k * 8 < 20 := k1
      have := hE (k * 8) hk
      exact absurd (k3.symm.trans this) h
    · have hk2 : 20 ≤ k * 8 := k2
      have hk3 : k = 3 := by
        rcases Nat.lt_or_ge 3 k with h | h
        · have h9 := (k3 3 h).1
          exact absurd h9 (by decide)
        · omega
      subst hk3
      have hl3 : rows.length = 3 := by simpa using congrArg List.length k1
      have hn3 : n = 3 := by omega
      subst hn3
      exact ⟨G, c', h2, h6⟩
set_option maxRecDepth 100000 in
set_option maxHeartbeats 4000000 in
theorem law38_awake_c (w0 : World) : Calls Try.prog 6 #[] w0 fun e w' => e = .returned (.bool true) ∧ Kp [] w0 w' := by
  have hS := St.sv w0
  have hmap : (List.replicate 20 (Value.int .u8 0)) = (List.replicate 20 (0 : Nat)).map u8v := by simp [u8v]
  obtain ⟨pp, hpp⟩ : ∃ pp, pp = pkB 0 0 false false 0 9 0 ad0 ad0 [] (List.replicate 20 0) := ⟨_, rfl⟩
  have hE : pkE 0 ad0 ad0 [] (List.replicate 20 0) = 0 := by decide
  have hpk := (pk_ex 0 0 0 false false 0 9 0 0 ad0 ad0 [] (List.replicate 20 0) (by omega) (by omega) (by omega) (by omega) Bytes.nil (by simp) (by simp)).1
  rw [← hpp, hE] at hpk
  have hpc : ∀ (w : World) (L : Option Addr), View w w.heap.size L ((List.replicate 20 (0 : Nat)).map u8v) → Calls Try.prog 13 #[.agg #[.int .u8 0, .int .i64 0, .int .u16 0, .bool false, .bool false, .int .i64 0, .int .u8 9, .int .u8 0, .int .u16 0, .bool false, .int .u64 0, .int .u64 0, .bool false, .int .u64 0, .int .u64 0, .slice none 0 0], .slice L 20 20] w fun e w' => ∃ A n c', n = pp.length ∧ e = .returned (.tuple #[.slice A n c', .int .i64 0]) ∧ New w w' (.row (.slice A n c') 5 1 n (pp.map u8v)) ∧ Kp [] w w' := fun w L h => hpk w none 0 L 20 View.nil_ h
  refine ent (n := 27) Try.func6 rfl rfl ?_
  refine wp_seq_k ?_; intro K1 hK1
  refine wlit ?_
  refine wl_v (x_assign ev_c) ?_
  refine wl_nil ?_
  refine then_n (hK1 _ _ ?_); clear hK1 K1
  refine wp_seq_k ?_; intro K2 hK2
  refine wlit ?_
  refine wl_v (x_build (bc_skip (.int .u8 0) <| bc_skip (.int .i64 0) <| bc_skip (.int .u16 0) <| bc_skip (.bool false) <| bc_skip (.bool false) <| bc_skip (.int .i64 0) <| bc_take (ev_cN 9) <| bc_skip (.int .u8 0) <| bc_skip (.int .u16 0) <| bc_skipL [.bool false, .int .u64 0, .int .u64 0] <| bc_skipL [.bool false, .int .u64 0, .int .u64 0] <| bc_skip (.slice none 0 0) <| bc_nil) (by kernel_rfl)) ?_
  refine wl_e rfl ?_; intro K hK
  refine ow_make hS Try.underlying22 tz_5 rfl (ev_cN 20) (ev_cN 20) rfl (by omega) (by simp only [maxLen]; omega) ?_
  clear hS; intro g1_1 w hg1_1 hS
  refine hK _ _ ?_; clear hK K
  refine wl_e rfl ?_; intro K hK
  refine ow_call Try.func13 rfl rfl (evs_cons (tmA rfl rfl) <| evs_cons (tmS rfl rfl) <| evs_nil) (hpc _ _ (by rw [← hmap]; exact viewR hS.ok 0 rfl)) ?_
  rintro e w ⟨A2, n2, c2, hn2, rfl, hn, hk⟩
  refine ⟨_, rfl, ?_⟩
  replace hS := hS.add hk hn -- +rowp
  clear hn hk
  have hcap : n2 ≤ c2 := row_cap (hS.rowOk 0 rfl) (by decide)
  refine hK _ _ ?_; clear hK K
  refine wl_v (x_move (tmT rfl rfl)) ?_
  refine wl_v (x_ext (tmT rfl rfl) rfl) ?_
  refine wl_v (x_ext (tmT rfl rfl) rfl) ?_
  refine wl_v (x_assign (tmS rfl rfl)) ?_
  refine wl_v (x_assign (tmI rfl rfl)) ?_
  refine wl_nil ?_
  refine then_n (hK2 _ _ ?_); clear hK2 K2
  refine wp_seq_k ?_; intro K3 hK3
  refine wlit ?_
  refine wl_v (x_move (tmS rfl rfl)) ?_
  refine wl_e rfl ?_; intro K hK
  refine ow_call Try.func7 rfl rfl (evs_cons (tmS rfl rfl) <| evs_cons (ev_cN 28) <| evs_nil) (split28 pp hpp A2 n2 c2 hn2 _ (viewR hS.ok 0 rfl) hcap) ?_
  rintro e w ⟨G, c3, rfl, hk⟩
  refine ⟨_, rfl, ?_⟩
  replace hS := hS.kept hk
  clear hk
  refine hK _ _ ?_; clear hK K
  refine wl_v (x_move (tmT rfl rfl)) ?_
  refine wl_v (x_ext (tmT rfl rfl) rfl) ?_
  refine wl_v (x_ext (tmT rfl rfl) rfl) ?_
  refine wl_v (x_assign (tmS rfl rfl)) ?_
  refine wl_v (x_assign (tmI rfl rfl)) ?_
  refine wl_nil ?_
  refine then_n (hK3 _ _ ?_); clear hK3 K3
  refine wp_seq_k ?_; intro K4 hK4
  refine wlit ?_
  refine wl_v (x_move (tmI rfl rfl)) ?_
  refine wl_v (x_eql (tmI rfl rfl) (ev_cN 0)) ?_
  refine wl_v (x_move (tmB rfl rfl)) ?_
  refine gs_wl (tm (t := 18) rfl) (fun hg3_2 => ?_) (fun hg3_2 => ?_)
  · have hg3_2' := hg3_2; (try simp only [nrm] at hg3_2'); try (exfalso; first | with_reducible exact absurd hg3_2 Bool.false_ne_true | with_reducible exact absurd hg3_2.symm Bool.false_ne_true | omega | (simp at hg3_2; done))
    all_goals
     refine wl_gv (want_y rfl rfl rfl rfl (by rw [hg3_2]; rfl)) (x_move (tmI rfl rfl)) ?_
     refine wl_gv (want_y rfl rfl rfl rfl (by rw [hg3_2]; rfl)) (x_eql (tmI rfl rfl) (ev_cN 0)) ?_
     refine wl_v (x_pickT (tmB rfl rfl) hg3_2 (tmB rfl rfl)) ?_
     refine wl_v (x_move (tmB rfl rfl)) ?_
     refine gs_wl (tm (t := 22) rfl) (fun hg3_6 => ?_) (fun hg3_6 => ?_)
     · have hg3_6' := hg3_6; (try simp only [nrm] at hg3_6'); try (exfalso; first | with_reducible exact absurd hg3_6 Bool.false_ne_true | with_reducible exact absurd hg3_6.symm Bool.false_ne_true | omega | (simp at hg3_6; done))
       all_goals
        refine wl_gv (want_y rfl rfl rfl rfl (by rw [hg3_6]; rfl)) (x_move (tmS rfl rfl)) ?_
        refine wl_gv (want_y rfl rfl rfl rfl (by rw [hg3_6]; rfl)) (x_len Try.underlying24 (tmS rfl rfl)) ?_
        refine wl_gv (want_y rfl rfl rfl rfl (by rw [hg3_6]; rfl)) (x_eql (tmI rfl rfl) (ev_cN 3)) ?_
        refine wl_v (x_pickT (tmB rfl rfl) hg3_6 (tmB rfl rfl)) ?_
        refine wl_v (x_assign (tmB rfl rfl)) ?_
        refine wl_nil ?_
        refine then_n (hK4 _ _ ?_); clear hK4 K4
        refine wp_ret ?_
        refine ret1 rfl (.tmp rfl (show _ = Value.bool _ from rfl)) ?_
        exact ⟨by simp, hS.kp⟩
     have hg3_6' := hg3_6; (try simp only [nrm] at hg3_6'); try (exfalso; first | with_reducible exact absurd hg3_6 Bool.false_ne_true | with_reducible exact absurd hg3_6.symm Bool.false_ne_true | omega | (simp at hg3_6; done))
     all_goals
      refine wl_s rfl (want_n rfl rfl rfl rfl (by rw [hg3_6]; rfl)) ?_
      refine wl_s rfl (want_n rfl rfl rfl rfl (by rw [hg3_6]; rfl)) ?_
      refine wl_s rfl (want_n rfl rfl rfl rfl (by rw [hg3_6]; rfl)) ?_
      refine wl_v (x_pickF (tmB rfl rfl) hg3_6 ev_c) ?_
      refine wl_v (x_assign (tmB rfl rfl)) ?_
      refine wl_nil ?_
      refine then_n (hK4 _ _ ?_); clear hK4 K4
      refine wp_ret ?_
      refine ret1 rfl (.tmp rfl (show _ = Value.bool _ from rfl)) ?_
      exact ⟨by simp, hS.kp⟩
  have hg3_2' := hg3_2; (try simp only [nrm] at hg3_2'); try (exfalso; first | with_reducible exact absurd hg3_2 Bool.false_ne_true | with_reducible exact absurd hg3_2.symm Bool.false_ne_true | omega | (simp at hg3_2; done))
  all_goals
   refine wl_s rfl (want_n rfl rfl rfl rfl (by rw [hg3_2]; rfl)) ?_
   refine wl_s rfl (want_n rfl rfl rfl rfl (by rw [hg3_2]; rfl)) ?_
   refine wl_v (x_pickF (tmB rfl rfl) hg3_2 ev_c) ?_
   refine wl_v (x_move (tmB rfl rfl)) ?_
   refine wl_s rfl (want_n rfl rfl rfl rfl rfl) ?_
   refine wl_s rfl (want_n rfl rfl rfl rfl rfl) ?_
   refine wl_s rfl (want_n rfl rfl rfl rfl rfl) ?_
   refine wl_v (x_pickF (tmB rfl rfl) rfl ev_c) ?_
   refine wl_v (x_assign (tmB rfl rfl)) ?_
   refine wl_nil ?_
   refine then_n (hK4 _ _ ?_); clear hK4 K4
   refine wp_ret ?_
   refine ret1 rfl (.tmp rfl (show _ = Value.bool _ from rfl)) ?_
   exact ⟨by simp, hS.kp⟩
end Go.Proofs.Ytpibinkekfkafaa
