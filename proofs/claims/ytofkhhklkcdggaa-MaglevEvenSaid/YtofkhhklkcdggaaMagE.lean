
/- The example, by contract; every slot of a full table holds a member. Conditions: none. -/
import Derived.Test.YtofkhhklkcdggaaMagD
namespace Go.Proofs.Ytofkhhklkcdggaa
open Go.RowKit
theorem tab_mem {k : Nat → Nat} {l : List Int} {n : Nat} : ∀ (j : Nat) (v : Int), v ∈ tabN k l n j → v = 0 ∨ ∃ i, v = (memN l i : Int) := by
  intro j
  induction j with
  | zero => intro v hv; rw [tabN] at hv; exact .inl (List.eq_of_mem_replicate hv)
  | succ j ih =>
    intro v hv
    rw [tabN] at hv
    rcases List.mem_or_eq_of_mem_set hv with h | h
    · exact ih v h
    · exact .inr ⟨j, h⟩
theorem tab_full {k : Nat → Nat} {l : List Int} {n : Nat} (hn : isP n) (hok : okM l) (hl : 1 ≤ l.length) (v : Int) (hv : v ∈ tabN k l n n) : v ≠ 0 := by
  have h := tab_count (k := k) hn hok hl n (Nat.le_refl _)
  have h2 := List.countP_eq_length.1 (h.trans (tab_len k l n n).symm) v hv
  simpa [nz] using h2
theorem isP_7 : isP 7 := ⟨by omega, fun d h1 h2 => by
  rcases (by omega : d = 2 ∨ d = 3 ∨ d = 4 ∨ d = 5 ∨ d = 6) with rfl | rfl | rfl | rfl | rfl <;> decide⟩
theorem V42_7 : V42 7 [9] := ⟨by omega, isP_7, ⟨by simp, by simp⟩, by simp, by simp⟩
theorem tab_7 (k : Nat → Nat) : (tabZ k 7 [9]).length = 7 ∧ ∀ i, i < 7 → (tabZ k 7 [9]).getD i 0 = 9 := by
  have hl : (tabZ k 7 [9]).length = 7 := tabZ_len V42_7
  refine ⟨hl, fun i hi => ?_⟩
  have hv : (tabZ k 7 [9])[i]'(by omega) ∈ tabZ k 7 [9] := List.getElem_mem _
  rw [List.getD_eq_getElem?_getD, List.getElem?_eq_getElem (by omega)]
  show (tabZ k 7 [9])[i]'(by omega) = 9
  generalize (tabZ k 7 [9])[i]'(by omega) = v at *
  rw [tabZ_yes V42_7] at hv
  have h0 := tab_full (k := k) isP_7 V42_7.2.2.1 (by simp) v hv
  rcases tab_mem _ v hv with h | ⟨j, h⟩
  · exact absurd h h0
  · rw [h]
    unfold memN
    rw [show j % ([9] : List Int).length = 0 by simp [Nat.mod_one]]
    rfl
def k0_ : Nat → Nat := fun i => if i = 0 then 1 else 0
set_option maxRecDepth 100000 in
set_option maxHeartbeats 4000000 in
theorem law42_awake_c (w0 : World) : Calls Try.prog 5 #[] w0 fun e w' => e = .returned (.bool true) ∧ Kp [] w0 w' := by
  have hS := St.sv w0
  have hkb : Bytes (kL k0_) := by
    intro x hx
    simp [kL, k0_] at hx
    omega
  have hbld := fun w A c (hv : View w w.heap.size A (([9] : List Int).map i64v)) => mbuild_z k0_ 7 A c [9] w hkb hv (by simp) (by omega)
  obtain ⟨hT1, hT2⟩ := tab_7 k0_
  have hV := V42_7
  generalize tabZ k0_ 7 [9] = T at *
  have h0 : atI T 0 = 9 := by rw [show (0 : Int) = ((0 : Nat) : Int) from rfl, atI_nat (by omega)]; exact hT2 0 (by omega)
  have h6 : atI T 6 = 9 := by rw [show (6 : Int) = ((6 : Nat) : Int) from rfl, atI_nat (by omega)]; exact hT2 6 (by omega)
  rw [hT1] at hbld
  refine ent (n := 26) Try.func5 rfl rfl ?_
  refine wp_seq_k ?_; intro K1 hK1
  refine wlit ?_
  refine wl_v (x_assign ev_c) ?_
  refine wl_nil ?_
  refine then_n (hK1 _ _ ?_); clear hK1 K1
  refine wp_seq_k ?_; intro K2 hK2
  refine wlit ?_
  refine wl_v (x_build (bc_take (ev_cN 1) <| bc_skip (.int .u8 0) <| bc_skip (.int .u8 0) <| bc_skip (.int .u8 0) <| bc_skip (.int .u8 0) <| bc_skip (.int .u8 0) <| bc_skip (.int .u8 0) <| bc_skip (.int .u8 0) <| bc_skip (.int .u8 0) <| bc_skip (.int .u8 0) <| bc_skip (.int .u8 0) <| bc_skip (.int .u8 0) <| bc_skip (.int .u8 0) <| bc_skip (.int .u8 0) <| bc_skip (.int .u8 0) <| bc_skip (.int .u8 0) <| bc_nil) (by kernel_rfl)) ?_
  refine wl_e rfl ?_; intro K hK
  refine ow_build hS Try.underlying23 tz_3 (bc_take (ev_cN 9) <| bc_nil) rfl rfl (by kernel_rfl) ?_
  clear hS; intro g1_1 w hg1_1 hS
  refine hK _ _ ?_; clear hK K
  refine wl_e rfl ?_; intro K hK
  refine ow_call Try.func6 rfl rfl (evs_cons (tmA rfl rfl) <| evs_cons (ev_cN 7) <| evs_cons (tmS rfl rfl) <| evs_nil) (hbld _ _ _ (viewB hS.ok 0 rfl)) ?_
  rintro e w ⟨G, E, rfl, hE, hn, hk⟩
  refine ⟨_, rfl, ?_⟩
  replace hS := hS.addn hk hn -- +vt
  clear hn hk
  obtain rfl : E = 0 := by rcases hE with ⟨_, h⟩ | ⟨h, _⟩; exact h; exact absurd hV h
  refine hK _ _ ?_; clear hK K
  refine wl_v (x_move (tmT rfl rfl)) ?_
  refine wl_v (x_ext (tmT rfl rfl) rfl) ?_
  refine wl_v (x_ext (tmT rfl rfl) rfl) ?_
  refine wl_e rfl ?_; intro K hK
  refine ow_alloc hS tz_27 rfl ?_
  clear hS; intro g1_6 w hg1_6 hS
  refine hK _ _ ?_; clear hK K
  refine wl_e rfl ?_; intro K hK
  refine ow_storeA hS 0 rfl ts_27 (tmP rfl rfl) (tmA rfl rfl) rfl rfl rfl ?_
  clear hS; intro w hS
  refine hK _ _ ?_; clear hK K
  refine wl_v (x_assign (tmI rfl rfl)) ?_
  refine wl_nil ?_
  refine then_n (hK2 _ _ ?_); clear hK2 K2
  refine wp_seq_k ?_; intro K3 hK3
  refine wlit ?_
  refine wl_v (x_move (tmI rfl rfl)) ?_
  refine wl_v (x_eql (tmI rfl rfl) (ev_cN 0)) ?_
  refine wl_v (x_move (tmB rfl rfl)) ?_
  refine gs_wl (tm (t := 11) rfl) (fun hg2_2 => ?_) (fun hg2_2 => ?_)
  · have hg2_2' := hg2_2; (try simp only [nrm] at hg2_2'); try (exfalso; first | with_reducible exact absurd hg2_2 Bool.false_ne_true | with_reducible exact absurd hg2_2.symm Bool.false_ne_true | omega | (simp at hg2_2; done))
    all_goals
     refine wl_gv (want_y rfl rfl rfl rfl (by rw [hg2_2]; rfl)) (x_loadA (cs := [_]) Try.underlying27 rfl ts_27 (tmP rfl rfl) (rangeB hS.ok 0 rfl rfl)) ?_
     refine wl_g (want_y rfl rfl rfl rfl (by rw [hg2_2]; rfl)) ?_; intro K hK
     refine ow_call Try.func8 rfl rfl (evs_cons (tmA rfl rfl) <| evs_nil) (mTlen_c G 7 7 _) ?_
     rintro e w ⟨rfl, hk⟩
     refine ⟨_, rfl, ?_⟩
     replace hS := hS.kept hk
     clear hk
     refine hK _ _ ?_; clear hK K
     refine wl_gv (want_y rfl rfl rfl rfl (by rw [hg2_2]; rfl)) (x_eql (tmI rfl rfl) (ev_cN 7)) ?_
     refine wl_v (x_pickT (tmB rfl rfl) hg2_2 (tmB rfl rfl)) ?_
     refine wl_v (x_move (tmB rfl rfl)) ?_
     refine gs_wl (tm (t := 16) rfl) (fun hg2_7 => ?_) (fun hg2_7 => ?_)
     · have hg2_7' := hg2_7; (try simp only [nrm] at hg2_7'); try (exfalso; first | with_reducible exact absurd hg2_7 Bool.false_ne_true | with_reducible exact absurd hg2_7.symm Bool.false_ne_true | omega | (simp at hg2_7; done))
       all_goals
        refine wl_gv (want_y rfl rfl rfl rfl (by rw [hg2_7]; rfl)) (x_loadA (cs := [_]) Try.underlying27 rfl ts_27 (tmP rfl rfl) (rangeB hS.ok 0 rfl rfl)) ?_
        refine wl_g (want_y rfl rfl rfl rfl (by rw [hg2_7]; rfl)) ?_; intro K hK
        refine ow_call Try.func9 rfl rfl (evs_cons (tmA rfl rfl) <| evs_cons (ev_cN 0) <| evs_nil) ((by have h9 := mTat_c G 7 T 0 _ (viewV hS.ok 1 rfl); rw [hT1, h0] at h9; exact h9)) ?_
        rintro e w ⟨rfl, hk⟩
        refine ⟨_, rfl, ?_⟩
        replace hS := hS.kept hk
        clear hk
        refine hK _ _ ?_; clear hK K
        refine wl_gv (want_y rfl rfl rfl rfl (by rw [hg2_7]; rfl)) (x_eql (tmI rfl rfl) (ev_cN 9)) ?_
        refine wl_v (x_pickT (tmB rfl rfl) hg2_7 (tmB rfl rfl)) ?_
        refine wl_v (x_move (tmB rfl rfl)) ?_
        refine gs_wl (tm (t := 21) rfl) (fun hg2_12 => ?_) (fun hg2_12 => ?_)
        · have hg2_12' := hg2_12; (try simp only [nrm] at hg2_12'); try (exfalso; first | with_reducible exact absurd hg2_12 Bool.false_ne_true | with_reducible exact absurd hg2_12.symm Bool.false_ne_true | omega | (simp at hg2_12; done))
          all_goals
           refine wl_gv (want_y rfl rfl rfl rfl (by rw [hg2_12]; rfl)) (x_loadA (cs := [_]) Try.underlying27 rfl ts_27 (tmP rfl rfl) (rangeB hS.ok 0 rfl rfl)) ?_
           refine wl_g (want_y rfl rfl rfl rfl (by rw [hg2_12]; rfl)) ?_; intro K hK
           refine ow_call Try.func9 rfl rfl (evs_cons (tmA rfl rfl) <| evs_cons (ev_cN 6) <| evs_nil) ((by have h9 := mTat_c G 7 T 6 _ (viewV hS.ok 1 rfl); rw [hT1, h6] at h9; exact h9)) ?_
           rintro e w ⟨rfl, hk⟩
           refine ⟨_, rfl, ?_⟩
           replace hS := hS.kept hk
           clear hk
           refine hK _ _ ?_; clear hK K
           refine wl_gv (want_y rfl rfl rfl rfl (by rw [hg2_12]; rfl)) (x_eql (tmI rfl rfl) (ev_cN 9)) ?_
           refine wl_v (x_pickT (tmB rfl rfl) hg2_12 (tmB rfl rfl)) ?_
           refine wl_v (x_assign (tmB rfl rfl)) ?_
           refine wl_nil ?_
           refine then_n (hK3 _ _ ?_); clear hK3 K3
           refine wp_ret ?_
           refine ret1 rfl (.tmp rfl (show _ = Value.bool _ from rfl)) ?_
           exact ⟨rfl, hS.kp⟩
        have hg2_12' := hg2_12; (try simp only [nrm] at hg2_12'); try (exfalso; first | with_reducible exact absurd hg2_12 Bool.false_ne_true | with_reducible exact absurd hg2_12.symm Bool.false_ne_true | omega | (simp at hg2_12; done))
        all_goals
         refine wl_s rfl (want_n rfl rfl rfl rfl (by rw [hg2_12]; rfl)) ?_
         refine wl_s rfl (want_n rfl rfl rfl rfl (by rw [hg2_12]; rfl)) ?_
         refine wl_s rfl (want_n rfl rfl rfl rfl (by rw [hg2_12]; rfl)) ?_
         refine wl_v (x_pickF (tmB rfl rfl) hg2_12 ev_c) ?_
         refine wl_v (x_assign (tmB rfl rfl)) ?_
         refine wl_nil ?_
         refine then_n (hK3 _ _ ?_); clear hK3 K3
         refine wp_ret ?_
         refine ret1 rfl (.tmp rfl (show _ = Value.bool _ from rfl)) ?_
         exact ⟨rfl, hS.kp⟩
     have hg2_7' := hg2_7; (try simp only [nrm] at hg2_7'); try (exfalso; first | with_reducible exact absurd hg2_7 Bool.false_ne_true | with_reducible exact absurd hg2_7.symm Bool.false_ne_true | omega | (simp at hg2_7; done))
     all_goals
      refine wl_s rfl (want_n rfl rfl rfl rfl (by rw [hg2_7]; rfl)) ?_
      refine wl_s rfl (want_n rfl rfl rfl rfl (by rw [hg2_7]; rfl)) ?_
      refine wl_s rfl (want_n rfl rfl rfl rfl (by rw [hg2_7]; rfl)) ?_
      refine wl_v (x_pickF (tmB rfl rfl) hg2_7 ev_c) ?_
      refine wl_v (x_move (tmB rfl rfl)) ?_
      refine wl_s rfl (want_n rfl rfl rfl rfl rfl) ?_
      refine wl_s rfl (want_n rfl rfl rfl rfl rfl) ?_
      refine wl_s rfl (want_n rfl rfl rfl rfl rfl) ?_
      refine wl_v (x_pickF (tmB rfl rfl) rfl ev_c) ?_
      refine wl_v (x_assign (tmB rfl rfl)) ?_
      refine wl_nil ?_
      refine then_n (hK3 _ _ ?_); clear hK3 K3
      refine wp_ret ?_
      refine ret1 rfl (.tmp rfl (show _ = Value.bool _ from rfl)) ?_
      exact ⟨rfl, hS.kp⟩
  have hg2_2' := hg2_2; (try simp only [nrm] at hg2_2'); try (exfalso; first | with_reducible exact absurd hg2_2 Bool.false_ne_true | with_reducible exact absurd hg2_2.symm Bool.false_ne_true | omega | (simp at hg2_2; done))
  all_goals
   refine wl_s rfl (want_n rfl rfl rfl rfl (by rw [hg2_2]; rfl)) ?_
   refine wl_s rfl (want_n rfl rfl rfl rfl (by rw [hg2_2]; rfl)) ?_
   refine wl_s rfl (want_n rfl rfl rfl rfl (by rw [hg2_2]; rfl)) ?_
   refine wl_v (x_pickF (tmB rfl rfl) hg2_2 ev_c) ?_
   refine wl_v (x_move (tmB rfl rfl)) ?_
   refine wl_s rfl (want_n rfl rfl rfl rfl rfl) ?_
   refine wl_s rfl (want_n rfl rfl rfl rfl rfl) ?_
   refine wl_s rfl (want_n rfl rfl rfl rfl rfl) ?_
   refine wl_v (x_pickF (tmB rfl rfl) rfl ev_c) ?_
   refine wl_v (x_move (tmB rfl rfl)) ?_
   refine wl_s rfl (want_n rfl rfl rfl rfl rfl) ?_
   refine wl_s rfl (want_n rfl rfl rfl rfl rfl) ?_
   refine wl_s rfl (want_n rfl rfl rfl rfl rfl) ?_
   refine wl_v (x_pickF (tmB rfl rfl) rfl ev_c) ?_
   refine wl_v (x_assign (tmB rfl rfl)) ?_
   refine wl_nil ?_
   refine then_n (hK3 _ _ ?_); clear hK3 K3
   refine wp_ret ?_
   refine ret1 rfl (.tmp rfl (show _ = Value.bool _ from rfl)) ?_
   exact ⟨rfl, hS.kp⟩
end Go.Proofs.Ytofkhhklkcdggaa
