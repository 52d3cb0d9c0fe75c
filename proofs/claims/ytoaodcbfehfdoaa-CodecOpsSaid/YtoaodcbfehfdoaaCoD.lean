
/- codec: the reference's Op by contract. Conditions: the operation is right. -/
import Derived.Test.YtoaodcbfehfdoaaCoC
namespace Go.Proofs.Ytoaodcbfehfdoaa
open Go.ChangeShapes Go.WideShapes Go.ChangeAt Go.RowKit
theorem St.torow {F : List Nat} {w0 w : World} {M : List Ent} (h : St F w0 M w) (i : Nat) {g : Nat} {e : TypeId} {l : List Value} (n s : Nat) (hM : M[i]? = some (.blk g e l)) (hl : l.length = n * s) (hn : n ≤ maxLen) : St F w0 (M.set i (.row (.slice (some ⟨g, 0, none⟩) n n) e s n l)) w := by
  have hA : Arr w g e l := h.ok _ (mem_of_get hM)
  refine h.set_ hM rfl (Kp.refl _ _) ?_ rfl fun g' hg => .inl hg
  exact ⟨hl, .inr ⟨g, n, l.toArray, rfl, Nat.zero_le _, hA, Nat.le_refl _, hn, by simpa using hl, by rw [← hl]; simp⟩⟩
set_option maxRecDepth 100000 in
set_option maxHeartbeats 8000000 in
theorem rplace_c (a : Ad) (w0 : World) (hla : adLim a) : Calls Try.prog 32 #[.agg a.V.toArray] w0 fun e w' => ∃ A' m c', e = .returned (.slice A' m c') ∧ m = (adE a).length ∧ New w0 w' (.row (.slice A' m c') 5 1 m ((adE a).map u8v)) ∧ Kp [] w0 w' := by
  have hn16 := adN_le a
  have hS := St.sv w0
  refine ent (n := 12) Try.func32 rfl rfl ?_
  refine wp_seq_k ?_; intro K1 hK1
  refine wlit ?_
  refine wl_e rfl ?_; intro K hK
  refine ow_box hS (tmA rfl rfl) rfl ?_
  clear hS; intro g0_0 w hg0_0 hS
  refine hK _ _ ?_; clear hK K
  refine wl_v (x_assign ev_c) ?_
  refine wl_nil ?_
  refine then_n (hK1 _ _ ?_); clear hK1 K1
  refine wp_seq_k ?_; intro K2 hK2
  refine wlit ?_
  refine wl_v (x_loadA (cs := [_, _, _]) Try.underlying24 rfl ts_24 (tmP rfl rfl) (rangeB hS.ok 0 rfl rfl)) ?_
  refine wl_e rfl ?_; intro K hK
  refine ow_call Try.func45 rfl rfl (evs_cons (tmA rfl rfl) <| evs_nil) (rad_bytes_c a _ hla) ?_
  rintro e w ⟨A2, n2, c2, rfl, rfl, hn, hk⟩
  refine ⟨_, rfl, ?_⟩
  replace hS := hS.add hk hn -- +rowb
  clear hn hk
  refine hK _ _ ?_; clear hK K
  refine wl_v (x_assign (tmS rfl rfl)) ?_
  refine wl_nil ?_
  refine then_n (hK2 _ _ ?_); clear hK2 K2
  refine wp_seq_k ?_; intro K3 hK3
  refine wlit ?_
  refine wl_v (x_move (tmS rfl rfl)) ?_
  refine wl_v (x_len Try.underlying29 (tmS rfl rfl)) ?_
  first
   | refine wl_v (x_convN Try.underlying3 Try.underlying5 (tmI rfl rfl) (fit_u8 (by omega))) ?_
   | refine wl_v (x_convU Try.underlying3 Try.underlying5 (tmI rfl rfl) rfl) ?_
   | refine wl_v (x_conv Try.underlying3 Try.underlying5 (tmI rfl rfl)) ?_
  refine wl_e rfl ?_; intro K hK
  refine ow_build hS Try.underlying29 tz_5 (bc_take (tmI rfl rfl) <| bc_nil) rfl rfl (by kernel_rfl) ?_
  clear hS; intro g2_3 w hg2_3 hS
  refine hK _ _ ?_; clear hK K
  refine wl_v (x_move (tmS rfl rfl)) ?_
  refine wl_e rfl ?_; intro K hK
  refine ow_appendV (hS.torow 0 1 1 rfl rfl (by decide)) 0 rfl (viewR hS.ok 1 rfl) Try.underlying29 tz_5 rfl (tmS rfl rfl) (tmS rfl rfl) (u8v_one _) ⟨by decide, by rw [List.length_map, adB_len, Nat.mul_one]⟩ (by simp only [maxLen]; omega) (by omega) ?_
  clear hS; intro gz cz w hAz hCz hS
  refine hK _ _ ?_; clear hK K
  refine wl_v (x_assign (tmS rfl rfl)) ?_
  refine wl_nil ?_
  refine then_n (hK3 _ _ ?_); clear hK3 K3
  refine wp_ret ?_
  refine ret1 rfl (.tmp rfl (show _ = Value.slice _ _ _ from rfl)) ?_
  exact ⟨_, _, _, rfl, by rw [adE_len], hS.new 0 rfl rfl, hS.kp⟩
set_option maxRecDepth 100000 in
set_option maxHeartbeats 8000000 in
theorem rmembers_c (L : Option Addr) (n c : Nat) (l : List Mm) (w0 : World) (hv : View w0 w0.heap.size L (flat mmV l)) (hl : l.length = n) (hn : n ≤ 64) (hok : okMs l) : Calls Try.prog 34 #[.slice L n c] w0 fun e w' => ∃ A' m c', e = .returned (.slice A' m c') ∧ m = 1 + 2 * n ∧ New w0 w' (.row (.slice A' m c') 5 1 m ((n :: msE l).map u8v)) ∧ Kp [] w0 w' := by
  have hfl := flat_length (enc := mmV) (l := l) mmV_len
  have hS := (St.sv w0).vcons rfl hv
  refine ent (n := 31) Try.func34 rfl rfl ?_
  refine wp_seq_k ?_; intro K1 hK1
  refine wlit ?_
  refine wl_v (x_assign ev_c) ?_
  refine wl_nil ?_
  refine then_n (hK1 _ _ ?_); clear hK1 K1
  refine wp_seq_k ?_; intro K2 hK2
  refine wlit ?_
  refine wl_v (x_move (tmS rfl rfl)) ?_
  refine wl_v (x_len Try.underlying26 (tmS rfl rfl)) ?_
  first
   | refine wl_v (x_convN Try.underlying3 Try.underlying5 (tmI rfl rfl) (fit_u8 (by omega))) ?_
   | refine wl_v (x_convU Try.underlying3 Try.underlying5 (tmI rfl rfl) rfl) ?_
   | refine wl_v (x_conv Try.underlying3 Try.underlying5 (tmI rfl rfl)) ?_
  refine wl_e rfl ?_; intro K hK
  refine ow_build hS Try.underlying29 tz_5 (bc_take (tmI rfl rfl) <| bc_nil) rfl rfl (by kernel_rfl) ?_
  clear hS; intro g1_3 w hg1_3 hS
  refine hK _ _ ?_; clear hK K
  refine wl_v (x_assign (tmS rfl rfl)) ?_
  refine wl_nil ?_
  refine then_n (hK2 _ _ ?_); clear hK2 K2
  refine wp_seq_k ?_; intro K3 hK3
  refine wp_seq_k ?_; intro K4 hK4
  refine wlit ?_
  refine wl_v (x_assign (ev_cN 0)) ?_
  refine wl_nil ?_
  refine then_n (hK4 _ _ ?_); clear hK4 K4
  refine wp_block ?_
  replace hS := hS.torow 0 1 1 rfl rfl (by decide)
  refine lp [3, 4, 9, 10, 11, 12, 13, 14, 15, 16, 17, 18, 19, 20, 21, 22, 23, 24, 25, 26, 27, 28, 29] (fun mz g w => ∃ (k : Nat), ∃ (G1 : Option Addr), ∃ (m1 c1 : Nat), mz = n - k ∧ g 4 = .int .i64 (k : Int) ∧ g 3 = .slice G1 m1 c1 ∧ St [] w0 [.row (.slice G1 m1 c1) 5 1 m1 ((n :: msE (l.take k)).map u8v), .vw L (flat mmV l)] w ∧ (k ≤ n) ∧ (m1 = 1 + 2 * k)) ?_ ?_
  · exact ⟨_, 0, _, _, _, rfl, (by first | rfl | go_num | exact congrArg (Value.int _) (by first | omega | (simp; done) | (simp; omega))), (by first | rfl | go_num | exact congrArg (Value.int _) (by first | omega | (simp; done) | (simp; omega))), hS, (by omega), (by omega)⟩
  · clear hS; intro mz g w hI
    obtain ⟨k, G1, m1, c1, rfl, hs4, hs3, hS, hk, hm1⟩ := hI
    refine fr_know (d := 4) hs4 ?_; clear hs4
    refine fr_know (d := 3) hs3 ?_; clear hs3
    refine wp_seq_k ?_; intro K5 hK5
    refine wp_seq_k ?_; intro K6 hK6
    refine wlit ?_
    refine wl_v (x_move (tmI rfl rfl)) ?_
    refine wl_v (x_move (tmS rfl rfl)) ?_
    refine wl_v (x_len Try.underlying26 (tmS rfl rfl)) ?_
    refine wl_v (x_lss (tmI rfl rfl) (tmI rfl rfl)) ?_
    refine wl_nil ?_
    refine then_n (hK6 _ _ ?_); clear hK6 K6
    refine cnd (tm rfl) (fun hc0 => ?_) (fun hc0 => ?_)
    · try (exfalso; first | with_reducible exact absurd hc0 Bool.false_ne_true | with_reducible exact absurd hc0.symm Bool.false_ne_true | (simp only [nrm] at hc0; omega) | (simp at hc0; done))
      all_goals
       try simp only [nrm] at hc0
       refine wp_skip ?_
       refine then_n (hK5 _ _ ?_); clear hK5 K5
       refine wp_seq_k ?_; intro K7 hK7
       refine wp_block ?_
       obtain ⟨b4, o4, rfl⟩ := view_some (viewV hS.ok 1 rfl) (by rw [hfl]; omega)
       have hpk := hok _ (gmem (l := l) (k := k) (by omega))
       obtain ⟨z1, hz1⟩ : ∃ zn : Nat, (l.getD k default).1 = (zn : Int) := Int.eq_ofNat_of_zero_le hpk.1.1
       obtain ⟨z2, hz2⟩ : ∃ zn : Nat, (l.getD k default).2 = (zn : Int) := Int.eq_ofNat_of_zero_le hpk.2.1
       have hb1 : z1 ≤ 255 := by have := hpk.1.2; omega
       have hb2 : z2 ≤ 255 := by have := hpk.2.2; omega
       have htn : tn [(l.getD k default).1, (l.getD k default).2] = [z1, z2] := by rw [hz1, hz2]; rfl
       refine rg_startk 1 hS mixed_ ?_
       clear hS; intro w hS
       refine rg_take 0 rfl rfl (by kernel_rfl) (by kernel_rfl) (by kernel_rfl) (want_0) (fun w hok => x_move (tmS rfl rfl)) ?_
       refine rg_take 1 rfl rfl (by kernel_rfl) (by kernel_rfl) (by kernel_rfl) (want_0) (fun w hok => x_move (tmS rfl rfl)) ?_
       refine rg_take 2 rfl rfl (by kernel_rfl) (by kernel_rfl) (by kernel_rfl) (want_0) (fun w hok => x_move (tmI rfl rfl)) ?_
       refine rg_take 3 rfl rfl (by kernel_rfl) (by kernel_rfl) (by kernel_rfl) (want_0) (fun w hok => x_ixs Try.underlying26 ts_65 (tmS rfl rfl) (tmI rfl rfl) (by omega)) ?_
       refine rg_take 4 rfl rfl (by kernel_rfl) (by kernel_rfl) (by kernel_rfl) (want_0) (fun w hok => x_fa 0 Try.underlying65 rfl rfl ts_3 (tmP rfl rfl)) ?_
       refine rg_take 5 rfl rfl (by kernel_rfl) (by kernel_rfl) (by kernel_rfl) (want_0) (fun w hok => x_load (v := .int .i64 (z1 : Int)) Try.underlying3 rfl (tmP rfl rfl) (cellVs (l := l) (enc := mmV) (j := k) (o := 0) hok 0 rfl mmV_len rfl (by omega) (by rw [← hz1]; rfl))) ?_
       first
        | refine rg_take 6 rfl rfl (by kernel_rfl) (by kernel_rfl) (by kernel_rfl) (want_0) (fun w hok => x_convN Try.underlying3 Try.underlying5 (tmI rfl rfl) (fit_u8 (by omega))) ?_
        | refine rg_take 6 rfl rfl (by kernel_rfl) (by kernel_rfl) (by kernel_rfl) (want_0) (fun w hok => x_convU Try.underlying3 Try.underlying5 (tmI rfl rfl) rfl) ?_
        | refine rg_take 6 rfl rfl (by kernel_rfl) (by kernel_rfl) (by kernel_rfl) (want_0) (fun w hok => x_conv Try.underlying3 Try.underlying5 (tmI rfl rfl)) ?_
       refine rg_take 7 rfl rfl (by kernel_rfl) (by kernel_rfl) (by kernel_rfl) (want_0) (fun w hok => x_move (tmS rfl rfl)) ?_
       refine rg_take 8 rfl rfl (by kernel_rfl) (by kernel_rfl) (by kernel_rfl) (want_0) (fun w hok => x_move (tmI rfl rfl)) ?_
       refine rg_take 9 rfl rfl (by kernel_rfl) (by kernel_rfl) (by kernel_rfl) (want_0) (fun w hok => x_ixs Try.underlying26 ts_65 (tmS rfl rfl) (tmI rfl rfl) (by omega)) ?_
       refine rg_take 10 rfl rfl (by kernel_rfl) (by kernel_rfl) (by kernel_rfl) (want_0) (fun w hok => x_fa 1 Try.underlying65 rfl rfl ts_3 (tmP rfl rfl)) ?_
       refine rg_take 11 rfl rfl (by kernel_rfl) (by kernel_rfl) (by kernel_rfl) (want_0) (fun w hok => x_load (v := .int .i64 (z2 : Int)) Try.underlying3 rfl (tmP rfl rfl) (cellVs (l := l) (enc := mmV) (j := k) (o := 1) hok 0 rfl mmV_len rfl (by omega) (by rw [← hz2]; rfl))) ?_
       first
        | refine rg_take 12 rfl rfl (by kernel_rfl) (by kernel_rfl) (by kernel_rfl) (want_0) (fun w hok => x_convN Try.underlying3 Try.underlying5 (tmI rfl rfl) (fit_u8 (by omega))) ?_
        | refine rg_take 12 rfl rfl (by kernel_rfl) (by kernel_rfl) (by kernel_rfl) (want_0) (fun w hok => x_convU Try.underlying3 Try.underlying5 (tmI rfl rfl) rfl) ?_
        | refine rg_take 12 rfl rfl (by kernel_rfl) (by kernel_rfl) (by kernel_rfl) (want_0) (fun w hok => x_conv Try.underlying3 Try.underlying5 (tmI rfl rfl)) ?_
       refine rg_step 13 rfl (by kernel_rfl) (want_0) (oks_drop hS 1 rfl) ?_; intro K hK
       refine ow_build hS Try.underlying29 tz_5 (bc_take (tmI rfl rfl) <| bc_take (tmI rfl rfl) <| bc_nil) rfl rfl (by kernel_rfl) ?_
       clear hS; intro g5_13 w hg5_13 hS
       refine hK _ _ ?_; clear hK K
       refine rg_step 14 rfl (by kernel_rfl) (want_0) (oks_drop hS 2 rfl) ?_; intro K hK
       (refine ow_append hS 1 0 rfl rfl Try.underlying29 tz_5 rfl (tmS rfl rfl) (tmS rfl rfl) rfl ⟨by decide, by decide, rfl⟩ (by simp only [maxLen]; omega) (by omega) ?_; clear hS; intro g5_14 cg5_14 w hS)
       refine hK _ _ ?_; clear hK K
       refine rg_take 15 rfl rfl (by kernel_rfl) (by kernel_rfl) (by kernel_rfl) (want_0) (fun w hok => x_assign (tmS rfl rfl)) ?_
       refine rg_done (oks_drop hS 2 rfl) (by kernel_rfl) ?_
       refine inb_n ?_
       refine then_n (hK7 _ _ ?_); clear hK7 K7
       refine wlit ?_
       refine wl_v (x_move (tmI rfl rfl)) ?_
       first
        | refine wl_v (x_addN (tmI rfl rfl) (ev_cN 1) (fit_i64 (by omega))) ?_
        | refine wl_v (x_addI (tmI rfl rfl) (ev_cN 1) (IntWalk.i64_in _ (by omega))) ?_
        | refine wl_v (x_add (tmI rfl rfl) (ev_cN 1)) ?_
       refine wl_v (x_assign (tmI rfl rfl)) ?_
       refine wl_nil ?_
       exact then_n ⟨_, _, rfl, (by show _ < _; omega), (by repeat (first | exact agree_self | exact agree_refl | refine agree_upd rfl ?_ | refine agree_mix rfl ?_)), k + 1, _, _, _, rfl, (by first | rfl | go_num | exact congrArg (Value.int _) (by first | omega | (simp; done) | (simp; omega))), (by first | rfl | go_num | exact congrArg (Value.int _) (by first | omega | (simp; done) | (simp; omega))), (by rw [msE_snoc _ _ (by omega), ← List.cons_append, List.map_append, htn]; exact hS.pick [1, 2] rfl rfl), (by omega), (by omega)⟩
    try (exfalso; first | with_reducible exact absurd hc0 Bool.false_ne_true | with_reducible exact absurd hc0.symm Bool.false_ne_true | (simp only [nrm] at hc0; omega) | (simp at hc0; done))
    all_goals
     try simp only [nrm] at hc0
     refine wp_exit ?_
     refine then_x ?_; clear hK5 K5
     refine then_x ?_
     refine inb_x ?_
     refine then_n (hK3 _ _ ?_); clear hK3 K3
     refine wp_seq_k ?_; intro K8 hK8
     refine wlit ?_
     refine wl_v (x_move (tmS rfl rfl)) ?_
     refine wl_v (x_assign (tmS rfl rfl)) ?_
     refine wl_nil ?_
     refine then_n (hK8 _ _ ?_); clear hK8 K8
     refine wp_ret ?_
     refine ret1 rfl (.tmp rfl (show _ = Value.slice _ _ _ from rfl)) ?_
     obtain rfl : n = k := by omega
     rw [List.take_of_length_le (by omega)] at hS
     exact ⟨_, _, _, rfl, hm1, hS.new 0 rfl rfl, hS.kp⟩
end Go.Proofs.Ytoaodcbfehfdoaa
