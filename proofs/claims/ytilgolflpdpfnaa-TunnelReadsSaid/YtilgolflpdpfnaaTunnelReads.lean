/- Proved: TunnelReads returns true for all bytes, and changes no memory that was there. Conditions: none. -/
import Derived.Test.YtilgolflpdpfnaaTunD
import Derived.Test.YtilgolflpdpfnaaTunE
import Derived.Test.YtilgolflpdpfnaaArgs
namespace Go.Proofs.Ytilgolflpdpfnaa
open Go.RowKit
namespace TunnelReads
theorem six_z (l : List Nat) : ((sixN l = 0 ∧ sixE l = 21) ∨ (sixN l < 0 ∧ sixE l = 20) ∨ (0 < sixN l ∧ sixE l = 0)) ∧ decide (sixP l) = decide (sixN l = 6) := by
  by_cases h0 : l.length = 0
  · obtain ⟨a, b, c⟩ := sx0 h0
    rw [a, b, c]
    exact ⟨.inr (.inl ⟨by omega, rfl⟩), by decide⟩
  · by_cases h4 : nth l 0 / 16 = 4
    · obtain ⟨a, b, c⟩ := sx4 h0 h4
      rw [a, b, c]
      exact ⟨.inr (.inr ⟨by omega, rfl⟩), by decide⟩
    · by_cases h6 : nth l 0 / 16 = 6
      · obtain ⟨a, b, c⟩ := sx6 h0 h6
        rw [a, b, c]
        exact ⟨.inr (.inr ⟨by omega, rfl⟩), by decide⟩
      · obtain ⟨a, b, c⟩ := sxo h0 h4 h6
        rw [a, b, c]
        exact ⟨.inl ⟨rfl, rfl⟩, by decide⟩
theorem both (l : List Nat) (hb : Bytes l) (hn4 : l.length ≤ 3000) : ∃ x pr ttl er s d, Bytes x ∧ x.length ≤ 3000 ∧ HU 18 l x pr ttl er s d ∧ HU 19 l x pr ttl er s d := by
  by_cases hE : sixE l = 0
  · have hl0 : l.length ≠ 0 := fun h => by have := (sx0 h).1; omega
    by_cases h4 : nth l 0 / 16 = 4
    · obtain ⟨x, pr, ttl, er, s, d, more, off, hxb, hx3, hpr, _, her, _, hI, hR⟩ := h4_ex l hb hn4
      have h9 : fragE er (more || decide (0 < (off : Int))) < 100 := by unfold fragE; split <;> omega
      exact ⟨x, pr, ttl, _, s, d, hxb, hx3, unwrap_c hxb hx3 hpr h9 (outer4 hb hn4 hl0 h4 her hI), runwrap4 hb hn4 hl0 h4 hxb hx3 hpr her hR⟩
    · by_cases h6 : nth l 0 / 16 = 6
      · obtain ⟨x, pr, ttl, er, s, d, hxb, hx3, hpr, _, her, hI, hR⟩ := h6_ex l hb hn4 h6
        exact ⟨x, pr, ttl, er, s, d, hxb, hx3, unwrap_c hxb hx3 hpr her (outer6 hb hn4 hl0 h6 hI), runwrap6 hb hn4 hl0 h6 hxb hx3 hpr her hR⟩
      · have := (sxo hl0 h4 h6).1
        omega
  · have hbd : sixE l < 100 := by unfold sixE; split <;> (try split) <;> omega
    exact ⟨[], 0, 0, sixE l, ad0_, ad0_, Bytes.nil, by simp, unwrap_c Bytes.nil (by simp) (by omega) hbd (outer0 hb hn4 hE), runwrap0 hb hn4 hE⟩
set_option maxRecDepth 100000 in
set_option maxHeartbeats 4000000 in
theorem walk (A : Option Addr) (n c : Nat) (l : List Nat) (w0 : World)
    (r1 : l.length = n ∧ (A = none → c = 0) ∧ BView w0 w0.heap.size A l ∧ n ≤ c) :
    Calls Try.prog 3 #[.slice A n c] w0 fun e w' => e = .returned (.bool true) ∧ Below w0.heap.size w0 w' := by
  obtain ⟨rfl, _, ⟨hb, hv⟩, hc⟩ := r1
  have hS := (St.sv w0).vcons rfl hv
  by_cases hbig : 3000 < l.length
  · skip
    refine ent (n := 70) Try.func3 rfl rfl ?_
    refine wp_seq_k ?_; intro K1 hK1
    refine wlit ?_
    refine wl_v (x_assign ev_c) ?_
    refine wl_nil ?_
    refine then_n (hK1 _ _ ?_); clear hK1 K1
    refine wp_seq_k ?_; intro K2 hK2
    refine wp_seq_k ?_; intro K3 hK3
    refine wlit ?_
    refine wl_v (x_move (tmS rfl rfl)) ?_
    refine wl_v (x_len Try.underlying22 (tmS rfl rfl)) ?_
    refine wl_v (x_gtr (tmI rfl rfl) (ev_cN 3000)) ?_
    refine wl_nil ?_
    refine then_n (hK3 _ _ ?_); clear hK3 K3
    refine cnds (tm rfl) (fun hc0 => ?_) (fun hc0 => ?_)
    · exfalso
      simp only [nrm] at hc0
      omega
    try (exfalso; first | with_reducible exact absurd hc0 Bool.false_ne_true | with_reducible exact absurd hc0.symm Bool.false_ne_true | (simp only [nrm] at hc0; omega) | (simp at hc0; done))
    all_goals
     try simp only [nrm] at hc0
     refine wp_seq_k ?_; intro K4 hK4
     refine wlit ?_
     refine wl_e rfl ?_; intro K hK
     refine ow_call Try.func17 rfl rfl (evs_nil) (law09_awake_c _) ?_
     rintro e w ⟨rfl, hk⟩
     refine ⟨_, rfl, ?_⟩
     replace hS := hS.kept hk
     clear hk
     refine hK _ _ ?_; clear hK K
     refine wl_v (x_assign (tmB rfl rfl)) ?_
     refine wl_nil ?_
     refine then_n (hK4 _ _ ?_); clear hK4 K4
     refine wp_ret ?_
     refine then_r ?_
     refine ret1 rfl (.tmp rfl (show _ = Value.bool _ from rfl)) ?_
     exact ⟨rfl, hS.kp.below⟩
  have hn4 : l.length ≤ 3000 := by omega
  obtain ⟨x, pr, ttl, er, s, d, hxb, hx3, hI, hR⟩ := both l hb hn4
  obtain ⟨hEZ, hB⟩ := six_z l
  have hsx := fun w hv => six_c l.length A c l w hv rfl hb (by omega)
  have hrs := fun w hv => rsix_c l.length A c l w hv rfl hb (by omega)
  rw [hB] at hsx
  generalize sixE l = E at *
  generalize sixN l = Z at *
  unfold HU at hI hR
  by_cases hF : finE er pr x = 0
  · have hI' : ∀ w, View w w.heap.size A (l.map u8v) → Calls Try.prog 18 #[.slice A l.length c] w fun e w' => ∃ (L : Option Addr) (k c' : Nat), k = x.length ∧ e = .returned (.tuple #[.slice L k c', .agg (wayV s d ttl).toArray, .int .i64 0]) ∧ NewV w w' L (x.map u8v) ∧ Kp [] w w' := fun w hv => Calls.mono (hI w A c hv hc) fun e w' h => by
      rcases h with ⟨L, k, c', _, h1, _, h2, h3, h4⟩ | ⟨h, _⟩
      · exact ⟨L, k, c', h1, h2, h3, h4⟩
      · exact absurd hF h
    have hR' : ∀ w, View w w.heap.size A (l.map u8v) → Calls Try.prog 19 #[.slice A l.length c] w fun e w' => ∃ (L : Option Addr) (k c' : Nat), k = x.length ∧ e = .returned (.tuple #[.slice L k c', .agg (wayV s d ttl).toArray, .int .i64 0]) ∧ NewV w w' L (x.map u8v) ∧ Kp [] w w' := fun w hv => Calls.mono (hR w A c hv hc) fun e w' h => by
      rcases h with ⟨L, k, c', _, h1, _, h2, h3, h4⟩ | ⟨h, _⟩
      · exact ⟨L, k, c', h1, h2, h3, h4⟩
      · exact absurd hF h
    clear hI hR
    refine ent (n := 70) Try.func3 rfl rfl ?_
    refine wp_seq_k ?_; intro K1 hK1
    refine wlit ?_
    refine wl_v (x_assign ev_c) ?_
    refine wl_nil ?_
    refine then_n (hK1 _ _ ?_); clear hK1 K1
    refine wp_seq_k ?_; intro K2 hK2
    refine wp_seq_k ?_; intro K3 hK3
    refine wlit ?_
    refine wl_v (x_move (tmS rfl rfl)) ?_
    refine wl_v (x_len Try.underlying22 (tmS rfl rfl)) ?_
    refine wl_v (x_gtr (tmI rfl rfl) (ev_cN 3000)) ?_
    refine wl_nil ?_
    refine then_n (hK3 _ _ ?_); clear hK3 K3
    refine cnd (tm rfl) (fun hc0 => ?_) (fun hc0 => ?_)
    · exfalso
      simp only [nrm] at hc0
      omega
    try (exfalso; first | with_reducible exact absurd hc0 Bool.false_ne_true | with_reducible exact absurd hc0.symm Bool.false_ne_true | (simp only [nrm] at hc0; omega) | (simp at hc0; done))
    all_goals
     try simp only [nrm] at hc0
     refine wp_skip ?_
     refine then_n (hK2 _ _ ?_); clear hK2 K2
     refine wp_seq_k ?_; intro K4 hK4
     refine wlit ?_
     refine wl_v (x_move (tmS rfl rfl)) ?_
     refine wl_e rfl ?_; intro K hK
     refine ow_call Try.func18 rfl rfl (evs_cons (tmS rfl rfl) <| evs_nil) (hI' _ (viewV hS.ok 0 rfl)) ?_
     rintro e w ⟨L1, k1, c1, rfl, rfl, hn, hk⟩
     refine ⟨_, rfl, ?_⟩
     replace hS := hS.addn hk hn -- +vx
     clear hn hk
     refine hK _ _ ?_; clear hK K
     refine wl_v (x_move (tmT rfl rfl)) ?_
     refine wl_v (x_ext (tmT rfl rfl) rfl) ?_
     refine wl_v (x_ext (tmT rfl rfl) rfl) ?_
     refine wl_v (x_ext (tmT rfl rfl) rfl) ?_
     refine wl_e rfl ?_; intro K hK
     refine ow_alloc hS tz_28 rfl ?_
     clear hS; intro g3_6 w hg3_6 hS
     refine hK _ _ ?_; clear hK K
     refine wl_v (x_assign (tmS rfl rfl)) ?_
     refine wl_e rfl ?_; intro K hK
     refine ow_storeA hS 0 rfl ts_28 (tmP rfl rfl) (tmA rfl rfl) rfl rfl rfl ?_
     clear hS; intro w hS
     try replace hS := St.nm (M' := [.blk _ _ [_, _, _, _, _, _, _], .vw _ _, .vw _ _]) hS rfl
     refine hK _ _ ?_; clear hK K
     refine wl_v (x_assign (tmI rfl rfl)) ?_
     refine wl_nil ?_
     refine then_n (hK4 _ _ ?_); clear hK4 K4
     refine wp_seq_k ?_; intro K5 hK5
     refine wlit ?_
     refine wl_v (x_move (tmS rfl rfl)) ?_
     refine wl_e rfl ?_; intro K hK
     refine ow_call Try.func19 rfl rfl (evs_cons (tmS rfl rfl) <| evs_nil) (hR' _ (viewV hS.ok 2 rfl)) ?_
     rintro e w ⟨L2, k2, c2, rfl, rfl, hn, hk⟩
     refine ⟨_, rfl, ?_⟩
     replace hS := hS.addn hk hn -- +vy
     clear hn hk
     refine hK _ _ ?_; clear hK K
     refine wl_v (x_move (tmT rfl rfl)) ?_
     refine wl_v (x_ext (tmT rfl rfl) rfl) ?_
     refine wl_v (x_ext (tmT rfl rfl) rfl) ?_
     refine wl_v (x_ext (tmT rfl rfl) rfl) ?_
     refine wl_e rfl ?_; intro K hK
     refine ow_alloc hS tz_32 rfl ?_
     clear hS; intro g4_6 w hg4_6 hS
     refine hK _ _ ?_; clear hK K
     refine wl_v (x_assign (tmS rfl rfl)) ?_
     refine wl_e rfl ?_; intro K hK
     refine ow_storeA hS 0 rfl ts_32 (tmP rfl rfl) (tmA rfl rfl) rfl rfl rfl ?_
     clear hS; intro w hS
     try replace hS := St.nm (M' := [.blk _ _ [_, _, _, _, _, _, _], .vw _ _, .blk _ _ [_, _, _, _, _, _, _], .vw _ _, .vw _ _]) hS rfl
     refine hK _ _ ?_; clear hK K
     refine wl_v (x_assign (tmI rfl rfl)) ?_
     refine wl_nil ?_
     refine then_n (hK5 _ _ ?_); clear hK5 K5
     refine wp_seq_k ?_; intro K6 hK6
     refine wlit ?_
     refine wl_v (x_move (tmS rfl rfl)) ?_
     refine wl_e rfl ?_; intro K hK
     refine ow_call Try.func20 rfl rfl (evs_cons (tmS rfl rfl) <| evs_nil) (hsx _ (viewV hS.ok 4 rfl)) ?_
     rintro e w ⟨rfl, hk⟩
     refine ⟨_, rfl, ?_⟩
     replace hS := hS.kept hk
     clear hk
     refine hK _ _ ?_; clear hK K
     refine wl_v (x_move (tmT rfl rfl)) ?_
     refine wl_v (x_ext (tmT rfl rfl) rfl) ?_
     refine wl_v (x_ext (tmT rfl rfl) rfl) ?_
     refine wl_v (x_assign (tmB rfl rfl)) ?_
     refine wl_v (x_assign (tmI rfl rfl)) ?_
     refine wl_nil ?_
     refine then_n (hK6 _ _ ?_); clear hK6 K6
     refine wp_seq_k ?_; intro K7 hK7
     refine wlit ?_
     refine wl_v (x_move (tmS rfl rfl)) ?_
     refine wl_e rfl ?_; intro K hK
     refine ow_call Try.func21 rfl rfl (evs_cons (tmS rfl rfl) <| evs_nil) (hrs _ (viewV hS.ok 4 rfl)) ?_
     rintro e w ⟨rfl, hk⟩
     refine ⟨_, rfl, ?_⟩
     replace hS := hS.kept hk
     clear hk
     refine hK _ _ ?_; clear hK K
     refine wl_v (x_assign (tmI rfl rfl)) ?_
     refine wl_nil ?_
     refine then_n (hK7 _ _ ?_); clear hK7 K7
     refine wp_seq_k ?_; intro K8 hK8
     refine wlit ?_
     refine wl_v (x_assign (ev_cN 0)) ?_
     refine wl_nil ?_
     refine then_n (hK8 _ _ ?_); clear hK8 K8
     refine wp_seq_k ?_; intro K9 hK9
     refine wp_seq_k ?_; intro K10 hK10
     refine wlit ?_
     refine wl_v (x_move (tmI rfl rfl)) ?_
     refine wl_v (x_eql (tmI rfl rfl) (ev_cN 0)) ?_
     refine wl_nil ?_
     refine then_n (hK10 _ _ ?_); clear hK10 K10
     refine cnd (tm rfl) (fun hc1 => ?_) (fun hc1 => ?_)
     · try (exfalso; first | with_reducible exact absurd hc1 Bool.false_ne_true | with_reducible exact absurd hc1.symm Bool.false_ne_true | (simp only [nrm] at hc1; omega) | (simp at hc1; done))
       all_goals
        try simp only [nrm] at hc1
        refine wlit ?_
        refine wl_v (x_assign (ev_cN 21)) ?_
        refine wl_nil ?_
        refine then_n (hK9 _ _ ?_); clear hK9 K9
        refine wp_seq_k ?_; intro K11 hK11
        refine wp_seq_k ?_; intro K12 hK12
        refine wlit ?_
        refine wl_v (x_move (tmI rfl rfl)) ?_
        refine wl_v (x_lss (tmI rfl rfl) (ev_cN 0)) ?_
        refine wl_nil ?_
        refine then_n (hK12 _ _ ?_); clear hK12 K12
        refine cnd (tm rfl) (fun hc2 => ?_) (fun hc2 => ?_)
        · try (exfalso; first | with_reducible exact absurd hc2 Bool.false_ne_true | with_reducible exact absurd hc2.symm Bool.false_ne_true | (simp only [nrm] at hc2; omega) | (simp at hc2; done))
          all_goals
           try simp only [nrm] at hc2
           refine wlit ?_
           refine wl_v (x_assign (ev_cN 20)) ?_
           refine wl_nil ?_
           refine then_n (hK11 _ _ ?_); clear hK11 K11
           refine wp_seq_k ?_; intro K13 hK13
           refine rg_startk 0 hS mixed_ ?_
           clear hS; intro w hS
           refine rg_take 0 rfl rfl (by kernel_rfl) (by kernel_rfl) (by kernel_rfl) (want_0) (fun w hok => x_move (tmS rfl rfl)) ?_
           first
            | refine rg_take 1 rfl rfl (by kernel_rfl) (by kernel_rfl) (by kernel_rfl) (want_0) (fun w hok => x_bstr Try.underlying22 Try.underlying5 Try.underlying9 (tmS rfl rfl) (viewV hok 1 rfl) (by first | assumption | exact Bytes.nil | (repeat' (first | assumption | exact Bytes.nil | exact be_bytes _ _ | apply Bytes.append | apply Bytes.take | apply Bytes.drop | apply Bytes.replicate))) (by first | rfl | assumption | (simp; done) | (simp; omega) | omega)) ?_
            | refine rg_take 1 rfl rfl (by kernel_rfl) (by kernel_rfl) (by kernel_rfl) (want_0) (fun w hok => x_bstr Try.underlying22 Try.underlying5 Try.underlying9 (tmS rfl rfl) (viewV hok 3 rfl) (by first | assumption | exact Bytes.nil | (repeat' (first | assumption | exact Bytes.nil | exact be_bytes _ _ | apply Bytes.append | apply Bytes.take | apply Bytes.drop | apply Bytes.replicate))) (by first | rfl | assumption | (simp; done) | (simp; omega) | omega)) ?_
            | refine rg_take 1 rfl rfl (by kernel_rfl) (by kernel_rfl) (by kernel_rfl) (want_0) (fun w hok => x_bstr Try.underlying22 Try.underlying5 Try.underlying9 (tmS rfl rfl) (viewV hok 4 rfl) (by first | assumption | exact Bytes.nil | (repeat' (first | assumption | exact Bytes.nil | exact be_bytes _ _ | apply Bytes.append | apply Bytes.take | apply Bytes.drop | apply Bytes.replicate))) (by first | rfl | assumption | (simp; done) | (simp; omega) | omega)) ?_
            | refine rg_take 1 rfl rfl (by kernel_rfl) (by kernel_rfl) (by kernel_rfl) (want_0) (fun w hok => x_bstr (l := []) Try.underlying22 Try.underlying5 Try.underlying9 (tmS rfl rfl) View.nil_ (by first | assumption | exact Bytes.nil | (repeat' (first | assumption | exact Bytes.nil | exact be_bytes _ _ | apply Bytes.append | apply Bytes.take | apply Bytes.drop | apply Bytes.replicate))) (by first | rfl | assumption | (simp; done) | (simp; omega) | omega)) ?_
           refine rg_take 2 rfl rfl (by kernel_rfl) (by kernel_rfl) (by kernel_rfl) (want_0) (fun w hok => x_move (tmS rfl rfl)) ?_
           first
            | refine rg_take 3 rfl rfl (by kernel_rfl) (by kernel_rfl) (by kernel_rfl) (want_0) (fun w hok => x_bstr Try.underlying22 Try.underlying5 Try.underlying9 (tmS rfl rfl) (viewV hok 1 rfl) (by first | assumption | exact Bytes.nil | (repeat' (first | assumption | exact Bytes.nil | exact be_bytes _ _ | apply Bytes.append | apply Bytes.take | apply Bytes.drop | apply Bytes.replicate))) (by first | rfl | assumption | (simp; done) | (simp; omega) | omega)) ?_
            | refine rg_take 3 rfl rfl (by kernel_rfl) (by kernel_rfl) (by kernel_rfl) (want_0) (fun w hok => x_bstr Try.underlying22 Try.underlying5 Try.underlying9 (tmS rfl rfl) (viewV hok 3 rfl) (by first | assumption | exact Bytes.nil | (repeat' (first | assumption | exact Bytes.nil | exact be_bytes _ _ | apply Bytes.append | apply Bytes.take | apply Bytes.drop | apply Bytes.replicate))) (by first | rfl | assumption | (simp; done) | (simp; omega) | omega)) ?_
            | refine rg_take 3 rfl rfl (by kernel_rfl) (by kernel_rfl) (by kernel_rfl) (want_0) (fun w hok => x_bstr Try.underlying22 Try.underlying5 Try.underlying9 (tmS rfl rfl) (viewV hok 4 rfl) (by first | assumption | exact Bytes.nil | (repeat' (first | assumption | exact Bytes.nil | exact be_bytes _ _ | apply Bytes.append | apply Bytes.take | apply Bytes.drop | apply Bytes.replicate))) (by first | rfl | assumption | (simp; done) | (simp; omega) | omega)) ?_
            | refine rg_take 3 rfl rfl (by kernel_rfl) (by kernel_rfl) (by kernel_rfl) (want_0) (fun w hok => x_bstr (l := []) Try.underlying22 Try.underlying5 Try.underlying9 (tmS rfl rfl) View.nil_ (by first | assumption | exact Bytes.nil | (repeat' (first | assumption | exact Bytes.nil | exact be_bytes _ _ | apply Bytes.append | apply Bytes.take | apply Bytes.drop | apply Bytes.replicate))) (by first | rfl | assumption | (simp; done) | (simp; omega) | omega)) ?_
           refine rg_take 4 rfl rfl (by kernel_rfl) (by kernel_rfl) (by kernel_rfl) (want_0) (fun w hok => x_Geql (tmG rfl rfl) (tmG rfl rfl) (by first | assumption | exact Bytes.nil | (repeat' (first | assumption | exact Bytes.nil | exact be_bytes _ _ | apply Bytes.append | apply Bytes.take | apply Bytes.drop | apply Bytes.replicate))) (by first | assumption | exact Bytes.nil | (repeat' (first | assumption | exact Bytes.nil | exact be_bytes _ _ | apply Bytes.append | apply Bytes.take | apply Bytes.drop | apply Bytes.replicate)))) ?_
           refine rg_take 5 rfl rfl (by kernel_rfl) (by kernel_rfl) (by kernel_rfl) (want_0) (fun w hok => x_move (tmB rfl rfl)) ?_
           refine gs_rgs (tm (t := 45) rfl) (fun hg12_5 => ?_) (fun hg12_5 => ?_)
           · exfalso
             simp at hg12_5
           have hg12_5' := hg12_5; (try simp only [nrm] at hg12_5'); try (exfalso; first | with_reducible exact absurd hg12_5 Bool.false_ne_true | with_reducible exact absurd hg12_5.symm Bool.false_ne_true | omega | (simp at hg12_5; done))
           all_goals
            refine rg_take 6 rfl rfl (by kernel_rfl) (by kernel_rfl) (by kernel_rfl) (want_y rfl rfl rfl rfl (by rw [hg12_5]; rfl)) (fun w hok => x_loadA (cs := [_, _, _, _, _, _, _]) Try.underlying28 rfl ts_28 (tmP rfl rfl) (rangeB hok 2 rfl rfl)) ?_
            refine rg_take 7 rfl rfl (by kernel_rfl) (by kernel_rfl) (by kernel_rfl) (want_y rfl rfl rfl rfl (by rw [hg12_5]; rfl)) (fun w hok => x_loadA (cs := [_, _, _, _, _, _, _]) Try.underlying32 rfl ts_32 (tmP rfl rfl) (rangeB hok 0 rfl rfl)) ?_
            refine rg_step 8 rfl (by kernel_rfl) (want_y rfl rfl rfl rfl (by rw [hg12_5]; rfl)) (oks_drop hS 0 rfl) ?_; intro K hK
            refine ow_call Try.func22 rfl rfl (evs_cons (tmA rfl rfl) <| evs_nil) (to09_c _ _ _ _) ?_
            rintro e w ⟨rfl, hk⟩
            refine ⟨_, rfl, ?_⟩
            replace hS := hS.kept hk
            clear hk
            refine hK _ _ ?_; clear hK K
            refine rg_take 9 rfl rfl (by kernel_rfl) (by kernel_rfl) (by kernel_rfl) (want_y rfl rfl rfl rfl (by rw [hg12_5]; rfl)) (fun w hok => x_Aeql (by kernel_rfl) (tmA rfl rfl) (tmA rfl rfl) (eqv_A Try.underlying28 (by kernel_rfl) (fe_cons rfl (pt_A (cs := [_, _, _]) Try.underlying26 rfl ts_26 rfl) (pt_A (cs := [_, _, _]) Try.underlying26 rfl ts_26 rfl) (eqv_A Try.underlying26 (by kernel_rfl) (fe_cons rfl (pt_1 Try.underlying4 rfl rfl) (pt_1 Try.underlying4 rfl rfl) (eqv_b Try.underlying4) <| fe_cons rfl (pt_1 Try.underlying24 rfl rfl) (pt_1 Try.underlying24 rfl rfl) (eqv_i Try.underlying24) <| fe_cons rfl (pt_1 Try.underlying24 rfl rfl) (pt_1 Try.underlying24 rfl rfl) (eqv_i Try.underlying24) <| fe_nil)) <| fe_cons rfl (pt_A (cs := [_, _, _]) Try.underlying26 rfl ts_26 rfl) (pt_A (cs := [_, _, _]) Try.underlying26 rfl ts_26 rfl) (eqv_A Try.underlying26 (by kernel_rfl) (fe_cons rfl (pt_1 Try.underlying4 rfl rfl) (pt_1 Try.underlying4 rfl rfl) (eqv_b Try.underlying4) <| fe_cons rfl (pt_1 Try.underlying24 rfl rfl) (pt_1 Try.underlying24 rfl rfl) (eqv_i Try.underlying24) <| fe_cons rfl (pt_1 Try.underlying24 rfl rfl) (pt_1 Try.underlying24 rfl rfl) (eqv_i Try.underlying24) <| fe_nil)) <| fe_cons rfl (pt_1 Try.underlying5 rfl rfl) (pt_1 Try.underlying5 rfl rfl) (eqv_i Try.underlying5) <| fe_nil))) ?_
            refine rg_take 10 rfl rfl (by kernel_rfl) (by kernel_rfl) (by kernel_rfl) (want_0) (fun w hok => x_pickT (tmB rfl rfl) hg12_5 (tmB rfl rfl)) ?_
            refine rg_take 11 rfl rfl (by kernel_rfl) (by kernel_rfl) (by kernel_rfl) (want_0) (fun w hok => x_move (tmB rfl rfl)) ?_
            refine gs_rgs (tm (t := 51) rfl) (fun hg12_11 => ?_) (fun hg12_11 => ?_)
            · exfalso
              simp at hg12_11
            have hg12_11' := hg12_11; (try simp only [nrm] at hg12_11'); try (exfalso; first | with_reducible exact absurd hg12_11 Bool.false_ne_true | with_reducible exact absurd hg12_11.symm Bool.false_ne_true | omega | (simp at hg12_11; done))
            all_goals
             refine rg_take 12 rfl rfl (by kernel_rfl) (by kernel_rfl) (by kernel_rfl) (want_y rfl rfl rfl rfl (by rw [hg12_11]; rfl)) (fun w hok => x_move (tmI rfl rfl)) ?_
             refine rg_take 13 rfl rfl (by kernel_rfl) (by kernel_rfl) (by kernel_rfl) (want_y rfl rfl rfl rfl (by rw [hg12_11]; rfl)) (fun w hok => x_move (tmI rfl rfl)) ?_
             refine rg_take 14 rfl rfl (by kernel_rfl) (by kernel_rfl) (by kernel_rfl) (want_y rfl rfl rfl rfl (by rw [hg12_11]; rfl)) (fun w hok => x_eql (tmI rfl rfl) (tmI rfl rfl)) ?_
             refine rg_take 15 rfl rfl (by kernel_rfl) (by kernel_rfl) (by kernel_rfl) (want_0) (fun w hok => x_pickT (tmB rfl rfl) hg12_11 (tmB rfl rfl)) ?_
             refine rg_take 16 rfl rfl (by kernel_rfl) (by kernel_rfl) (by kernel_rfl) (want_0) (fun w hok => x_move (tmB rfl rfl)) ?_
             refine gs_rgs (tm (t := 56) rfl) (fun hg12_16 => ?_) (fun hg12_16 => ?_)
             · exfalso
               simp at hg12_16
             have hg12_16' := hg12_16; (try simp only [nrm] at hg12_16'); try (exfalso; first | with_reducible exact absurd hg12_16 Bool.false_ne_true | with_reducible exact absurd hg12_16.symm Bool.false_ne_true | omega | (simp at hg12_16; done))
             all_goals
              refine rg_take 17 rfl rfl (by kernel_rfl) (by kernel_rfl) (by kernel_rfl) (want_y rfl rfl rfl rfl (by rw [hg12_16]; rfl)) (fun w hok => x_move (tmB rfl rfl)) ?_
              refine rg_take 18 rfl rfl (by kernel_rfl) (by kernel_rfl) (by kernel_rfl) (want_y rfl rfl rfl rfl (by rw [hg12_16]; rfl)) (fun w hok => x_move (tmI rfl rfl)) ?_
              refine rg_take 19 rfl rfl (by kernel_rfl) (by kernel_rfl) (by kernel_rfl) (want_y rfl rfl rfl rfl (by rw [hg12_16]; rfl)) (fun w hok => x_eql (tmI rfl rfl) (ev_cN 6)) ?_
              refine rg_take 20 rfl rfl (by kernel_rfl) (by kernel_rfl) (by kernel_rfl) (want_y rfl rfl rfl rfl (by rw [hg12_16]; rfl)) (fun w hok => x_beql Try.underlying4 (tmB rfl rfl) (tmB rfl rfl)) ?_
              refine rg_take 21 rfl rfl (by kernel_rfl) (by kernel_rfl) (by kernel_rfl) (want_0) (fun w hok => x_pickT (tmB rfl rfl) hg12_16 (tmB rfl rfl)) ?_
              refine rg_take 22 rfl rfl (by kernel_rfl) (by kernel_rfl) (by kernel_rfl) (want_0) (fun w hok => x_move (tmB rfl rfl)) ?_
              refine gs_rgs (tm (t := 62) rfl) (fun hg12_22 => ?_) (fun hg12_22 => ?_)
              · exfalso
                simp at hg12_22
              have hg12_22' := hg12_22; (try simp only [nrm] at hg12_22'); try (exfalso; first | with_reducible exact absurd hg12_22 Bool.false_ne_true | with_reducible exact absurd hg12_22.symm Bool.false_ne_true | omega | (simp at hg12_22; done))
              all_goals
               refine rg_take 23 rfl rfl (by kernel_rfl) (by kernel_rfl) (by kernel_rfl) (want_y rfl rfl rfl rfl (by rw [hg12_22]; rfl)) (fun w hok => x_move (tmI rfl rfl)) ?_
               refine rg_take 24 rfl rfl (by kernel_rfl) (by kernel_rfl) (by kernel_rfl) (want_y rfl rfl rfl rfl (by rw [hg12_22]; rfl)) (fun w hok => x_move (tmI rfl rfl)) ?_
               refine rg_take 25 rfl rfl (by kernel_rfl) (by kernel_rfl) (by kernel_rfl) (want_y rfl rfl rfl rfl (by rw [hg12_22]; rfl)) (fun w hok => x_eql (tmI rfl rfl) (tmI rfl rfl)) ?_
               refine rg_take 26 rfl rfl (by kernel_rfl) (by kernel_rfl) (by kernel_rfl) (want_0) (fun w hok => x_pickT (tmB rfl rfl) hg12_22 (tmB rfl rfl)) ?_
               refine rg_take 27 rfl rfl (by kernel_rfl) (by kernel_rfl) (by kernel_rfl) (want_0) (fun w hok => x_move (tmB rfl rfl)) ?_
               refine gs_rgs (tm (t := 67) rfl) (fun hg12_27 => ?_) (fun hg12_27 => ?_)
               · exfalso
                 simp at hg12_27
                 omega
               have hg12_27' := hg12_27; (try simp only [nrm] at hg12_27'); try (exfalso; first | with_reducible exact absurd hg12_27 Bool.false_ne_true | with_reducible exact absurd hg12_27.symm Bool.false_ne_true | omega | (simp at hg12_27; done))
               all_goals
                refine rg_step 28 rfl (by kernel_rfl) (want_y rfl rfl rfl rfl (by rw [hg12_27]; rfl)) (oks_drop hS 0 rfl) ?_; intro K hK
                refine ow_call Try.func17 rfl rfl (evs_nil) (law09_awake_c _) ?_
                rintro e w ⟨rfl, hk⟩
                refine ⟨_, rfl, ?_⟩
                replace hS := hS.kept hk
                clear hk
                refine hK _ _ ?_; clear hK K
                refine rg_take 29 rfl rfl (by kernel_rfl) (by kernel_rfl) (by kernel_rfl) (want_0) (fun w hok => x_pickT (tmB rfl rfl) hg12_27 (tmB rfl rfl)) ?_
                refine rg_take 30 rfl rfl (by kernel_rfl) (by kernel_rfl) (by kernel_rfl) (want_0) (fun w hok => x_assign (tmB rfl rfl)) ?_
                refine rg_done (oks_drop hS 0 rfl) (by kernel_rfl) ?_
                refine then_n (hK13 _ _ ?_); clear hK13 K13
                refine wp_ret ?_
                refine ret1 rfl (.tmp rfl (show _ = Value.bool _ from rfl)) ?_
                exact ⟨rfl, hS.kp.below⟩
        try (exfalso; first | with_reducible exact absurd hc2 Bool.false_ne_true | with_reducible exact absurd hc2.symm Bool.false_ne_true | (simp only [nrm] at hc2; omega) | (simp at hc2; done))
        all_goals
         try simp only [nrm] at hc2
         refine wp_skip ?_
         refine then_n (hK11 _ _ ?_); clear hK11 K11
         refine wp_seq_k ?_; intro K14 hK14
         refine rg_startk 0 hS mixed_ ?_
         clear hS; intro w hS
         refine rg_take 0 rfl rfl (by kernel_rfl) (by kernel_rfl) (by kernel_rfl) (want_0) (fun w hok => x_move (tmS rfl rfl)) ?_
         first
          | refine rg_take 1 rfl rfl (by kernel_rfl) (by kernel_rfl) (by kernel_rfl) (want_0) (fun w hok => x_bstr Try.underlying22 Try.underlying5 Try.underlying9 (tmS rfl rfl) (viewV hok 1 rfl) (by first | assumption | exact Bytes.nil | (repeat' (first | assumption | exact Bytes.nil | exact be_bytes _ _ | apply Bytes.append | apply Bytes.take | apply Bytes.drop | apply Bytes.replicate))) (by first | rfl | assumption | (simp; done) | (simp; omega) | omega)) ?_
          | refine rg_take 1 rfl rfl (by kernel_rfl) (by kernel_rfl) (by kernel_rfl) (want_0) (fun w hok => x_bstr Try.underlying22 Try.underlying5 Try.underlying9 (tmS rfl rfl) (viewV hok 3 rfl) (by first | assumption | exact Bytes.nil | (repeat' (first | assumption | exact Bytes.nil | exact be_bytes _ _ | apply Bytes.append | apply Bytes.take | apply Bytes.drop | apply Bytes.replicate))) (by first | rfl | assumption | (simp; done) | (simp; omega) | omega)) ?_
          | refine rg_take 1 rfl rfl (by kernel_rfl) (by kernel_rfl) (by kernel_rfl) (want_0) (fun w hok => x_bstr Try.underlying22 Try.underlying5 Try.underlying9 (tmS rfl rfl) (viewV hok 4 rfl) (by first | assumption | exact Bytes.nil | (repeat' (first | assumption | exact Bytes.nil | exact be_bytes _ _ | apply Bytes.append | apply Bytes.take | apply Bytes.drop | apply Bytes.replicate))) (by first | rfl | assumption | (simp; done) | (simp; omega) | omega)) ?_
          | refine rg_take 1 rfl rfl (by kernel_rfl) (by kernel_rfl) (by kernel_rfl) (want_0) (fun w hok => x_bstr (l := []) Try.underlying22 Try.underlying5 Try.underlying9 (tmS rfl rfl) View.nil_ (by first | assumption | exact Bytes.nil | (repeat' (first | assumption | exact Bytes.nil | exact be_bytes _ _ | apply Bytes.append | apply Bytes.take | apply Bytes.drop | apply Bytes.replicate))) (by first | rfl | assumption | (simp; done) | (simp; omega) | omega)) ?_
         refine rg_take 2 rfl rfl (by kernel_rfl) (by kernel_rfl) (by kernel_rfl) (want_0) (fun w hok => x_move (tmS rfl rfl)) ?_
         first
          | refine rg_take 3 rfl rfl (by kernel_rfl) (by kernel_rfl) (by kernel_rfl) (want_0) (fun w hok => x_bstr Try.underlying22 Try.underlying5 Try.underlying9 (tmS rfl rfl) (viewV hok 1 rfl) (by first | assumption | exact Bytes.nil | (repeat' (first | assumption | exact Bytes.nil | exact be_bytes _ _ | apply Bytes.append | apply Bytes.take | apply Bytes.drop | apply Bytes.replicate))) (by first | rfl | assumption | (simp; done) | (simp; omega) | omega)) ?_
          | refine rg_take 3 rfl rfl (by kernel_rfl) (by kernel_rfl) (by kernel_rfl) (want_0) (fun w hok => x_bstr Try.underlying22 Try.underlying5 Try.underlying9 (tmS rfl rfl) (viewV hok 3 rfl) (by first | assumption | exact Bytes.nil | (repeat' (first | assumption | exact Bytes.nil | exact be_bytes _ _ | apply Bytes.append | apply Bytes.take | apply Bytes.drop | apply Bytes.replicate))) (by first | rfl | assumption | (simp; done) | (simp; omega) | omega)) ?_
          | refine rg_take 3 rfl rfl (by kernel_rfl) (by kernel_rfl) (by kernel_rfl) (want_0) (fun w hok => x_bstr Try.underlying22 Try.underlying5 Try.underlying9 (tmS rfl rfl) (viewV hok 4 rfl) (by first | assumption | exact Bytes.nil | (repeat' (first | assumption | exact Bytes.nil | exact be_bytes _ _ | apply Bytes.append | apply Bytes.take | apply Bytes.drop | apply Bytes.replicate))) (by first | rfl | assumption | (simp; done) | (simp; omega) | omega)) ?_
          | refine rg_take 3 rfl rfl (by kernel_rfl) (by kernel_rfl) (by kernel_rfl) (want_0) (fun w hok => x_bstr (l := []) Try.underlying22 Try.underlying5 Try.underlying9 (tmS rfl rfl) View.nil_ (by first | assumption | exact Bytes.nil | (repeat' (first | assumption | exact Bytes.nil | exact be_bytes _ _ | apply Bytes.append | apply Bytes.take | apply Bytes.drop | apply Bytes.replicate))) (by first | rfl | assumption | (simp; done) | (simp; omega) | omega)) ?_
         refine rg_take 4 rfl rfl (by kernel_rfl) (by kernel_rfl) (by kernel_rfl) (want_0) (fun w hok => x_Geql (tmG rfl rfl) (tmG rfl rfl) (by first | assumption | exact Bytes.nil | (repeat' (first | assumption | exact Bytes.nil | exact be_bytes _ _ | apply Bytes.append | apply Bytes.take | apply Bytes.drop | apply Bytes.replicate))) (by first | assumption | exact Bytes.nil | (repeat' (first | assumption | exact Bytes.nil | exact be_bytes _ _ | apply Bytes.append | apply Bytes.take | apply Bytes.drop | apply Bytes.replicate)))) ?_
         refine rg_take 5 rfl rfl (by kernel_rfl) (by kernel_rfl) (by kernel_rfl) (want_0) (fun w hok => x_move (tmB rfl rfl)) ?_
         refine gs_rgs (tm (t := 45) rfl) (fun hg12_5 => ?_) (fun hg12_5 => ?_)
         · exfalso
           simp at hg12_5
         have hg12_5' := hg12_5; (try simp only [nrm] at hg12_5'); try (exfalso; first | with_reducible exact absurd hg12_5 Bool.false_ne_true | with_reducible exact absurd hg12_5.symm Bool.false_ne_true | omega | (simp at hg12_5; done))
         all_goals
          refine rg_take 6 rfl rfl (by kernel_rfl) (by kernel_rfl) (by kernel_rfl) (want_y rfl rfl rfl rfl (by rw [hg12_5]; rfl)) (fun w hok => x_loadA (cs := [_, _, _, _, _, _, _]) Try.underlying28 rfl ts_28 (tmP rfl rfl) (rangeB hok 2 rfl rfl)) ?_
          refine rg_take 7 rfl rfl (by kernel_rfl) (by kernel_rfl) (by kernel_rfl) (want_y rfl rfl rfl rfl (by rw [hg12_5]; rfl)) (fun w hok => x_loadA (cs := [_, _, _, _, _, _, _]) Try.underlying32 rfl ts_32 (tmP rfl rfl) (rangeB hok 0 rfl rfl)) ?_
          refine rg_step 8 rfl (by kernel_rfl) (want_y rfl rfl rfl rfl (by rw [hg12_5]; rfl)) (oks_drop hS 0 rfl) ?_; intro K hK
          refine ow_call Try.func22 rfl rfl (evs_cons (tmA rfl rfl) <| evs_nil) (to09_c _ _ _ _) ?_
          rintro e w ⟨rfl, hk⟩
          refine ⟨_, rfl, ?_⟩
          replace hS := hS.kept hk
          clear hk
          refine hK _ _ ?_; clear hK K
          refine rg_take 9 rfl rfl (by kernel_rfl) (by kernel_rfl) (by kernel_rfl) (want_y rfl rfl rfl rfl (by rw [hg12_5]; rfl)) (fun w hok => x_Aeql (by kernel_rfl) (tmA rfl rfl) (tmA rfl rfl) (eqv_A Try.underlying28 (by kernel_rfl) (fe_cons rfl (pt_A (cs := [_, _, _]) Try.underlying26 rfl ts_26 rfl) (pt_A (cs := [_, _, _]) Try.underlying26 rfl ts_26 rfl) (eqv_A Try.underlying26 (by kernel_rfl) (fe_cons rfl (pt_1 Try.underlying4 rfl rfl) (pt_1 Try.underlying4 rfl rfl) (eqv_b Try.underlying4) <| fe_cons rfl (pt_1 Try.underlying24 rfl rfl) (pt_1 Try.underlying24 rfl rfl) (eqv_i Try.underlying24) <| fe_cons rfl (pt_1 Try.underlying24 rfl rfl) (pt_1 Try.underlying24 rfl rfl) (eqv_i Try.underlying24) <| fe_nil)) <| fe_cons rfl (pt_A (cs := [_, _, _]) Try.underlying26 rfl ts_26 rfl) (pt_A (cs := [_, _, _]) Try.underlying26 rfl ts_26 rfl) (eqv_A Try.underlying26 (by kernel_rfl) (fe_cons rfl (pt_1 Try.underlying4 rfl rfl) (pt_1 Try.underlying4 rfl rfl) (eqv_b Try.underlying4) <| fe_cons rfl (pt_1 Try.underlying24 rfl rfl) (pt_1 Try.underlying24 rfl rfl) (eqv_i Try.underlying24) <| fe_cons rfl (pt_1 Try.underlying24 rfl rfl) (pt_1 Try.underlying24 rfl rfl) (eqv_i Try.underlying24) <| fe_nil)) <| fe_cons rfl (pt_1 Try.underlying5 rfl rfl) (pt_1 Try.underlying5 rfl rfl) (eqv_i Try.underlying5) <| fe_nil))) ?_
          refine rg_take 10 rfl rfl (by kernel_rfl) (by kernel_rfl) (by kernel_rfl) (want_0) (fun w hok => x_pickT (tmB rfl rfl) hg12_5 (tmB rfl rfl)) ?_
          refine rg_take 11 rfl rfl (by kernel_rfl) (by kernel_rfl) (by kernel_rfl) (want_0) (fun w hok => x_move (tmB rfl rfl)) ?_
          refine gs_rgs (tm (t := 51) rfl) (fun hg12_11 => ?_) (fun hg12_11 => ?_)
          · exfalso
            simp at hg12_11
          have hg12_11' := hg12_11; (try simp only [nrm] at hg12_11'); try (exfalso; first | with_reducible exact absurd hg12_11 Bool.false_ne_true | with_reducible exact absurd hg12_11.symm Bool.false_ne_true | omega | (simp at hg12_11; done))
          all_goals
           refine rg_take 12 rfl rfl (by kernel_rfl) (by kernel_rfl) (by kernel_rfl) (want_y rfl rfl rfl rfl (by rw [hg12_11]; rfl)) (fun w hok => x_move (tmI rfl rfl)) ?_
           refine rg_take 13 rfl rfl (by kernel_rfl) (by kernel_rfl) (by kernel_rfl) (want_y rfl rfl rfl rfl (by rw [hg12_11]; rfl)) (fun w hok => x_move (tmI rfl rfl)) ?_
           refine rg_take 14 rfl rfl (by kernel_rfl) (by kernel_rfl) (by kernel_rfl) (want_y rfl rfl rfl rfl (by rw [hg12_11]; rfl)) (fun w hok => x_eql (tmI rfl rfl) (tmI rfl rfl)) ?_
           refine rg_take 15 rfl rfl (by kernel_rfl) (by kernel_rfl) (by kernel_rfl) (want_0) (fun w hok => x_pickT (tmB rfl rfl) hg12_11 (tmB rfl rfl)) ?_
           refine rg_take 16 rfl rfl (by kernel_rfl) (by kernel_rfl) (by kernel_rfl) (want_0) (fun w hok => x_move (tmB rfl rfl)) ?_
           refine gs_rgs (tm (t := 56) rfl) (fun hg12_16 => ?_) (fun hg12_16 => ?_)
           · exfalso
             simp at hg12_16
           have hg12_16' := hg12_16; (try simp only [nrm] at hg12_16'); try (exfalso; first | with_reducible exact absurd hg12_16 Bool.false_ne_true | with_reducible exact absurd hg12_16.symm Bool.false_ne_true | omega | (simp at hg12_16; done))
           all_goals
            refine rg_take 17 rfl rfl (by kernel_rfl) (by kernel_rfl) (by kernel_rfl) (want_y rfl rfl rfl rfl (by rw [hg12_16]; rfl)) (fun w hok => x_move (tmB rfl rfl)) ?_
            refine rg_take 18 rfl rfl (by kernel_rfl) (by kernel_rfl) (by kernel_rfl) (want_y rfl rfl rfl rfl (by rw [hg12_16]; rfl)) (fun w hok => x_move (tmI rfl rfl)) ?_
            refine rg_take 19 rfl rfl (by kernel_rfl) (by kernel_rfl) (by kernel_rfl) (want_y rfl rfl rfl rfl (by rw [hg12_16]; rfl)) (fun w hok => x_eql (tmI rfl rfl) (ev_cN 6)) ?_
            refine rg_take 20 rfl rfl (by kernel_rfl) (by kernel_rfl) (by kernel_rfl) (want_y rfl rfl rfl rfl (by rw [hg12_16]; rfl)) (fun w hok => x_beql Try.underlying4 (tmB rfl rfl) (tmB rfl rfl)) ?_
            refine rg_take 21 rfl rfl (by kernel_rfl) (by kernel_rfl) (by kernel_rfl) (want_0) (fun w hok => x_pickT (tmB rfl rfl) hg12_16 (tmB rfl rfl)) ?_
            refine rg_take 22 rfl rfl (by kernel_rfl) (by kernel_rfl) (by kernel_rfl) (want_0) (fun w hok => x_move (tmB rfl rfl)) ?_
            refine gs_rgs (tm (t := 62) rfl) (fun hg12_22 => ?_) (fun hg12_22 => ?_)
            · exfalso
              simp at hg12_22
            have hg12_22' := hg12_22; (try simp only [nrm] at hg12_22'); try (exfalso; first | with_reducible exact absurd hg12_22 Bool.false_ne_true | with_reducible exact absurd hg12_22.symm Bool.false_ne_true | omega | (simp at hg12_22; done))
            all_goals
             refine rg_take 23 rfl rfl (by kernel_rfl) (by kernel_rfl) (by kernel_rfl) (want_y rfl rfl rfl rfl (by rw [hg12_22]; rfl)) (fun w hok => x_move (tmI rfl rfl)) ?_
             refine rg_take 24 rfl rfl (by kernel_rfl) (by kernel_rfl) (by kernel_rfl) (want_y rfl rfl rfl rfl (by rw [hg12_22]; rfl)) (fun w hok => x_move (tmI rfl rfl)) ?_
             refine rg_take 25 rfl rfl (by kernel_rfl) (by kernel_rfl) (by kernel_rfl) (want_y rfl rfl rfl rfl (by rw [hg12_22]; rfl)) (fun w hok => x_eql (tmI rfl rfl) (tmI rfl rfl)) ?_
             refine rg_take 26 rfl rfl (by kernel_rfl) (by kernel_rfl) (by kernel_rfl) (want_0) (fun w hok => x_pickT (tmB rfl rfl) hg12_22 (tmB rfl rfl)) ?_
             refine rg_take 27 rfl rfl (by kernel_rfl) (by kernel_rfl) (by kernel_rfl) (want_0) (fun w hok => x_move (tmB rfl rfl)) ?_
             refine gs_rgs (tm (t := 67) rfl) (fun hg12_27 => ?_) (fun hg12_27 => ?_)
             · exfalso
               simp at hg12_27
               omega
             have hg12_27' := hg12_27; (try simp only [nrm] at hg12_27'); try (exfalso; first | with_reducible exact absurd hg12_27 Bool.false_ne_true | with_reducible exact absurd hg12_27.symm Bool.false_ne_true | omega | (simp at hg12_27; done))
             all_goals
              refine rg_step 28 rfl (by kernel_rfl) (want_y rfl rfl rfl rfl (by rw [hg12_27]; rfl)) (oks_drop hS 0 rfl) ?_; intro K hK
              refine ow_call Try.func17 rfl rfl (evs_nil) (law09_awake_c _) ?_
              rintro e w ⟨rfl, hk⟩
              refine ⟨_, rfl, ?_⟩
              replace hS := hS.kept hk
              clear hk
              refine hK _ _ ?_; clear hK K
              refine rg_take 29 rfl rfl (by kernel_rfl) (by kernel_rfl) (by kernel_rfl) (want_0) (fun w hok => x_pickT (tmB rfl rfl) hg12_27 (tmB rfl rfl)) ?_
              refine rg_take 30 rfl rfl (by kernel_rfl) (by kernel_rfl) (by kernel_rfl) (want_0) (fun w hok => x_assign (tmB rfl rfl)) ?_
              refine rg_done (oks_drop hS 0 rfl) (by kernel_rfl) ?_
              refine then_n (hK14 _ _ ?_); clear hK14 K14
              refine wp_ret ?_
              refine ret1 rfl (.tmp rfl (show _ = Value.bool _ from rfl)) ?_
              exact ⟨rfl, hS.kp.below⟩
     try (exfalso; first | with_reducible exact absurd hc1 Bool.false_ne_true | with_reducible exact absurd hc1.symm Bool.false_ne_true | (simp only [nrm] at hc1; omega) | (simp at hc1; done))
     all_goals
      try simp only [nrm] at hc1
      refine wp_skip ?_
      refine then_n (hK9 _ _ ?_); clear hK9 K9
      refine wp_seq_k ?_; intro K15 hK15
      refine wp_seq_k ?_; intro K16 hK16
      refine wlit ?_
      refine wl_v (x_move (tmI rfl rfl)) ?_
      refine wl_v (x_lss (tmI rfl rfl) (ev_cN 0)) ?_
      refine wl_nil ?_
      refine then_n (hK16 _ _ ?_); clear hK16 K16
      refine cnd (tm rfl) (fun hc2 => ?_) (fun hc2 => ?_)
      · try (exfalso; first | with_reducible exact absurd hc2 Bool.false_ne_true | with_reducible exact absurd hc2.symm Bool.false_ne_true | (simp only [nrm] at hc2; omega) | (simp at hc2; done))
        all_goals
         try simp only [nrm] at hc2
         refine wlit ?_
         refine wl_v (x_assign (ev_cN 20)) ?_
         refine wl_nil ?_
         refine then_n (hK15 _ _ ?_); clear hK15 K15
         refine wp_seq_k ?_; intro K17 hK17
         refine rg_startk 0 hS mixed_ ?_
         clear hS; intro w hS
         refine rg_take 0 rfl rfl (by kernel_rfl) (by kernel_rfl) (by kernel_rfl) (want_0) (fun w hok => x_move (tmS rfl rfl)) ?_
         first
          | refine rg_take 1 rfl rfl (by kernel_rfl) (by kernel_rfl) (by kernel_rfl) (want_0) (fun w hok => x_bstr Try.underlying22 Try.underlying5 Try.underlying9 (tmS rfl rfl) (viewV hok 1 rfl) (by first | assumption | exact Bytes.nil | (repeat' (first | assumption | exact Bytes.nil | exact be_bytes _ _ | apply Bytes.append | apply Bytes.take | apply Bytes.drop | apply Bytes.replicate))) (by first | rfl | assumption | (simp; done) | (simp; omega) | omega)) ?_
          | refine rg_take 1 rfl rfl (by kernel_rfl) (by kernel_rfl) (by kernel_rfl) (want_0) (fun w hok => x_bstr Try.underlying22 Try.underlying5 Try.underlying9 (tmS rfl rfl) (viewV hok 3 rfl) (by first | assumption | exact Bytes.nil | (repeat' (first | assumption | exact Bytes.nil | exact be_bytes _ _ | apply Bytes.append | apply Bytes.take | apply Bytes.drop | apply Bytes.replicate))) (by first | rfl | assumption | (simp; done) | (simp; omega) | omega)) ?_
          | refine rg_take 1 rfl rfl (by kernel_rfl) (by kernel_rfl) (by kernel_rfl) (want_0) (fun w hok => x_bstr Try.underlying22 Try.underlying5 Try.underlying9 (tmS rfl rfl) (viewV hok 4 rfl) (by first | assumption | exact Bytes.nil | (repeat' (first | assumption | exact Bytes.nil | exact be_bytes _ _ | apply Bytes.append | apply Bytes.take | apply Bytes.drop | apply Bytes.replicate))) (by first | rfl | assumption | (simp; done) | (simp; omega) | omega)) ?_
          | refine rg_take 1 rfl rfl (by kernel_rfl) (by kernel_rfl) (by kernel_rfl) (want_0) (fun w hok => x_bstr (l := []) Try.underlying22 Try.underlying5 Try.underlying9 (tmS rfl rfl) View.nil_ (by first | assumption | exact Bytes.nil | (repeat' (first | assumption | exact Bytes.nil | exact be_bytes _ _ | apply Bytes.append | apply Bytes.take | apply Bytes.drop | apply Bytes.replicate))) (by first | rfl | assumption | (simp; done) | (simp; omega) | omega)) ?_
         refine rg_take 2 rfl rfl (by kernel_rfl) (by kernel_rfl) (by kernel_rfl) (want_0) (fun w hok => x_move (tmS rfl rfl)) ?_
         first
          | refine rg_take 3 rfl rfl (by kernel_rfl) (by kernel_rfl) (by kernel_rfl) (want_0) (fun w hok => x_bstr Try.underlying22 Try.underlying5 Try.underlying9 (tmS rfl rfl) (viewV hok 1 rfl) (by first | assumption | exact Bytes.nil | (repeat' (first | assumption | exact Bytes.nil | exact be_bytes _ _ | apply Bytes.append | apply Bytes.take | apply Bytes.drop | apply Bytes.replicate))) (by first | rfl | assumption | (simp; done) | (simp; omega) | omega)) ?_
          | refine rg_take 3 rfl rfl (by kernel_rfl) (by kernel_rfl) (by kernel_rfl) (want_0) (fun w hok => x_bstr Try.underlying22 Try.underlying5 Try.underlying9 (tmS rfl rfl) (viewV hok 3 rfl) (by first | assumption | exact Bytes.nil | (repeat' (first | assumption | exact Bytes.nil | exact be_bytes _ _ | apply Bytes.append | apply Bytes.take | apply Bytes.drop | apply Bytes.replicate))) (by first | rfl | assumption | (simp; done) | (simp; omega) | omega)) ?_
          | refine rg_take 3 rfl rfl (by kernel_rfl) (by kernel_rfl) (by kernel_rfl) (want_0) (fun w hok => x_bstr Try.underlying22 Try.underlying5 Try.underlying9 (tmS rfl rfl) (viewV hok 4 rfl) (by first | assumption | exact Bytes.nil | (repeat' (first | assumption | exact Bytes.nil | exact be_bytes _ _ | apply Bytes.append | apply Bytes.take | apply Bytes.drop | apply Bytes.replicate))) (by first | rfl | assumption | (simp; done) | (simp; omega) | omega)) ?_
          | refine rg_take 3 rfl rfl (by kernel_rfl) (by kernel_rfl) (by kernel_rfl) (want_0) (fun w hok => x_bstr (l := []) Try.underlying22 Try.underlying5 Try.underlying9 (tmS rfl rfl) View.nil_ (by first | assumption | exact Bytes.nil | (repeat' (first | assumption | exact Bytes.nil | exact be_bytes _ _ | apply Bytes.append | apply Bytes.take | apply Bytes.drop | apply Bytes.replicate))) (by first | rfl | assumption | (simp; done) | (simp; omega) | omega)) ?_
         refine rg_take 4 rfl rfl (by kernel_rfl) (by kernel_rfl) (by kernel_rfl) (want_0) (fun w hok => x_Geql (tmG rfl rfl) (tmG rfl rfl) (by first | assumption | exact Bytes.nil | (repeat' (first | assumption | exact Bytes.nil | exact be_bytes _ _ | apply Bytes.append | apply Bytes.take | apply Bytes.drop | apply Bytes.replicate))) (by first | assumption | exact Bytes.nil | (repeat' (first | assumption | exact Bytes.nil | exact be_bytes _ _ | apply Bytes.append | apply Bytes.take | apply Bytes.drop | apply Bytes.replicate)))) ?_
         refine rg_take 5 rfl rfl (by kernel_rfl) (by kernel_rfl) (by kernel_rfl) (want_0) (fun w hok => x_move (tmB rfl rfl)) ?_
         refine gs_rgs (tm (t := 45) rfl) (fun hg12_5 => ?_) (fun hg12_5 => ?_)
         · exfalso
           simp at hg12_5
         have hg12_5' := hg12_5; (try simp only [nrm] at hg12_5'); try (exfalso; first | with_reducible exact absurd hg12_5 Bool.false_ne_true | with_reducible exact absurd hg12_5.symm Bool.false_ne_true | omega | (simp at hg12_5; done))
         all_goals
          refine rg_take 6 rfl rfl (by kernel_rfl) (by kernel_rfl) (by kernel_rfl) (want_y rfl rfl rfl rfl (by rw [hg12_5]; rfl)) (fun w hok => x_loadA (cs := [_, _, _, _, _, _, _]) Try.underlying28 rfl ts_28 (tmP rfl rfl) (rangeB hok 2 rfl rfl)) ?_
          refine rg_take 7 rfl rfl (by kernel_rfl) (by kernel_rfl) (by kernel_rfl) (want_y rfl rfl rfl rfl (by rw [hg12_5]; rfl)) (fun w hok => x_loadA (cs := [_, _, _, _, _, _, _]) Try.underlying32 rfl ts_32 (tmP rfl rfl) (rangeB hok 0 rfl rfl)) ?_
          refine rg_step 8 rfl (by kernel_rfl) (want_y rfl rfl rfl rfl (by rw [hg12_5]; rfl)) (oks_drop hS 0 rfl) ?_; intro K hK
          refine ow_call Try.func22 rfl rfl (evs_cons (tmA rfl rfl) <| evs_nil) (to09_c _ _ _ _) ?_
          rintro e w ⟨rfl, hk⟩
          refine ⟨_, rfl, ?_⟩
          replace hS := hS.kept hk
          clear hk
          refine hK _ _ ?_; clear hK K
          refine rg_take 9 rfl rfl (by kernel_rfl) (by kernel_rfl) (by kernel_rfl) (want_y rfl rfl rfl rfl (by rw [hg12_5]; rfl)) (fun w hok => x_Aeql (by kernel_rfl) (tmA rfl rfl) (tmA rfl rfl) (eqv_A Try.underlying28 (by kernel_rfl) (fe_cons rfl (pt_A (cs := [_, _, _]) Try.underlying26 rfl ts_26 rfl) (pt_A (cs := [_, _, _]) Try.underlying26 rfl ts_26 rfl) (eqv_A Try.underlying26 (by kernel_rfl) (fe_cons rfl (pt_1 Try.underlying4 rfl rfl) (pt_1 Try.underlying4 rfl rfl) (eqv_b Try.underlying4) <| fe_cons rfl (pt_1 Try.underlying24 rfl rfl) (pt_1 Try.underlying24 rfl rfl) (eqv_i Try.underlying24) <| fe_cons rfl (pt_1 Try.underlying24 rfl rfl) (pt_1 Try.underlying24 rfl rfl) (eqv_i Try.underlying24) <| fe_nil)) <| fe_cons rfl (pt_A (cs := [_, _, _]) Try.underlying26 rfl ts_26 rfl) (pt_A (cs := [_, _, _]) Try.underlying26 rfl ts_26 rfl) (eqv_A Try.underlying26 (by kernel_rfl) (fe_cons rfl (pt_1 Try.underlying4 rfl rfl) (pt_1 Try.underlying4 rfl rfl) (eqv_b Try.underlying4) <| fe_cons rfl (pt_1 Try.underlying24 rfl rfl) (pt_1 Try.underlying24 rfl rfl) (eqv_i Try.underlying24) <| fe_cons rfl (pt_1 Try.underlying24 rfl rfl) (pt_1 Try.underlying24 rfl rfl) (eqv_i Try.underlying24) <| fe_nil)) <| fe_cons rfl (pt_1 Try.underlying5 rfl rfl) (pt_1 Try.underlying5 rfl rfl) (eqv_i Try.underlying5) <| fe_nil))) ?_
          refine rg_take 10 rfl rfl (by kernel_rfl) (by kernel_rfl) (by kernel_rfl) (want_0) (fun w hok => x_pickT (tmB rfl rfl) hg12_5 (tmB rfl rfl)) ?_
          refine rg_take 11 rfl rfl (by kernel_rfl) (by kernel_rfl) (by kernel_rfl) (want_0) (fun w hok => x_move (tmB rfl rfl)) ?_
          refine gs_rgs (tm (t := 51) rfl) (fun hg12_11 => ?_) (fun hg12_11 => ?_)
          · exfalso
            simp at hg12_11
          have hg12_11' := hg12_11; (try simp only [nrm] at hg12_11'); try (exfalso; first | with_reducible exact absurd hg12_11 Bool.false_ne_true | with_reducible exact absurd hg12_11.symm Bool.false_ne_true | omega | (simp at hg12_11; done))
          all_goals
           refine rg_take 12 rfl rfl (by kernel_rfl) (by kernel_rfl) (by kernel_rfl) (want_y rfl rfl rfl rfl (by rw [hg12_11]; rfl)) (fun w hok => x_move (tmI rfl rfl)) ?_
           refine rg_take 13 rfl rfl (by kernel_rfl) (by kernel_rfl) (by kernel_rfl) (want_y rfl rfl rfl rfl (by rw [hg12_11]; rfl)) (fun w hok => x_move (tmI rfl rfl)) ?_
           refine rg_take 14 rfl rfl (by kernel_rfl) (by kernel_rfl) (by kernel_rfl) (want_y rfl rfl rfl rfl (by rw [hg12_11]; rfl)) (fun w hok => x_eql (tmI rfl rfl) (tmI rfl rfl)) ?_
           refine rg_take 15 rfl rfl (by kernel_rfl) (by kernel_rfl) (by kernel_rfl) (want_0) (fun w hok => x_pickT (tmB rfl rfl) hg12_11 (tmB rfl rfl)) ?_
           refine rg_take 16 rfl rfl (by kernel_rfl) (by kernel_rfl) (by kernel_rfl) (want_0) (fun w hok => x_move (tmB rfl rfl)) ?_
           refine gs_rgs (tm (t := 56) rfl) (fun hg12_16 => ?_) (fun hg12_16 => ?_)
           · exfalso
             simp at hg12_16
           have hg12_16' := hg12_16; (try simp only [nrm] at hg12_16'); try (exfalso; first | with_reducible exact absurd hg12_16 Bool.false_ne_true | with_reducible exact absurd hg12_16.symm Bool.false_ne_true | omega | (simp at hg12_16; done))
           all_goals
            refine rg_take 17 rfl rfl (by kernel_rfl) (by kernel_rfl) (by kernel_rfl) (want_y rfl rfl rfl rfl (by rw [hg12_16]; rfl)) (fun w hok => x_move (tmB rfl rfl)) ?_
            refine rg_take 18 rfl rfl (by kernel_rfl) (by kernel_rfl) (by kernel_rfl) (want_y rfl rfl rfl rfl (by rw [hg12_16]; rfl)) (fun w hok => x_move (tmI rfl rfl)) ?_
            refine rg_take 19 rfl rfl (by kernel_rfl) (by kernel_rfl) (by kernel_rfl) (want_y rfl rfl rfl rfl (by rw [hg12_16]; rfl)) (fun w hok => x_eql (tmI rfl rfl) (ev_cN 6)) ?_
            refine rg_take 20 rfl rfl (by kernel_rfl) (by kernel_rfl) (by kernel_rfl) (want_y rfl rfl rfl rfl (by rw [hg12_16]; rfl)) (fun w hok => x_beql Try.underlying4 (tmB rfl rfl) (tmB rfl rfl)) ?_
            refine rg_take 21 rfl rfl (by kernel_rfl) (by kernel_rfl) (by kernel_rfl) (want_0) (fun w hok => x_pickT (tmB rfl rfl) hg12_16 (tmB rfl rfl)) ?_
            refine rg_take 22 rfl rfl (by kernel_rfl) (by kernel_rfl) (by kernel_rfl) (want_0) (fun w hok => x_move (tmB rfl rfl)) ?_
            refine gs_rgs (tm (t := 62) rfl) (fun hg12_22 => ?_) (fun hg12_22 => ?_)
            · exfalso
              simp at hg12_22
            have hg12_22' := hg12_22; (try simp only [nrm] at hg12_22'); try (exfalso; first | with_reducible exact absurd hg12_22 Bool.false_ne_true | with_reducible exact absurd hg12_22.symm Bool.false_ne_true | omega | (simp at hg12_22; done))
            all_goals
             refine rg_take 23 rfl rfl (by kernel_rfl) (by kernel_rfl) (by kernel_rfl) (want_y rfl rfl rfl rfl (by rw [hg12_22]; rfl)) (fun w hok => x_move (tmI rfl rfl)) ?_
             refine rg_take 24 rfl rfl (by kernel_rfl) (by kernel_rfl) (by kernel_rfl) (want_y rfl rfl rfl rfl (by rw [hg12_22]; rfl)) (fun w hok => x_move (tmI rfl rfl)) ?_
             refine rg_take 25 rfl rfl (by kernel_rfl) (by kernel_rfl) (by kernel_rfl) (want_y rfl rfl rfl rfl (by rw [hg12_22]; rfl)) (fun w hok => x_eql (tmI rfl rfl) (tmI rfl rfl)) ?_
             refine rg_take 26 rfl rfl (by kernel_rfl) (by kernel_rfl) (by kernel_rfl) (want_0) (fun w hok => x_pickT (tmB rfl rfl) hg12_22 (tmB rfl rfl)) ?_
             refine rg_take 27 rfl rfl (by kernel_rfl) (by kernel_rfl) (by kernel_rfl) (want_0) (fun w hok => x_move (tmB rfl rfl)) ?_
             refine gs_rgs (tm (t := 67) rfl) (fun hg12_27 => ?_) (fun hg12_27 => ?_)
             · exfalso
               simp at hg12_27
               omega
             have hg12_27' := hg12_27; (try simp only [nrm] at hg12_27'); try (exfalso; first | with_reducible exact absurd hg12_27 Bool.false_ne_true | with_reducible exact absurd hg12_27.symm Bool.false_ne_true | omega | (simp at hg12_27; done))
             all_goals
              refine rg_step 28 rfl (by kernel_rfl) (want_y rfl rfl rfl rfl (by rw [hg12_27]; rfl)) (oks_drop hS 0 rfl) ?_; intro K hK
              refine ow_call Try.func17 rfl rfl (evs_nil) (law09_awake_c _) ?_
              rintro e w ⟨rfl, hk⟩
              refine ⟨_, rfl, ?_⟩
              replace hS := hS.kept hk
              clear hk
              refine hK _ _ ?_; clear hK K
              refine rg_take 29 rfl rfl (by kernel_rfl) (by kernel_rfl) (by kernel_rfl) (want_0) (fun w hok => x_pickT (tmB rfl rfl) hg12_27 (tmB rfl rfl)) ?_
              refine rg_take 30 rfl rfl (by kernel_rfl) (by kernel_rfl) (by kernel_rfl) (want_0) (fun w hok => x_assign (tmB rfl rfl)) ?_
              refine rg_done (oks_drop hS 0 rfl) (by kernel_rfl) ?_
              refine then_n (hK17 _ _ ?_); clear hK17 K17
              refine wp_ret ?_
              refine ret1 rfl (.tmp rfl (show _ = Value.bool _ from rfl)) ?_
              exact ⟨rfl, hS.kp.below⟩
      try (exfalso; first | with_reducible exact absurd hc2 Bool.false_ne_true | with_reducible exact absurd hc2.symm Bool.false_ne_true | (simp only [nrm] at hc2; omega) | (simp at hc2; done))
      all_goals
       try simp only [nrm] at hc2
       refine wp_skip ?_
       refine then_n (hK15 _ _ ?_); clear hK15 K15
       refine wp_seq_k ?_; intro K18 hK18
       refine rg_startk 0 hS mixed_ ?_
       clear hS; intro w hS
       refine rg_take 0 rfl rfl (by kernel_rfl) (by kernel_rfl) (by kernel_rfl) (want_0) (fun w hok => x_move (tmS rfl rfl)) ?_
       first
        | refine rg_take 1 rfl rfl (by kernel_rfl) (by kernel_rfl) (by kernel_rfl) (want_0) (fun w hok => x_bstr Try.underlying22 Try.underlying5 Try.underlying9 (tmS rfl rfl) (viewV hok 1 rfl) (by first | assumption | exact Bytes.nil | (repeat' (first | assumption | exact Bytes.nil | exact be_bytes _ _ | apply Bytes.append | apply Bytes.take | apply Bytes.drop | apply Bytes.replicate))) (by first | rfl | assumption | (simp; done) | (simp; omega) | omega)) ?_
        | refine rg_take 1 rfl rfl (by kernel_rfl) (by kernel_rfl) (by kernel_rfl) (want_0) (fun w hok => x_bstr Try.underlying22 Try.underlying5 Try.underlying9 (tmS rfl rfl) (viewV hok 3 rfl) (by first | assumption | exact Bytes.nil | (repeat' (first | assumption | exact Bytes.nil | exact be_bytes _ _ | apply Bytes.append | apply Bytes.take | apply Bytes.drop | apply Bytes.replicate))) (by first | rfl | assumption | (simp; done) | (simp; omega) | omega)) ?_
        | refine rg_take 1 rfl rfl (by kernel_rfl) (by kernel_rfl) (by kernel_rfl) (want_0) (fun w hok => x_bstr Try.underlying22 Try.underlying5 Try.underlying9 (tmS rfl rfl) (viewV hok 4 rfl) (by first | assumption | exact Bytes.nil | (repeat' (first | assumption | exact Bytes.nil | exact be_bytes _ _ | apply Bytes.append | apply Bytes.take | apply Bytes.drop | apply Bytes.replicate))) (by first | rfl | assumption | (simp; done) | (simp; omega) | omega)) ?_
        | refine rg_take 1 rfl rfl (by kernel_rfl) (by kernel_rfl) (by kernel_rfl) (want_0) (fun w hok => x_bstr (l := []) Try.underlying22 Try.underlying5 Try.underlying9 (tmS rfl rfl) View.nil_ (by first | assumption | exact Bytes.nil | (repeat' (first | assumption | exact Bytes.nil | exact be_bytes _ _ | apply Bytes.append | apply Bytes.take | apply Bytes.drop | apply Bytes.replicate))) (by first | rfl | assumption | (simp; done) | (simp; omega) | omega)) ?_
       refine rg_take 2 rfl rfl (by kernel_rfl) (by kernel_rfl) (by kernel_rfl) (want_0) (fun w hok => x_move (tmS rfl rfl)) ?_
       first
        | refine rg_take 3 rfl rfl (by kernel_rfl) (by kernel_rfl) (by kernel_rfl) (want_0) (fun w hok => x_bstr Try.underlying22 Try.underlying5 Try.underlying9 (tmS rfl rfl) (viewV hok 1 rfl) (by first | assumption | exact Bytes.nil | (repeat' (first | assumption | exact Bytes.nil | exact be_bytes _ _ | apply Bytes.append | apply Bytes.take | apply Bytes.drop | apply Bytes.replicate))) (by first | rfl | assumption | (simp; done) | (simp; omega) | omega)) ?_
        | refine rg_take 3 rfl rfl (by kernel_rfl) (by kernel_rfl) (by kernel_rfl) (want_0) (fun w hok => x_bstr Try.underlying22 Try.underlying5 Try.underlying9 (tmS rfl rfl) (viewV hok 3 rfl) (by first | assumption | exact Bytes.nil | (repeat' (first | assumption | exact Bytes.nil | exact be_bytes _ _ | apply Bytes.append | apply Bytes.take | apply Bytes.drop | apply Bytes.replicate))) (by first | rfl | assumption | (simp; done) | (simp; omega) | omega)) ?_
        | refine rg_take 3 rfl rfl (by kernel_rfl) (by kernel_rfl) (by kernel_rfl) (want_0) (fun w hok => x_bstr Try.underlying22 Try.underlying5 Try.underlying9 (tmS rfl rfl) (viewV hok 4 rfl) (by first | assumption | exact Bytes.nil | (repeat' (first | assumption | exact Bytes.nil | exact be_bytes _ _ | apply Bytes.append | apply Bytes.take | apply Bytes.drop | apply Bytes.replicate))) (by first | rfl | assumption | (simp; done) | (simp; omega) | omega)) ?_
        | refine rg_take 3 rfl rfl (by kernel_rfl) (by kernel_rfl) (by kernel_rfl) (want_0) (fun w hok => x_bstr (l := []) Try.underlying22 Try.underlying5 Try.underlying9 (tmS rfl rfl) View.nil_ (by first | assumption | exact Bytes.nil | (repeat' (first | assumption | exact Bytes.nil | exact be_bytes _ _ | apply Bytes.append | apply Bytes.take | apply Bytes.drop | apply Bytes.replicate))) (by first | rfl | assumption | (simp; done) | (simp; omega) | omega)) ?_
       refine rg_take 4 rfl rfl (by kernel_rfl) (by kernel_rfl) (by kernel_rfl) (want_0) (fun w hok => x_Geql (tmG rfl rfl) (tmG rfl rfl) (by first | assumption | exact Bytes.nil | (repeat' (first | assumption | exact Bytes.nil | exact be_bytes _ _ | apply Bytes.append | apply Bytes.take | apply Bytes.drop | apply Bytes.replicate))) (by first | assumption | exact Bytes.nil | (repeat' (first | assumption | exact Bytes.nil | exact be_bytes _ _ | apply Bytes.append | apply Bytes.take | apply Bytes.drop | apply Bytes.replicate)))) ?_
       refine rg_take 5 rfl rfl (by kernel_rfl) (by kernel_rfl) (by kernel_rfl) (want_0) (fun w hok => x_move (tmB rfl rfl)) ?_
       refine gs_rgs (tm (t := 45) rfl) (fun hg12_5 => ?_) (fun hg12_5 => ?_)
       · exfalso
         simp at hg12_5
       have hg12_5' := hg12_5; (try simp only [nrm] at hg12_5'); try (exfalso; first | with_reducible exact absurd hg12_5 Bool.false_ne_true | with_reducible exact absurd hg12_5.symm Bool.false_ne_true | omega | (simp at hg12_5; done))
       all_goals
        refine rg_take 6 rfl rfl (by kernel_rfl) (by kernel_rfl) (by kernel_rfl) (want_y rfl rfl rfl rfl (by rw [hg12_5]; rfl)) (fun w hok => x_loadA (cs := [_, _, _, _, _, _, _]) Try.underlying28 rfl ts_28 (tmP rfl rfl) (rangeB hok 2 rfl rfl)) ?_
        refine rg_take 7 rfl rfl (by kernel_rfl) (by kernel_rfl) (by kernel_rfl) (want_y rfl rfl rfl rfl (by rw [hg12_5]; rfl)) (fun w hok => x_loadA (cs := [_, _, _, _, _, _, _]) Try.underlying32 rfl ts_32 (tmP rfl rfl) (rangeB hok 0 rfl rfl)) ?_
        refine rg_step 8 rfl (by kernel_rfl) (want_y rfl rfl rfl rfl (by rw [hg12_5]; rfl)) (oks_drop hS 0 rfl) ?_; intro K hK
        refine ow_call Try.func22 rfl rfl (evs_cons (tmA rfl rfl) <| evs_nil) (to09_c _ _ _ _) ?_
        rintro e w ⟨rfl, hk⟩
        refine ⟨_, rfl, ?_⟩
        replace hS := hS.kept hk
        clear hk
        refine hK _ _ ?_; clear hK K
        refine rg_take 9 rfl rfl (by kernel_rfl) (by kernel_rfl) (by kernel_rfl) (want_y rfl rfl rfl rfl (by rw [hg12_5]; rfl)) (fun w hok => x_Aeql (by kernel_rfl) (tmA rfl rfl) (tmA rfl rfl) (eqv_A Try.underlying28 (by kernel_rfl) (fe_cons rfl (pt_A (cs := [_, _, _]) Try.underlying26 rfl ts_26 rfl) (pt_A (cs := [_, _, _]) Try.underlying26 rfl ts_26 rfl) (eqv_A Try.underlying26 (by kernel_rfl) (fe_cons rfl (pt_1 Try.underlying4 rfl rfl) (pt_1 Try.underlying4 rfl rfl) (eqv_b Try.underlying4) <| fe_cons rfl (pt_1 Try.underlying24 rfl rfl) (pt_1 Try.underlying24 rfl rfl) (eqv_i Try.underlying24) <| fe_cons rfl (pt_1 Try.underlying24 rfl rfl) (pt_1 Try.underlying24 rfl rfl) (eqv_i Try.underlying24) <| fe_nil)) <| fe_cons rfl (pt_A (cs := [_, _, _]) Try.underlying26 rfl ts_26 rfl) (pt_A (cs := [_, _, _]) Try.underlying26 rfl ts_26 rfl) (eqv_A Try.underlying26 (by kernel_rfl) (fe_cons rfl (pt_1 Try.underlying4 rfl rfl) (pt_1 Try.underlying4 rfl rfl) (eqv_b Try.underlying4) <| fe_cons rfl (pt_1 Try.underlying24 rfl rfl) (pt_1 Try.underlying24 rfl rfl) (eqv_i Try.underlying24) <| fe_cons rfl (pt_1 Try.underlying24 rfl rfl) (pt_1 Try.underlying24 rfl rfl) (eqv_i Try.underlying24) <| fe_nil)) <| fe_cons rfl (pt_1 Try.underlying5 rfl rfl) (pt_1 Try.underlying5 rfl rfl) (eqv_i Try.underlying5) <| fe_nil))) ?_
        refine rg_take 10 rfl rfl (by kernel_rfl) (by kernel_rfl) (by kernel_rfl) (want_0) (fun w hok => x_pickT (tmB rfl rfl) hg12_5 (tmB rfl rfl)) ?_
        refine rg_take 11 rfl rfl (by kernel_rfl) (by kernel_rfl) (by kernel_rfl) (want_0) (fun w hok => x_move (tmB rfl rfl)) ?_
        refine gs_rgs (tm (t := 51) rfl) (fun hg12_11 => ?_) (fun hg12_11 => ?_)
        · exfalso
          simp at hg12_11
        have hg12_11' := hg12_11; (try simp only [nrm] at hg12_11'); try (exfalso; first | with_reducible exact absurd hg12_11 Bool.false_ne_true | with_reducible exact absurd hg12_11.symm Bool.false_ne_true | omega | (simp at hg12_11; done))
        all_goals
         refine rg_take 12 rfl rfl (by kernel_rfl) (by kernel_rfl) (by kernel_rfl) (want_y rfl rfl rfl rfl (by rw [hg12_11]; rfl)) (fun w hok => x_move (tmI rfl rfl)) ?_
         refine rg_take 13 rfl rfl (by kernel_rfl) (by kernel_rfl) (by kernel_rfl) (want_y rfl rfl rfl rfl (by rw [hg12_11]; rfl)) (fun w hok => x_move (tmI rfl rfl)) ?_
         refine rg_take 14 rfl rfl (by kernel_rfl) (by kernel_rfl) (by kernel_rfl) (want_y rfl rfl rfl rfl (by rw [hg12_11]; rfl)) (fun w hok => x_eql (tmI rfl rfl) (tmI rfl rfl)) ?_
         refine rg_take 15 rfl rfl (by kernel_rfl) (by kernel_rfl) (by kernel_rfl) (want_0) (fun w hok => x_pickT (tmB rfl rfl) hg12_11 (tmB rfl rfl)) ?_
         refine rg_take 16 rfl rfl (by kernel_rfl) (by kernel_rfl) (by kernel_rfl) (want_0) (fun w hok => x_move (tmB rfl rfl)) ?_
         refine gs_rgs (tm (t := 56) rfl) (fun hg12_16 => ?_) (fun hg12_16 => ?_)
         · exfalso
           simp at hg12_16
         have hg12_16' := hg12_16; (try simp only [nrm] at hg12_16'); try (exfalso; first | with_reducible exact absurd hg12_16 Bool.false_ne_true | with_reducible exact absurd hg12_16.symm Bool.false_ne_true | omega | (simp at hg12_16; done))
         all_goals
          refine rg_take 17 rfl rfl (by kernel_rfl) (by kernel_rfl) (by kernel_rfl) (want_y rfl rfl rfl rfl (by rw [hg12_16]; rfl)) (fun w hok => x_move (tmB rfl rfl)) ?_
          refine rg_take 18 rfl rfl (by kernel_rfl) (by kernel_rfl) (by kernel_rfl) (want_y rfl rfl rfl rfl (by rw [hg12_16]; rfl)) (fun w hok => x_move (tmI rfl rfl)) ?_
          refine rg_take 19 rfl rfl (by kernel_rfl) (by kernel_rfl) (by kernel_rfl) (want_y rfl rfl rfl rfl (by rw [hg12_16]; rfl)) (fun w hok => x_eql (tmI rfl rfl) (ev_cN 6)) ?_
          refine rg_take 20 rfl rfl (by kernel_rfl) (by kernel_rfl) (by kernel_rfl) (want_y rfl rfl rfl rfl (by rw [hg12_16]; rfl)) (fun w hok => x_beql Try.underlying4 (tmB rfl rfl) (tmB rfl rfl)) ?_
          refine rg_take 21 rfl rfl (by kernel_rfl) (by kernel_rfl) (by kernel_rfl) (want_0) (fun w hok => x_pickT (tmB rfl rfl) hg12_16 (tmB rfl rfl)) ?_
          refine rg_take 22 rfl rfl (by kernel_rfl) (by kernel_rfl) (by kernel_rfl) (want_0) (fun w hok => x_move (tmB rfl rfl)) ?_
          refine gs_rgs (tm (t := 62) rfl) (fun hg12_22 => ?_) (fun hg12_22 => ?_)
          · exfalso
            simp at hg12_22
          have hg12_22' := hg12_22; (try simp only [nrm] at hg12_22'); try (exfalso; first | with_reducible exact absurd hg12_22 Bool.false_ne_true | with_reducible exact absurd hg12_22.symm Bool.false_ne_true | omega | (simp at hg12_22; done))
          all_goals
           refine rg_take 23 rfl rfl (by kernel_rfl) (by kernel_rfl) (by kernel_rfl) (want_y rfl rfl rfl rfl (by rw [hg12_22]; rfl)) (fun w hok => x_move (tmI rfl rfl)) ?_
           refine rg_take 24 rfl rfl (by kernel_rfl) (by kernel_rfl) (by kernel_rfl) (want_y rfl rfl rfl rfl (by rw [hg12_22]; rfl)) (fun w hok => x_move (tmI rfl rfl)) ?_
           refine rg_take 25 rfl rfl (by kernel_rfl) (by kernel_rfl) (by kernel_rfl) (want_y rfl rfl rfl rfl (by rw [hg12_22]; rfl)) (fun w hok => x_eql (tmI rfl rfl) (tmI rfl rfl)) ?_
           refine rg_take 26 rfl rfl (by kernel_rfl) (by kernel_rfl) (by kernel_rfl) (want_0) (fun w hok => x_pickT (tmB rfl rfl) hg12_22 (tmB rfl rfl)) ?_
           refine rg_take 27 rfl rfl (by kernel_rfl) (by kernel_rfl) (by kernel_rfl) (want_0) (fun w hok => x_move (tmB rfl rfl)) ?_
           refine gs_rgs (tm (t := 67) rfl) (fun hg12_27 => ?_) (fun hg12_27 => ?_)
           · exfalso
             simp at hg12_27
             omega
           have hg12_27' := hg12_27; (try simp only [nrm] at hg12_27'); try (exfalso; first | with_reducible exact absurd hg12_27 Bool.false_ne_true | with_reducible exact absurd hg12_27.symm Bool.false_ne_true | omega | (simp at hg12_27; done))
           all_goals
            refine rg_step 28 rfl (by kernel_rfl) (want_y rfl rfl rfl rfl (by rw [hg12_27]; rfl)) (oks_drop hS 0 rfl) ?_; intro K hK
            refine ow_call Try.func17 rfl rfl (evs_nil) (law09_awake_c _) ?_
            rintro e w ⟨rfl, hk⟩
            refine ⟨_, rfl, ?_⟩
            replace hS := hS.kept hk
            clear hk
            refine hK _ _ ?_; clear hK K
            refine rg_take 29 rfl rfl (by kernel_rfl) (by kernel_rfl) (by kernel_rfl) (want_0) (fun w hok => x_pickT (tmB rfl rfl) hg12_27 (tmB rfl rfl)) ?_
            refine rg_take 30 rfl rfl (by kernel_rfl) (by kernel_rfl) (by kernel_rfl) (want_0) (fun w hok => x_assign (tmB rfl rfl)) ?_
            refine rg_done (oks_drop hS 0 rfl) (by kernel_rfl) ?_
            refine then_n (hK18 _ _ ?_); clear hK18 K18
            refine wp_ret ?_
            refine ret1 rfl (.tmp rfl (show _ = Value.bool _ from rfl)) ?_
            exact ⟨rfl, hS.kp.below⟩
  · have hI' : ∀ w, View w w.heap.size A (l.map u8v) → Calls Try.prog 18 #[.slice A l.length c] w fun e w' => e = .returned (.tuple #[.slice none 0 0, .agg (wayV ad0_ ad0_ 0).toArray, .int .i64 (finE er pr x : Int)]) ∧ Kp [] w w' := fun w hv => Calls.mono (hI w A c hv hc) fun e w' h => by
      rcases h with ⟨L, k, c', h, _⟩ | ⟨_, h⟩
      · exact absurd h hF
      · exact h
    have hR' : ∀ w, View w w.heap.size A (l.map u8v) → Calls Try.prog 19 #[.slice A l.length c] w fun e w' => e = .returned (.tuple #[.slice none 0 0, .agg (wayV ad0_ ad0_ 0).toArray, .int .i64 (finE er pr x : Int)]) ∧ Kp [] w w' := fun w hv => Calls.mono (hR w A c hv hc) fun e w' h => by
      rcases h with ⟨L, k, c', h, _⟩ | ⟨_, h⟩
      · exact absurd h hF
      · exact h
    clear hI hR
    generalize finE er pr x = F at *
    refine ent (n := 70) Try.func3 rfl rfl ?_
    refine wp_seq_k ?_; intro K1 hK1
    refine wlit ?_
    refine wl_v (x_assign ev_c) ?_
    refine wl_nil ?_
    refine then_n (hK1 _ _ ?_); clear hK1 K1
    refine wp_seq_k ?_; intro K2 hK2
    refine wp_seq_k ?_; intro K3 hK3
    refine wlit ?_
    refine wl_v (x_move (tmS rfl rfl)) ?_
    refine wl_v (x_len Try.underlying22 (tmS rfl rfl)) ?_
    refine wl_v (x_gtr (tmI rfl rfl) (ev_cN 3000)) ?_
    refine wl_nil ?_
    refine then_n (hK3 _ _ ?_); clear hK3 K3
    refine cnd (tm rfl) (fun hc0 => ?_) (fun hc0 => ?_)
    · exfalso
      simp only [nrm] at hc0
      omega
    try (exfalso; first | with_reducible exact absurd hc0 Bool.false_ne_true | with_reducible exact absurd hc0.symm Bool.false_ne_true | (simp only [nrm] at hc0; omega) | (simp at hc0; done))
    all_goals
     try simp only [nrm] at hc0
     refine wp_skip ?_
     refine then_n (hK2 _ _ ?_); clear hK2 K2
     refine wp_seq_k ?_; intro K4 hK4
     refine wlit ?_
     refine wl_v (x_move (tmS rfl rfl)) ?_
     refine wl_e rfl ?_; intro K hK
     refine ow_call Try.func18 rfl rfl (evs_cons (tmS rfl rfl) <| evs_nil) (hI' _ (viewV hS.ok 0 rfl)) ?_
     rintro e w ⟨rfl, hk⟩
     refine ⟨_, rfl, ?_⟩
     replace hS := hS.kept hk
     clear hk
     refine hK _ _ ?_; clear hK K
     refine wl_v (x_move (tmT rfl rfl)) ?_
     refine wl_v (x_ext (tmT rfl rfl) rfl) ?_
     refine wl_v (x_ext (tmT rfl rfl) rfl) ?_
     refine wl_v (x_ext (tmT rfl rfl) rfl) ?_
     refine wl_e rfl ?_; intro K hK
     refine ow_alloc hS tz_28 rfl ?_
     clear hS; intro g3_6 w hg3_6 hS
     refine hK _ _ ?_; clear hK K
     refine wl_v (x_assign (tmS rfl rfl)) ?_
     refine wl_e rfl ?_; intro K hK
     refine ow_storeA hS 0 rfl ts_28 (tmP rfl rfl) (tmA rfl rfl) rfl rfl rfl ?_
     clear hS; intro w hS
     try replace hS := St.nm (M' := [.blk _ _ [_, _, _, _, _, _, _], .vw _ _]) hS rfl
     refine hK _ _ ?_; clear hK K
     refine wl_v (x_assign (tmI rfl rfl)) ?_
     refine wl_nil ?_
     refine then_n (hK4 _ _ ?_); clear hK4 K4
     refine wp_seq_k ?_; intro K5 hK5
     refine wlit ?_
     refine wl_v (x_move (tmS rfl rfl)) ?_
     refine wl_e rfl ?_; intro K hK
     refine ow_call Try.func19 rfl rfl (evs_cons (tmS rfl rfl) <| evs_nil) (hR' _ (viewV hS.ok 1 rfl)) ?_
     rintro e w ⟨rfl, hk⟩
     refine ⟨_, rfl, ?_⟩
     replace hS := hS.kept hk
     clear hk
     refine hK _ _ ?_; clear hK K
     refine wl_v (x_move (tmT rfl rfl)) ?_
     refine wl_v (x_ext (tmT rfl rfl) rfl) ?_
     refine wl_v (x_ext (tmT rfl rfl) rfl) ?_
     refine wl_v (x_ext (tmT rfl rfl) rfl) ?_
     refine wl_e rfl ?_; intro K hK
     refine ow_alloc hS tz_32 rfl ?_
     clear hS; intro g4_6 w hg4_6 hS
     refine hK _ _ ?_; clear hK K
     refine wl_v (x_assign (tmS rfl rfl)) ?_
     refine wl_e rfl ?_; intro K hK
     refine ow_storeA hS 0 rfl ts_32 (tmP rfl rfl) (tmA rfl rfl) rfl rfl rfl ?_
     clear hS; intro w hS
     try replace hS := St.nm (M' := [.blk _ _ [_, _, _, _, _, _, _], .blk _ _ [_, _, _, _, _, _, _], .vw _ _]) hS rfl
     refine hK _ _ ?_; clear hK K
     refine wl_v (x_assign (tmI rfl rfl)) ?_
     refine wl_nil ?_
     refine then_n (hK5 _ _ ?_); clear hK5 K5
     refine wp_seq_k ?_; intro K6 hK6
     refine wlit ?_
     refine wl_v (x_move (tmS rfl rfl)) ?_
     refine wl_e rfl ?_; intro K hK
     refine ow_call Try.func20 rfl rfl (evs_cons (tmS rfl rfl) <| evs_nil) (hsx _ (viewV hS.ok 2 rfl)) ?_
     rintro e w ⟨rfl, hk⟩
     refine ⟨_, rfl, ?_⟩
     replace hS := hS.kept hk
     clear hk
     refine hK _ _ ?_; clear hK K
     refine wl_v (x_move (tmT rfl rfl)) ?_
     refine wl_v (x_ext (tmT rfl rfl) rfl) ?_
     refine wl_v (x_ext (tmT rfl rfl) rfl) ?_
     refine wl_v (x_assign (tmB rfl rfl)) ?_
     refine wl_v (x_assign (tmI rfl rfl)) ?_
     refine wl_nil ?_
     refine then_n (hK6 _ _ ?_); clear hK6 K6
     refine wp_seq_k ?_; intro K7 hK7
     refine wlit ?_
     refine wl_v (x_move (tmS rfl rfl)) ?_
     refine wl_e rfl ?_; intro K hK
     refine ow_call Try.func21 rfl rfl (evs_cons (tmS rfl rfl) <| evs_nil) (hrs _ (viewV hS.ok 2 rfl)) ?_
     rintro e w ⟨rfl, hk⟩
     refine ⟨_, rfl, ?_⟩
     replace hS := hS.kept hk
     clear hk
     refine hK _ _ ?_; clear hK K
     refine wl_v (x_assign (tmI rfl rfl)) ?_
     refine wl_nil ?_
     refine then_n (hK7 _ _ ?_); clear hK7 K7
     refine wp_seq_k ?_; intro K8 hK8
     refine wlit ?_
     refine wl_v (x_assign (ev_cN 0)) ?_
     refine wl_nil ?_
     refine then_n (hK8 _ _ ?_); clear hK8 K8
     refine wp_seq_k ?_; intro K9 hK9
     refine wp_seq_k ?_; intro K10 hK10
     refine wlit ?_
     refine wl_v (x_move (tmI rfl rfl)) ?_
     refine wl_v (x_eql (tmI rfl rfl) (ev_cN 0)) ?_
     refine wl_nil ?_
     refine then_n (hK10 _ _ ?_); clear hK10 K10
     refine cnd (tm rfl) (fun hc1 => ?_) (fun hc1 => ?_)
     · try (exfalso; first | with_reducible exact absurd hc1 Bool.false_ne_true | with_reducible exact absurd hc1.symm Bool.false_ne_true | (simp only [nrm] at hc1; omega) | (simp at hc1; done))
       all_goals
        try simp only [nrm] at hc1
        refine wlit ?_
        refine wl_v (x_assign (ev_cN 21)) ?_
        refine wl_nil ?_
        refine then_n (hK9 _ _ ?_); clear hK9 K9
        refine wp_seq_k ?_; intro K11 hK11
        refine wp_seq_k ?_; intro K12 hK12
        refine wlit ?_
        refine wl_v (x_move (tmI rfl rfl)) ?_
        refine wl_v (x_lss (tmI rfl rfl) (ev_cN 0)) ?_
        refine wl_nil ?_
        refine then_n (hK12 _ _ ?_); clear hK12 K12
        refine cnd (tm rfl) (fun hc2 => ?_) (fun hc2 => ?_)
        · try (exfalso; first | with_reducible exact absurd hc2 Bool.false_ne_true | with_reducible exact absurd hc2.symm Bool.false_ne_true | (simp only [nrm] at hc2; omega) | (simp at hc2; done))
          all_goals
           try simp only [nrm] at hc2
           refine wlit ?_
           refine wl_v (x_assign (ev_cN 20)) ?_
           refine wl_nil ?_
           refine then_n (hK11 _ _ ?_); clear hK11 K11
           refine wp_seq_k ?_; intro K13 hK13
           refine rg_startk 0 hS mixed_ ?_
           clear hS; intro w hS
           refine rg_take 0 rfl rfl (by kernel_rfl) (by kernel_rfl) (by kernel_rfl) (want_0) (fun w hok => x_move (tmS rfl rfl)) ?_
           first
            | refine rg_take 1 rfl rfl (by kernel_rfl) (by kernel_rfl) (by kernel_rfl) (want_0) (fun w hok => x_bstr Try.underlying22 Try.underlying5 Try.underlying9 (tmS rfl rfl) (viewV hok 2 rfl) (by first | assumption | exact Bytes.nil | (repeat' (first | assumption | exact Bytes.nil | exact be_bytes _ _ | apply Bytes.append | apply Bytes.take | apply Bytes.drop | apply Bytes.replicate))) (by first | rfl | assumption | (simp; done) | (simp; omega) | omega)) ?_
            | refine rg_take 1 rfl rfl (by kernel_rfl) (by kernel_rfl) (by kernel_rfl) (want_0) (fun w hok => x_bstr (l := []) Try.underlying22 Try.underlying5 Try.underlying9 (tmS rfl rfl) View.nil_ (by first | assumption | exact Bytes.nil | (repeat' (first | assumption | exact Bytes.nil | exact be_bytes _ _ | apply Bytes.append | apply Bytes.take | apply Bytes.drop | apply Bytes.replicate))) (by first | rfl | assumption | (simp; done) | (simp; omega) | omega)) ?_
           refine rg_take 2 rfl rfl (by kernel_rfl) (by kernel_rfl) (by kernel_rfl) (want_0) (fun w hok => x_move (tmS rfl rfl)) ?_
           first
            | refine rg_take 3 rfl rfl (by kernel_rfl) (by kernel_rfl) (by kernel_rfl) (want_0) (fun w hok => x_bstr Try.underlying22 Try.underlying5 Try.underlying9 (tmS rfl rfl) (viewV hok 2 rfl) (by first | assumption | exact Bytes.nil | (repeat' (first | assumption | exact Bytes.nil | exact be_bytes _ _ | apply Bytes.append | apply Bytes.take | apply Bytes.drop | apply Bytes.replicate))) (by first | rfl | assumption | (simp; done) | (simp; omega) | omega)) ?_
            | refine rg_take 3 rfl rfl (by kernel_rfl) (by kernel_rfl) (by kernel_rfl) (want_0) (fun w hok => x_bstr (l := []) Try.underlying22 Try.underlying5 Try.underlying9 (tmS rfl rfl) View.nil_ (by first | assumption | exact Bytes.nil | (repeat' (first | assumption | exact Bytes.nil | exact be_bytes _ _ | apply Bytes.append | apply Bytes.take | apply Bytes.drop | apply Bytes.replicate))) (by first | rfl | assumption | (simp; done) | (simp; omega) | omega)) ?_
           refine rg_take 4 rfl rfl (by kernel_rfl) (by kernel_rfl) (by kernel_rfl) (want_0) (fun w hok => x_Geql (tmG rfl rfl) (tmG rfl rfl) (by first | assumption | exact Bytes.nil | (repeat' (first | assumption | exact Bytes.nil | exact be_bytes _ _ | apply Bytes.append | apply Bytes.take | apply Bytes.drop | apply Bytes.replicate))) (by first | assumption | exact Bytes.nil | (repeat' (first | assumption | exact Bytes.nil | exact be_bytes _ _ | apply Bytes.append | apply Bytes.take | apply Bytes.drop | apply Bytes.replicate)))) ?_
           refine rg_take 5 rfl rfl (by kernel_rfl) (by kernel_rfl) (by kernel_rfl) (want_0) (fun w hok => x_move (tmB rfl rfl)) ?_
           refine gs_rgs (tm (t := 45) rfl) (fun hg12_5 => ?_) (fun hg12_5 => ?_)
           · exfalso
             simp at hg12_5
           have hg12_5' := hg12_5; (try simp only [nrm] at hg12_5'); try (exfalso; first | with_reducible exact absurd hg12_5 Bool.false_ne_true | with_reducible exact absurd hg12_5.symm Bool.false_ne_true | omega | (simp at hg12_5; done))
           all_goals
            refine rg_take 6 rfl rfl (by kernel_rfl) (by kernel_rfl) (by kernel_rfl) (want_y rfl rfl rfl rfl (by rw [hg12_5]; rfl)) (fun w hok => x_loadA (cs := [_, _, _, _, _, _, _]) Try.underlying28 rfl ts_28 (tmP rfl rfl) (rangeB hok 1 rfl rfl)) ?_
            refine rg_take 7 rfl rfl (by kernel_rfl) (by kernel_rfl) (by kernel_rfl) (want_y rfl rfl rfl rfl (by rw [hg12_5]; rfl)) (fun w hok => x_loadA (cs := [_, _, _, _, _, _, _]) Try.underlying32 rfl ts_32 (tmP rfl rfl) (rangeB hok 0 rfl rfl)) ?_
            refine rg_step 8 rfl (by kernel_rfl) (want_y rfl rfl rfl rfl (by rw [hg12_5]; rfl)) (oks_drop hS 0 rfl) ?_; intro K hK
            refine ow_call Try.func22 rfl rfl (evs_cons (tmA rfl rfl) <| evs_nil) (to09_c _ _ _ _) ?_
            rintro e w ⟨rfl, hk⟩
            refine ⟨_, rfl, ?_⟩
            replace hS := hS.kept hk
            clear hk
            refine hK _ _ ?_; clear hK K
            refine rg_take 9 rfl rfl (by kernel_rfl) (by kernel_rfl) (by kernel_rfl) (want_y rfl rfl rfl rfl (by rw [hg12_5]; rfl)) (fun w hok => x_Aeql (by kernel_rfl) (tmA rfl rfl) (tmA rfl rfl) (eqv_A Try.underlying28 (by kernel_rfl) (fe_cons rfl (pt_A (cs := [_, _, _]) Try.underlying26 rfl ts_26 rfl) (pt_A (cs := [_, _, _]) Try.underlying26 rfl ts_26 rfl) (eqv_A Try.underlying26 (by kernel_rfl) (fe_cons rfl (pt_1 Try.underlying4 rfl rfl) (pt_1 Try.underlying4 rfl rfl) (eqv_b Try.underlying4) <| fe_cons rfl (pt_1 Try.underlying24 rfl rfl) (pt_1 Try.underlying24 rfl rfl) (eqv_i Try.underlying24) <| fe_cons rfl (pt_1 Try.underlying24 rfl rfl) (pt_1 Try.underlying24 rfl rfl) (eqv_i Try.underlying24) <| fe_nil)) <| fe_cons rfl (pt_A (cs := [_, _, _]) Try.underlying26 rfl ts_26 rfl) (pt_A (cs := [_, _, _]) Try.underlying26 rfl ts_26 rfl) (eqv_A Try.underlying26 (by kernel_rfl) (fe_cons rfl (pt_1 Try.underlying4 rfl rfl) (pt_1 Try.underlying4 rfl rfl) (eqv_b Try.underlying4) <| fe_cons rfl (pt_1 Try.underlying24 rfl rfl) (pt_1 Try.underlying24 rfl rfl) (eqv_i Try.underlying24) <| fe_cons rfl (pt_1 Try.underlying24 rfl rfl) (pt_1 Try.underlying24 rfl rfl) (eqv_i Try.underlying24) <| fe_nil)) <| fe_cons rfl (pt_1 Try.underlying5 rfl rfl) (pt_1 Try.underlying5 rfl rfl) (eqv_i Try.underlying5) <| fe_nil))) ?_
            refine rg_take 10 rfl rfl (by kernel_rfl) (by kernel_rfl) (by kernel_rfl) (want_0) (fun w hok => x_pickT (tmB rfl rfl) hg12_5 (tmB rfl rfl)) ?_
            refine rg_take 11 rfl rfl (by kernel_rfl) (by kernel_rfl) (by kernel_rfl) (want_0) (fun w hok => x_move (tmB rfl rfl)) ?_
            refine gs_rgs (tm (t := 51) rfl) (fun hg12_11 => ?_) (fun hg12_11 => ?_)
            · exfalso
              simp at hg12_11
            have hg12_11' := hg12_11; (try simp only [nrm] at hg12_11'); try (exfalso; first | with_reducible exact absurd hg12_11 Bool.false_ne_true | with_reducible exact absurd hg12_11.symm Bool.false_ne_true | omega | (simp at hg12_11; done))
            all_goals
             refine rg_take 12 rfl rfl (by kernel_rfl) (by kernel_rfl) (by kernel_rfl) (want_y rfl rfl rfl rfl (by rw [hg12_11]; rfl)) (fun w hok => x_move (tmI rfl rfl)) ?_
             refine rg_take 13 rfl rfl (by kernel_rfl) (by kernel_rfl) (by kernel_rfl) (want_y rfl rfl rfl rfl (by rw [hg12_11]; rfl)) (fun w hok => x_move (tmI rfl rfl)) ?_
             refine rg_take 14 rfl rfl (by kernel_rfl) (by kernel_rfl) (by kernel_rfl) (want_y rfl rfl rfl rfl (by rw [hg12_11]; rfl)) (fun w hok => x_eql (tmI rfl rfl) (tmI rfl rfl)) ?_
             refine rg_take 15 rfl rfl (by kernel_rfl) (by kernel_rfl) (by kernel_rfl) (want_0) (fun w hok => x_pickT (tmB rfl rfl) hg12_11 (tmB rfl rfl)) ?_
             refine rg_take 16 rfl rfl (by kernel_rfl) (by kernel_rfl) (by kernel_rfl) (want_0) (fun w hok => x_move (tmB rfl rfl)) ?_
             refine gs_rgs (tm (t := 56) rfl) (fun hg12_16 => ?_) (fun hg12_16 => ?_)
             · exfalso
               simp at hg12_16
             have hg12_16' := hg12_16; (try simp only [nrm] at hg12_16'); try (exfalso; first | with_reducible exact absurd hg12_16 Bool.false_ne_true | with_reducible exact absurd hg12_16.symm Bool.false_ne_true | omega | (simp at hg12_16; done))
             all_goals
              refine rg_take 17 rfl rfl (by kernel_rfl) (by kernel_rfl) (by kernel_rfl) (want_y rfl rfl rfl rfl (by rw [hg12_16]; rfl)) (fun w hok => x_move (tmB rfl rfl)) ?_
              refine rg_take 18 rfl rfl (by kernel_rfl) (by kernel_rfl) (by kernel_rfl) (want_y rfl rfl rfl rfl (by rw [hg12_16]; rfl)) (fun w hok => x_move (tmI rfl rfl)) ?_
              refine rg_take 19 rfl rfl (by kernel_rfl) (by kernel_rfl) (by kernel_rfl) (want_y rfl rfl rfl rfl (by rw [hg12_16]; rfl)) (fun w hok => x_eql (tmI rfl rfl) (ev_cN 6)) ?_
              refine rg_take 20 rfl rfl (by kernel_rfl) (by kernel_rfl) (by kernel_rfl) (want_y rfl rfl rfl rfl (by rw [hg12_16]; rfl)) (fun w hok => x_beql Try.underlying4 (tmB rfl rfl) (tmB rfl rfl)) ?_
              refine rg_take 21 rfl rfl (by kernel_rfl) (by kernel_rfl) (by kernel_rfl) (want_0) (fun w hok => x_pickT (tmB rfl rfl) hg12_16 (tmB rfl rfl)) ?_
              refine rg_take 22 rfl rfl (by kernel_rfl) (by kernel_rfl) (by kernel_rfl) (want_0) (fun w hok => x_move (tmB rfl rfl)) ?_
              refine gs_rgs (tm (t := 62) rfl) (fun hg12_22 => ?_) (fun hg12_22 => ?_)
              · exfalso
                simp at hg12_22
              have hg12_22' := hg12_22; (try simp only [nrm] at hg12_22'); try (exfalso; first | with_reducible exact absurd hg12_22 Bool.false_ne_true | with_reducible exact absurd hg12_22.symm Bool.false_ne_true | omega | (simp at hg12_22; done))
              all_goals
               refine rg_take 23 rfl rfl (by kernel_rfl) (by kernel_rfl) (by kernel_rfl) (want_y rfl rfl rfl rfl (by rw [hg12_22]; rfl)) (fun w hok => x_move (tmI rfl rfl)) ?_
               refine rg_take 24 rfl rfl (by kernel_rfl) (by kernel_rfl) (by kernel_rfl) (want_y rfl rfl rfl rfl (by rw [hg12_22]; rfl)) (fun w hok => x_move (tmI rfl rfl)) ?_
               refine rg_take 25 rfl rfl (by kernel_rfl) (by kernel_rfl) (by kernel_rfl) (want_y rfl rfl rfl rfl (by rw [hg12_22]; rfl)) (fun w hok => x_eql (tmI rfl rfl) (tmI rfl rfl)) ?_
               refine rg_take 26 rfl rfl (by kernel_rfl) (by kernel_rfl) (by kernel_rfl) (want_0) (fun w hok => x_pickT (tmB rfl rfl) hg12_22 (tmB rfl rfl)) ?_
               refine rg_take 27 rfl rfl (by kernel_rfl) (by kernel_rfl) (by kernel_rfl) (want_0) (fun w hok => x_move (tmB rfl rfl)) ?_
               refine gs_rgs (tm (t := 67) rfl) (fun hg12_27 => ?_) (fun hg12_27 => ?_)
               · exfalso
                 simp at hg12_27
                 omega
               have hg12_27' := hg12_27; (try simp only [nrm] at hg12_27'); try (exfalso; first | with_reducible exact absurd hg12_27 Bool.false_ne_true | with_reducible exact absurd hg12_27.symm Bool.false_ne_true | omega | (simp at hg12_27; done))
               all_goals
                refine rg_step 28 rfl (by kernel_rfl) (want_y rfl rfl rfl rfl (by rw [hg12_27]; rfl)) (oks_drop hS 0 rfl) ?_; intro K hK
                refine ow_call Try.func17 rfl rfl (evs_nil) (law09_awake_c _) ?_
                rintro e w ⟨rfl, hk⟩
                refine ⟨_, rfl, ?_⟩
                replace hS := hS.kept hk
                clear hk
                refine hK _ _ ?_; clear hK K
                refine rg_take 29 rfl rfl (by kernel_rfl) (by kernel_rfl) (by kernel_rfl) (want_0) (fun w hok => x_pickT (tmB rfl rfl) hg12_27 (tmB rfl rfl)) ?_
                refine rg_take 30 rfl rfl (by kernel_rfl) (by kernel_rfl) (by kernel_rfl) (want_0) (fun w hok => x_assign (tmB rfl rfl)) ?_
                refine rg_done (oks_drop hS 0 rfl) (by kernel_rfl) ?_
                refine then_n (hK13 _ _ ?_); clear hK13 K13
                refine wp_ret ?_
                refine ret1 rfl (.tmp rfl (show _ = Value.bool _ from rfl)) ?_
                exact ⟨rfl, hS.kp.below⟩
        try (exfalso; first | with_reducible exact absurd hc2 Bool.false_ne_true | with_reducible exact absurd hc2.symm Bool.false_ne_true | (simp only [nrm] at hc2; omega) | (simp at hc2; done))
        all_goals
         try simp only [nrm] at hc2
         refine wp_skip ?_
         refine then_n (hK11 _ _ ?_); clear hK11 K11
         refine wp_seq_k ?_; intro K14 hK14
         refine rg_startk 0 hS mixed_ ?_
         clear hS; intro w hS
         refine rg_take 0 rfl rfl (by kernel_rfl) (by kernel_rfl) (by kernel_rfl) (want_0) (fun w hok => x_move (tmS rfl rfl)) ?_
         first
          | refine rg_take 1 rfl rfl (by kernel_rfl) (by kernel_rfl) (by kernel_rfl) (want_0) (fun w hok => x_bstr Try.underlying22 Try.underlying5 Try.underlying9 (tmS rfl rfl) (viewV hok 2 rfl) (by first | assumption | exact Bytes.nil | (repeat' (first | assumption | exact Bytes.nil | exact be_bytes _ _ | apply Bytes.append | apply Bytes.take | apply Bytes.drop | apply Bytes.replicate))) (by first | rfl | assumption | (simp; done) | (simp; omega) | omega)) ?_
          | refine rg_take 1 rfl rfl (by kernel_rfl) (by kernel_rfl) (by kernel_rfl) (want_0) (fun w hok => x_bstr (l := []) Try.underlying22 Try.underlying5 Try.underlying9 (tmS rfl rfl) View.nil_ (by first | assumption | exact Bytes.nil | (repeat' (first | assumption | exact Bytes.nil | exact be_bytes _ _ | apply Bytes.append | apply Bytes.take | apply Bytes.drop | apply Bytes.replicate))) (by first | rfl | assumption | (simp; done) | (simp; omega) | omega)) ?_
         refine rg_take 2 rfl rfl (by kernel_rfl) (by kernel_rfl) (by kernel_rfl) (want_0) (fun w hok => x_move (tmS rfl rfl)) ?_
         first
          | refine rg_take 3 rfl rfl (by kernel_rfl) (by kernel_rfl) (by kernel_rfl) (want_0) (fun w hok => x_bstr Try.underlying22 Try.underlying5 Try.underlying9 (tmS rfl rfl) (viewV hok 2 rfl) (by first | assumption | exact Bytes.nil | (repeat' (first | assumption | exact Bytes.nil | exact be_bytes _ _ | apply Bytes.append | apply Bytes.take | apply Bytes.drop | apply Bytes.replicate))) (by first | rfl | assumption | (simp; done) | (simp; omega) | omega)) ?_
          | refine rg_take 3 rfl rfl (by kernel_rfl) (by kernel_rfl) (by kernel_rfl) (want_0) (fun w hok => x_bstr (l := []) Try.underlying22 Try.underlying5 Try.underlying9 (tmS rfl rfl) View.nil_ (by first | assumption | exact Bytes.nil | (repeat' (first | assumption | exact Bytes.nil | exact be_bytes _ _ | apply Bytes.append | apply Bytes.take | apply Bytes.drop | apply Bytes.replicate))) (by first | rfl | assumption | (simp; done) | (simp; omega) | omega)) ?_
         refine rg_take 4 rfl rfl (by kernel_rfl) (by kernel_rfl) (by kernel_rfl) (want_0) (fun w hok => x_Geql (tmG rfl rfl) (tmG rfl rfl) (by first | assumption | exact Bytes.nil | (repeat' (first | assumption | exact Bytes.nil | exact be_bytes _ _ | apply Bytes.append | apply Bytes.take | apply Bytes.drop | apply Bytes.replicate))) (by first | assumption | exact Bytes.nil | (repeat' (first | assumption | exact Bytes.nil | exact be_bytes _ _ | apply Bytes.append | apply Bytes.take | apply Bytes.drop | apply Bytes.replicate)))) ?_
         refine rg_take 5 rfl rfl (by kernel_rfl) (by kernel_rfl) (by kernel_rfl) (want_0) (fun w hok => x_move (tmB rfl rfl)) ?_
         refine gs_rgs (tm (t := 45) rfl) (fun hg12_5 => ?_) (fun hg12_5 => ?_)
         · exfalso
           simp at hg12_5
         have hg12_5' := hg12_5; (try simp only [nrm] at hg12_5'); try (exfalso; first | with_reducible exact absurd hg12_5 Bool.false_ne_true | with_reducible exact absurd hg12_5.symm Bool.false_ne_true | omega | (simp at hg12_5; done))
         all_goals
          refine rg_take 6 rfl rfl (by kernel_rfl) (by kernel_rfl) (by kernel_rfl) (want_y rfl rfl rfl rfl (by rw [hg12_5]; rfl)) (fun w hok => x_loadA (cs := [_, _, _, _, _, _, _]) Try.underlying28 rfl ts_28 (tmP rfl rfl) (rangeB hok 1 rfl rfl)) ?_
          refine rg_take 7 rfl rfl (by kernel_rfl) (by kernel_rfl) (by kernel_rfl) (want_y rfl rfl rfl rfl (by rw [hg12_5]; rfl)) (fun w hok => x_loadA (cs := [_, _, _, _, _, _, _]) Try.underlying32 rfl ts_32 (tmP rfl rfl) (rangeB hok 0 rfl rfl)) ?_
          refine rg_step 8 rfl (by kernel_rfl) (want_y rfl rfl rfl rfl (by rw [hg12_5]; rfl)) (oks_drop hS 0 rfl) ?_; intro K hK
          refine ow_call Try.func22 rfl rfl (evs_cons (tmA rfl rfl) <| evs_nil) (to09_c _ _ _ _) ?_
          rintro e w ⟨rfl, hk⟩
          refine ⟨_, rfl, ?_⟩
          replace hS := hS.kept hk
          clear hk
          refine hK _ _ ?_; clear hK K
          refine rg_take 9 rfl rfl (by kernel_rfl) (by kernel_rfl) (by kernel_rfl) (want_y rfl rfl rfl rfl (by rw [hg12_5]; rfl)) (fun w hok => x_Aeql (by kernel_rfl) (tmA rfl rfl) (tmA rfl rfl) (eqv_A Try.underlying28 (by kernel_rfl) (fe_cons rfl (pt_A (cs := [_, _, _]) Try.underlying26 rfl ts_26 rfl) (pt_A (cs := [_, _, _]) Try.underlying26 rfl ts_26 rfl) (eqv_A Try.underlying26 (by kernel_rfl) (fe_cons rfl (pt_1 Try.underlying4 rfl rfl) (pt_1 Try.underlying4 rfl rfl) (eqv_b Try.underlying4) <| fe_cons rfl (pt_1 Try.underlying24 rfl rfl) (pt_1 Try.underlying24 rfl rfl) (eqv_i Try.underlying24) <| fe_cons rfl (pt_1 Try.underlying24 rfl rfl) (pt_1 Try.underlying24 rfl rfl) (eqv_i Try.underlying24) <| fe_nil)) <| fe_cons rfl (pt_A (cs := [_, _, _]) Try.underlying26 rfl ts_26 rfl) (pt_A (cs := [_, _, _]) Try.underlying26 rfl ts_26 rfl) (eqv_A Try.underlying26 (by kernel_rfl) (fe_cons rfl (pt_1 Try.underlying4 rfl rfl) (pt_1 Try.underlying4 rfl rfl) (eqv_b Try.underlying4) <| fe_cons rfl (pt_1 Try.underlying24 rfl rfl) (pt_1 Try.underlying24 rfl rfl) (eqv_i Try.underlying24) <| fe_cons rfl (pt_1 Try.underlying24 rfl rfl) (pt_1 Try.underlying24 rfl rfl) (eqv_i Try.underlying24) <| fe_nil)) <| fe_cons rfl (pt_1 Try.underlying5 rfl rfl) (pt_1 Try.underlying5 rfl rfl) (eqv_i Try.underlying5) <| fe_nil))) ?_
          refine rg_take 10 rfl rfl (by kernel_rfl) (by kernel_rfl) (by kernel_rfl) (want_0) (fun w hok => x_pickT (tmB rfl rfl) hg12_5 (tmB rfl rfl)) ?_
          refine rg_take 11 rfl rfl (by kernel_rfl) (by kernel_rfl) (by kernel_rfl) (want_0) (fun w hok => x_move (tmB rfl rfl)) ?_
          refine gs_rgs (tm (t := 51) rfl) (fun hg12_11 => ?_) (fun hg12_11 => ?_)
          · exfalso
            simp at hg12_11
          have hg12_11' := hg12_11; (try simp only [nrm] at hg12_11'); try (exfalso; first | with_reducible exact absurd hg12_11 Bool.false_ne_true | with_reducible exact absurd hg12_11.symm Bool.false_ne_true | omega | (simp at hg12_11; done))
          all_goals
           refine rg_take 12 rfl rfl (by kernel_rfl) (by kernel_rfl) (by kernel_rfl) (want_y rfl rfl rfl rfl (by rw [hg12_11]; rfl)) (fun w hok => x_move (tmI rfl rfl)) ?_
           refine rg_take 13 rfl rfl (by kernel_rfl) (by kernel_rfl) (by kernel_rfl) (want_y rfl rfl rfl rfl (by rw [hg12_11]; rfl)) (fun w hok => x_move (tmI rfl rfl)) ?_
           refine rg_take 14 rfl rfl (by kernel_rfl) (by kernel_rfl) (by kernel_rfl) (want_y rfl rfl rfl rfl (by rw [hg12_11]; rfl)) (fun w hok => x_eql (tmI rfl rfl) (tmI rfl rfl)) ?_
           refine rg_take 15 rfl rfl (by kernel_rfl) (by kernel_rfl) (by kernel_rfl) (want_0) (fun w hok => x_pickT (tmB rfl rfl) hg12_11 (tmB rfl rfl)) ?_
           refine rg_take 16 rfl rfl (by kernel_rfl) (by kernel_rfl) (by kernel_rfl) (want_0) (fun w hok => x_move (tmB rfl rfl)) ?_
           refine gs_rgs (tm (t := 56) rfl) (fun hg12_16 => ?_) (fun hg12_16 => ?_)
           · exfalso
             simp at hg12_16
           have hg12_16' := hg12_16; (try simp only [nrm] at hg12_16'); try (exfalso; first | with_reducible exact absurd hg12_16 Bool.false_ne_true | with_reducible exact absurd hg12_16.symm Bool.false_ne_true | omega | (simp at hg12_16; done))
           all_goals
            refine rg_take 17 rfl rfl (by kernel_rfl) (by kernel_rfl) (by kernel_rfl) (want_y rfl rfl rfl rfl (by rw [hg12_16]; rfl)) (fun w hok => x_move (tmB rfl rfl)) ?_
            refine rg_take 18 rfl rfl (by kernel_rfl) (by kernel_rfl) (by kernel_rfl) (want_y rfl rfl rfl rfl (by rw [hg12_16]; rfl)) (fun w hok => x_move (tmI rfl rfl)) ?_
            refine rg_take 19 rfl rfl (by kernel_rfl) (by kernel_rfl) (by kernel_rfl) (want_y rfl rfl rfl rfl (by rw [hg12_16]; rfl)) (fun w hok => x_eql (tmI rfl rfl) (ev_cN 6)) ?_
            refine rg_take 20 rfl rfl (by kernel_rfl) (by kernel_rfl) (by kernel_rfl) (want_y rfl rfl rfl rfl (by rw [hg12_16]; rfl)) (fun w hok => x_beql Try.underlying4 (tmB rfl rfl) (tmB rfl rfl)) ?_
            refine rg_take 21 rfl rfl (by kernel_rfl) (by kernel_rfl) (by kernel_rfl) (want_0) (fun w hok => x_pickT (tmB rfl rfl) hg12_16 (tmB rfl rfl)) ?_
            refine rg_take 22 rfl rfl (by kernel_rfl) (by kernel_rfl) (by kernel_rfl) (want_0) (fun w hok => x_move (tmB rfl rfl)) ?_
            refine gs_rgs (tm (t := 62) rfl) (fun hg12_22 => ?_) (fun hg12_22 => ?_)
            · exfalso
              simp at hg12_22
            have hg12_22' := hg12_22; (try simp only [nrm] at hg12_22'); try (exfalso; first | with_reducible exact absurd hg12_22 Bool.false_ne_true | with_reducible exact absurd hg12_22.symm Bool.false_ne_true | omega | (simp at hg12_22; done))
            all_goals
             refine rg_take 23 rfl rfl (by kernel_rfl) (by kernel_rfl) (by kernel_rfl) (want_y rfl rfl rfl rfl (by rw [hg12_22]; rfl)) (fun w hok => x_move (tmI rfl rfl)) ?_
             refine rg_take 24 rfl rfl (by kernel_rfl) (by kernel_rfl) (by kernel_rfl) (want_y rfl rfl rfl rfl (by rw [hg12_22]; rfl)) (fun w hok => x_move (tmI rfl rfl)) ?_
             refine rg_take 25 rfl rfl (by kernel_rfl) (by kernel_rfl) (by kernel_rfl) (want_y rfl rfl rfl rfl (by rw [hg12_22]; rfl)) (fun w hok => x_eql (tmI rfl rfl) (tmI rfl rfl)) ?_
             refine rg_take 26 rfl rfl (by kernel_rfl) (by kernel_rfl) (by kernel_rfl) (want_0) (fun w hok => x_pickT (tmB rfl rfl) hg12_22 (tmB rfl rfl)) ?_
             refine rg_take 27 rfl rfl (by kernel_rfl) (by kernel_rfl) (by kernel_rfl) (want_0) (fun w hok => x_move (tmB rfl rfl)) ?_
             refine gs_rgs (tm (t := 67) rfl) (fun hg12_27 => ?_) (fun hg12_27 => ?_)
             · exfalso
               simp at hg12_27
               omega
             have hg12_27' := hg12_27; (try simp only [nrm] at hg12_27'); try (exfalso; first | with_reducible exact absurd hg12_27 Bool.false_ne_true | with_reducible exact absurd hg12_27.symm Bool.false_ne_true | omega | (simp at hg12_27; done))
             all_goals
              refine rg_step 28 rfl (by kernel_rfl) (want_y rfl rfl rfl rfl (by rw [hg12_27]; rfl)) (oks_drop hS 0 rfl) ?_; intro K hK
              refine ow_call Try.func17 rfl rfl (evs_nil) (law09_awake_c _) ?_
              rintro e w ⟨rfl, hk⟩
              refine ⟨_, rfl, ?_⟩
              replace hS := hS.kept hk
              clear hk
              refine hK _ _ ?_; clear hK K
              refine rg_take 29 rfl rfl (by kernel_rfl) (by kernel_rfl) (by kernel_rfl) (want_0) (fun w hok => x_pickT (tmB rfl rfl) hg12_27 (tmB rfl rfl)) ?_
              refine rg_take 30 rfl rfl (by kernel_rfl) (by kernel_rfl) (by kernel_rfl) (want_0) (fun w hok => x_assign (tmB rfl rfl)) ?_
              refine rg_done (oks_drop hS 0 rfl) (by kernel_rfl) ?_
              refine then_n (hK14 _ _ ?_); clear hK14 K14
              refine wp_ret ?_
              refine ret1 rfl (.tmp rfl (show _ = Value.bool _ from rfl)) ?_
              exact ⟨rfl, hS.kp.below⟩
     try (exfalso; first | with_reducible exact absurd hc1 Bool.false_ne_true | with_reducible exact absurd hc1.symm Bool.false_ne_true | (simp only [nrm] at hc1; omega) | (simp at hc1; done))
     all_goals
      try simp only [nrm] at hc1
      refine wp_skip ?_
      refine then_n (hK9 _ _ ?_); clear hK9 K9
      refine wp_seq_k ?_; intro K15 hK15
      refine wp_seq_k ?_; intro K16 hK16
      refine wlit ?_
      refine wl_v (x_move (tmI rfl rfl)) ?_
      refine wl_v (x_lss (tmI rfl rfl) (ev_cN 0)) ?_
      refine wl_nil ?_
      refine then_n (hK16 _ _ ?_); clear hK16 K16
      refine cnd (tm rfl) (fun hc2 => ?_) (fun hc2 => ?_)
      · try (exfalso; first | with_reducible exact absurd hc2 Bool.false_ne_true | with_reducible exact absurd hc2.symm Bool.false_ne_true | (simp only [nrm] at hc2; omega) | (simp at hc2; done))
        all_goals
         try simp only [nrm] at hc2
         refine wlit ?_
         refine wl_v (x_assign (ev_cN 20)) ?_
         refine wl_nil ?_
         refine then_n (hK15 _ _ ?_); clear hK15 K15
         refine wp_seq_k ?_; intro K17 hK17
         refine rg_startk 0 hS mixed_ ?_
         clear hS; intro w hS
         refine rg_take 0 rfl rfl (by kernel_rfl) (by kernel_rfl) (by kernel_rfl) (want_0) (fun w hok => x_move (tmS rfl rfl)) ?_
         first
          | refine rg_take 1 rfl rfl (by kernel_rfl) (by kernel_rfl) (by kernel_rfl) (want_0) (fun w hok => x_bstr Try.underlying22 Try.underlying5 Try.underlying9 (tmS rfl rfl) (viewV hok 2 rfl) (by first | assumption | exact Bytes.nil | (repeat' (first | assumption | exact Bytes.nil | exact be_bytes _ _ | apply Bytes.append | apply Bytes.take | apply Bytes.drop | apply Bytes.replicate))) (by first | rfl | assumption | (simp; done) | (simp; omega) | omega)) ?_
          | refine rg_take 1 rfl rfl (by kernel_rfl) (by kernel_rfl) (by kernel_rfl) (want_0) (fun w hok => x_bstr (l := []) Try.underlying22 Try.underlying5 Try.underlying9 (tmS rfl rfl) View.nil_ (by first | assumption | exact Bytes.nil | (repeat' (first | assumption | exact Bytes.nil | exact be_bytes _ _ | apply Bytes.append | apply Bytes.take | apply Bytes.drop | apply Bytes.replicate))) (by first | rfl | assumption | (simp; done) | (simp; omega) | omega)) ?_
         refine rg_take 2 rfl rfl (by kernel_rfl) (by kernel_rfl) (by kernel_rfl) (want_0) (fun w hok => x_move (tmS rfl rfl)) ?_
         first
          | refine rg_take 3 rfl rfl (by kernel_rfl) (by kernel_rfl) (by kernel_rfl) (want_0) (fun w hok => x_bstr Try.underlying22 Try.underlying5 Try.underlying9 (tmS rfl rfl) (viewV hok 2 rfl) (by first | assumption | exact Bytes.nil | (repeat' (first | assumption | exact Bytes.nil | exact be_bytes _ _ | apply Bytes.append | apply Bytes.take | apply Bytes.drop | apply Bytes.replicate))) (by first | rfl | assumption | (simp; done) | (simp; omega) | omega)) ?_
          | refine rg_take 3 rfl rfl (by kernel_rfl) (by kernel_rfl) (by kernel_rfl) (want_0) (fun w hok => x_bstr (l := []) Try.underlying22 Try.underlying5 Try.underlying9 (tmS rfl rfl) View.nil_ (by first | assumption | exact Bytes.nil | (repeat' (first | assumption | exact Bytes.nil | exact be_bytes _ _ | apply Bytes.append | apply Bytes.take | apply Bytes.drop | apply Bytes.replicate))) (by first | rfl | assumption | (simp; done) | (simp; omega) | omega)) ?_
         refine rg_take 4 rfl rfl (by kernel_rfl) (by kernel_rfl) (by kernel_rfl) (want_0) (fun w hok => x_Geql (tmG rfl rfl) (tmG rfl rfl) (by first | assumption | exact Bytes.nil | (repeat' (first | assumption | exact Bytes.nil | exact be_bytes _ _ | apply Bytes.append | apply Bytes.take | apply Bytes.drop | apply Bytes.replicate))) (by first | assumption | exact Bytes.nil | (repeat' (first | assumption | exact Bytes.nil | exact be_bytes _ _ | apply Bytes.append | apply Bytes.take | apply Bytes.drop | apply Bytes.replicate)))) ?_
         refine rg_take 5 rfl rfl (by kernel_rfl) (by kernel_rfl) (by kernel_rfl) (want_0) (fun w hok => x_move (tmB rfl rfl)) ?_
         refine gs_rgs (tm (t := 45) rfl) (fun hg12_5 => ?_) (fun hg12_5 => ?_)
         · exfalso
           simp at hg12_5
         have hg12_5' := hg12_5; (try simp only [nrm] at hg12_5'); try (exfalso; first | with_reducible exact absurd hg12_5 Bool.false_ne_true | with_reducible exact absurd hg12_5.symm Bool.false_ne_true | omega | (simp at hg12_5; done))
         all_goals
          refine rg_take 6 rfl rfl (by kernel_rfl) (by kernel_rfl) (by kernel_rfl) (want_y rfl rfl rfl rfl (by rw [hg12_5]; rfl)) (fun w hok => x_loadA (cs := [_, _, _, _, _, _, _]) Try.underlying28 rfl ts_28 (tmP rfl rfl) (rangeB hok 1 rfl rfl)) ?_
          refine rg_take 7 rfl rfl (by kernel_rfl) (by kernel_rfl) (by kernel_rfl) (want_y rfl rfl rfl rfl (by rw [hg12_5]; rfl)) (fun w hok => x_loadA (cs := [_, _, _, _, _, _, _]) Try.underlying32 rfl ts_32 (tmP rfl rfl) (rangeB hok 0 rfl rfl)) ?_
          refine rg_step 8 rfl (by kernel_rfl) (want_y rfl rfl rfl rfl (by rw [hg12_5]; rfl)) (oks_drop hS 0 rfl) ?_; intro K hK
          refine ow_call Try.func22 rfl rfl (evs_cons (tmA rfl rfl) <| evs_nil) (to09_c _ _ _ _) ?_
          rintro e w ⟨rfl, hk⟩
          refine ⟨_, rfl, ?_⟩
          replace hS := hS.kept hk
          clear hk
          refine hK _ _ ?_; clear hK K
          refine rg_take 9 rfl rfl (by kernel_rfl) (by kernel_rfl) (by kernel_rfl) (want_y rfl rfl rfl rfl (by rw [hg12_5]; rfl)) (fun w hok => x_Aeql (by kernel_rfl) (tmA rfl rfl) (tmA rfl rfl) (eqv_A Try.underlying28 (by kernel_rfl) (fe_cons rfl (pt_A (cs := [_, _, _]) Try.underlying26 rfl ts_26 rfl) (pt_A (cs := [_, _, _]) Try.underlying26 rfl ts_26 rfl) (eqv_A Try.underlying26 (by kernel_rfl) (fe_cons rfl (pt_1 Try.underlying4 rfl rfl) (pt_1 Try.underlying4 rfl rfl) (eqv_b Try.underlying4) <| fe_cons rfl (pt_1 Try.underlying24 rfl rfl) (pt_1 Try.underlying24 rfl rfl) (eqv_i Try.underlying24) <| fe_cons rfl (pt_1 Try.underlying24 rfl rfl) (pt_1 Try.underlying24 rfl rfl) (eqv_i Try.underlying24) <| fe_nil)) <| fe_cons rfl (pt_A (cs := [_, _, _]) Try.underlying26 rfl ts_26 rfl) (pt_A (cs := [_, _, _]) Try.underlying26 rfl ts_26 rfl) (eqv_A Try.underlying26 (by kernel_rfl) (fe_cons rfl (pt_1 Try.underlying4 rfl rfl) (pt_1 Try.underlying4 rfl rfl) (eqv_b Try.underlying4) <| fe_cons rfl (pt_1 Try.underlying24 rfl rfl) (pt_1 Try.underlying24 rfl rfl) (eqv_i Try.underlying24) <| fe_cons rfl (pt_1 Try.underlying24 rfl rfl) (pt_1 Try.underlying24 rfl rfl) (eqv_i Try.underlying24) <| fe_nil)) <| fe_cons rfl (pt_1 Try.underlying5 rfl rfl) (pt_1 Try.underlying5 rfl rfl) (eqv_i Try.underlying5) <| fe_nil))) ?_
          refine rg_take 10 rfl rfl (by kernel_rfl) (by kernel_rfl) (by kernel_rfl) (want_0) (fun w hok => x_pickT (tmB rfl rfl) hg12_5 (tmB rfl rfl)) ?_
          refine rg_take 11 rfl rfl (by kernel_rfl) (by kernel_rfl) (by kernel_rfl) (want_0) (fun w hok => x_move (tmB rfl rfl)) ?_
          refine gs_rgs (tm (t := 51) rfl) (fun hg12_11 => ?_) (fun hg12_11 => ?_)
          · exfalso
            simp at hg12_11
          have hg12_11' := hg12_11; (try simp only [nrm] at hg12_11'); try (exfalso; first | with_reducible exact absurd hg12_11 Bool.false_ne_true | with_reducible exact absurd hg12_11.symm Bool.false_ne_true | omega | (simp at hg12_11; done))
          all_goals
           refine rg_take 12 rfl rfl (by kernel_rfl) (by kernel_rfl) (by kernel_rfl) (want_y rfl rfl rfl rfl (by rw [hg12_11]; rfl)) (fun w hok => x_move (tmI rfl rfl)) ?_
           refine rg_take 13 rfl rfl (by kernel_rfl) (by kernel_rfl) (by kernel_rfl) (want_y rfl rfl rfl rfl (by rw [hg12_11]; rfl)) (fun w hok => x_move (tmI rfl rfl)) ?_
           refine rg_take 14 rfl rfl (by kernel_rfl) (by kernel_rfl) (by kernel_rfl) (want_y rfl rfl rfl rfl (by rw [hg12_11]; rfl)) (fun w hok => x_eql (tmI rfl rfl) (tmI rfl rfl)) ?_
           refine rg_take 15 rfl rfl (by kernel_rfl) (by kernel_rfl) (by kernel_rfl) (want_0) (fun w hok => x_pickT (tmB rfl rfl) hg12_11 (tmB rfl rfl)) ?_
           refine rg_take 16 rfl rfl (by kernel_rfl) (by kernel_rfl) (by kernel_rfl) (want_0) (fun w hok => x_move (tmB rfl rfl)) ?_
           refine gs_rgs (tm (t := 56) rfl) (fun hg12_16 => ?_) (fun hg12_16 => ?_)
           · exfalso
             simp at hg12_16
           have hg12_16' := hg12_16; (try simp only [nrm] at hg12_16'); try (exfalso; first | with_reducible exact absurd hg12_16 Bool.false_ne_true | with_reducible exact absurd hg12_16.symm Bool.false_ne_true | omega | (simp at hg12_16; done))
           all_goals
            refine rg_take 17 rfl rfl (by kernel_rfl) (by kernel_rfl) (by kernel_rfl) (want_y rfl rfl rfl rfl (by rw [hg12_16]; rfl)) (fun w hok => x_move (tmB rfl rfl)) ?_
            refine rg_take 18 rfl rfl (by kernel_rfl) (by kernel_rfl) (by kernel_rfl) (want_y rfl rfl rfl rfl (by rw [hg12_16]; rfl)) (fun w hok => x_move (tmI rfl rfl)) ?_
            refine rg_take 19 rfl rfl (by kernel_rfl) (by kernel_rfl) (by kernel_rfl) (want_y rfl rfl rfl rfl (by rw [hg12_16]; rfl)) (fun w hok => x_eql (tmI rfl rfl) (ev_cN 6)) ?_
            refine rg_take 20 rfl rfl (by kernel_rfl) (by kernel_rfl) (by kernel_rfl) (want_y rfl rfl rfl rfl (by rw [hg12_16]; rfl)) (fun w hok => x_beql Try.underlying4 (tmB rfl rfl) (tmB rfl rfl)) ?_
            refine rg_take 21 rfl rfl (by kernel_rfl) (by kernel_rfl) (by kernel_rfl) (want_0) (fun w hok => x_pickT (tmB rfl rfl) hg12_16 (tmB rfl rfl)) ?_
            refine rg_take 22 rfl rfl (by kernel_rfl) (by kernel_rfl) (by kernel_rfl) (want_0) (fun w hok => x_move (tmB rfl rfl)) ?_
            refine gs_rgs (tm (t := 62) rfl) (fun hg12_22 => ?_) (fun hg12_22 => ?_)
            · exfalso
              simp at hg12_22
            have hg12_22' := hg12_22; (try simp only [nrm] at hg12_22'); try (exfalso; first | with_reducible exact absurd hg12_22 Bool.false_ne_true | with_reducible exact absurd hg12_22.symm Bool.false_ne_true | omega | (simp at hg12_22; done))
            all_goals
             refine rg_take 23 rfl rfl (by kernel_rfl) (by kernel_rfl) (by kernel_rfl) (want_y rfl rfl rfl rfl (by rw [hg12_22]; rfl)) (fun w hok => x_move (tmI rfl rfl)) ?_
             refine rg_take 24 rfl rfl (by kernel_rfl) (by kernel_rfl) (by kernel_rfl) (want_y rfl rfl rfl rfl (by rw [hg12_22]; rfl)) (fun w hok => x_move (tmI rfl rfl)) ?_
             refine rg_take 25 rfl rfl (by kernel_rfl) (by kernel_rfl) (by kernel_rfl) (want_y rfl rfl rfl rfl (by rw [hg12_22]; rfl)) (fun w hok => x_eql (tmI rfl rfl) (tmI rfl rfl)) ?_
             refine rg_take 26 rfl rfl (by kernel_rfl) (by kernel_rfl) (by kernel_rfl) (want_0) (fun w hok => x_pickT (tmB rfl rfl) hg12_22 (tmB rfl rfl)) ?_
             refine rg_take 27 rfl rfl (by kernel_rfl) (by kernel_rfl) (by kernel_rfl) (want_0) (fun w hok => x_move (tmB rfl rfl)) ?_
             refine gs_rgs (tm (t := 67) rfl) (fun hg12_27 => ?_) (fun hg12_27 => ?_)
             · exfalso
               simp at hg12_27
               omega
             have hg12_27' := hg12_27; (try simp only [nrm] at hg12_27'); try (exfalso; first | with_reducible exact absurd hg12_27 Bool.false_ne_true | with_reducible exact absurd hg12_27.symm Bool.false_ne_true | omega | (simp at hg12_27; done))
             all_goals
              refine rg_step 28 rfl (by kernel_rfl) (want_y rfl rfl rfl rfl (by rw [hg12_27]; rfl)) (oks_drop hS 0 rfl) ?_; intro K hK
              refine ow_call Try.func17 rfl rfl (evs_nil) (law09_awake_c _) ?_
              rintro e w ⟨rfl, hk⟩
              refine ⟨_, rfl, ?_⟩
              replace hS := hS.kept hk
              clear hk
              refine hK _ _ ?_; clear hK K
              refine rg_take 29 rfl rfl (by kernel_rfl) (by kernel_rfl) (by kernel_rfl) (want_0) (fun w hok => x_pickT (tmB rfl rfl) hg12_27 (tmB rfl rfl)) ?_
              refine rg_take 30 rfl rfl (by kernel_rfl) (by kernel_rfl) (by kernel_rfl) (want_0) (fun w hok => x_assign (tmB rfl rfl)) ?_
              refine rg_done (oks_drop hS 0 rfl) (by kernel_rfl) ?_
              refine then_n (hK17 _ _ ?_); clear hK17 K17
              refine wp_ret ?_
              refine ret1 rfl (.tmp rfl (show _ = Value.bool _ from rfl)) ?_
              exact ⟨rfl, hS.kp.below⟩
      try (exfalso; first | with_reducible exact absurd hc2 Bool.false_ne_true | with_reducible exact absurd hc2.symm Bool.false_ne_true | (simp only [nrm] at hc2; omega) | (simp at hc2; done))
      all_goals
       try simp only [nrm] at hc2
       refine wp_skip ?_
       refine then_n (hK15 _ _ ?_); clear hK15 K15
       refine wp_seq_k ?_; intro K18 hK18
       refine rg_startk 0 hS mixed_ ?_
       clear hS; intro w hS
       refine rg_take 0 rfl rfl (by kernel_rfl) (by kernel_rfl) (by kernel_rfl) (want_0) (fun w hok => x_move (tmS rfl rfl)) ?_
       first
        | refine rg_take 1 rfl rfl (by kernel_rfl) (by kernel_rfl) (by kernel_rfl) (want_0) (fun w hok => x_bstr Try.underlying22 Try.underlying5 Try.underlying9 (tmS rfl rfl) (viewV hok 2 rfl) (by first | assumption | exact Bytes.nil | (repeat' (first | assumption | exact Bytes.nil | exact be_bytes _ _ | apply Bytes.append | apply Bytes.take | apply Bytes.drop | apply Bytes.replicate))) (by first | rfl | assumption | (simp; done) | (simp; omega) | omega)) ?_
        | refine rg_take 1 rfl rfl (by kernel_rfl) (by kernel_rfl) (by kernel_rfl) (want_0) (fun w hok => x_bstr (l := []) Try.underlying22 Try.underlying5 Try.underlying9 (tmS rfl rfl) View.nil_ (by first | assumption | exact Bytes.nil | (repeat' (first | assumption | exact Bytes.nil | exact be_bytes _ _ | apply Bytes.append | apply Bytes.take | apply Bytes.drop | apply Bytes.replicate))) (by first | rfl | assumption | (simp; done) | (simp; omega) | omega)) ?_
       refine rg_take 2 rfl rfl (by kernel_rfl) (by kernel_rfl) (by kernel_rfl) (want_0) (fun w hok => x_move (tmS rfl rfl)) ?_
       first
        | refine rg_take 3 rfl rfl (by kernel_rfl) (by kernel_rfl) (by kernel_rfl) (want_0) (fun w hok => x_bstr Try.underlying22 Try.underlying5 Try.underlying9 (tmS rfl rfl) (viewV hok 2 rfl) (by first | assumption | exact Bytes.nil | (repeat' (first | assumption | exact Bytes.nil | exact be_bytes _ _ | apply Bytes.append | apply Bytes.take | apply Bytes.drop | apply Bytes.replicate))) (by first | rfl | assumption | (simp; done) | (simp; omega) | omega)) ?_
        | refine rg_take 3 rfl rfl (by kernel_rfl) (by kernel_rfl) (by kernel_rfl) (want_0) (fun w hok => x_bstr (l := []) Try.underlying22 Try.underlying5 Try.underlying9 (tmS rfl rfl) View.nil_ (by first | assumption | exact Bytes.nil | (repeat' (first | assumption | exact Bytes.nil | exact be_bytes _ _ | apply Bytes.append | apply Bytes.take | apply Bytes.drop | apply Bytes.replicate))) (by first | rfl | assumption | (simp; done) | (simp; omega) | omega)) ?_
       refine rg_take 4 rfl rfl (by kernel_rfl) (by kernel_rfl) (by kernel_rfl) (want_0) (fun w hok => x_Geql (tmG rfl rfl) (tmG rfl rfl) (by first | assumption | exact Bytes.nil | (repeat' (first | assumption | exact Bytes.nil | exact be_bytes _ _ | apply Bytes.append | apply Bytes.take | apply Bytes.drop | apply Bytes.replicate))) (by first | assumption | exact Bytes.nil | (repeat' (first | assumption | exact Bytes.nil | exact be_bytes _ _ | apply Bytes.append | apply Bytes.take | apply Bytes.drop | apply Bytes.replicate)))) ?_
       refine rg_take 5 rfl rfl (by kernel_rfl) (by kernel_rfl) (by kernel_rfl) (want_0) (fun w hok => x_move (tmB rfl rfl)) ?_
       refine gs_rgs (tm (t := 45) rfl) (fun hg12_5 => ?_) (fun hg12_5 => ?_)
       · exfalso
         simp at hg12_5
       have hg12_5' := hg12_5; (try simp only [nrm] at hg12_5'); try (exfalso; first | with_reducible exact absurd hg12_5 Bool.false_ne_true | with_reducible exact absurd hg12_5.symm Bool.false_ne_true | omega | (simp at hg12_5; done))
       all_goals
        refine rg_take 6 rfl rfl (by kernel_rfl) (by kernel_rfl) (by kernel_rfl) (want_y rfl rfl rfl rfl (by rw [hg12_5]; rfl)) (fun w hok => x_loadA (cs := [_, _, _, _, _, _, _]) Try.underlying28 rfl ts_28 (tmP rfl rfl) (rangeB hok 1 rfl rfl)) ?_
        refine rg_take 7 rfl rfl (by kernel_rfl) (by kernel_rfl) (by kernel_rfl) (want_y rfl rfl rfl rfl (by rw [hg12_5]; rfl)) (fun w hok => x_loadA (cs := [_, _, _, _, _, _, _]) Try.underlying32 rfl ts_32 (tmP rfl rfl) (rangeB hok 0 rfl rfl)) ?_
        refine rg_step 8 rfl (by kernel_rfl) (want_y rfl rfl rfl rfl (by rw [hg12_5]; rfl)) (oks_drop hS 0 rfl) ?_; intro K hK
        refine ow_call Try.func22 rfl rfl (evs_cons (tmA rfl rfl) <| evs_nil) (to09_c _ _ _ _) ?_
        rintro e w ⟨rfl, hk⟩
        refine ⟨_, rfl, ?_⟩
        replace hS := hS.kept hk
        clear hk
        refine hK _ _ ?_; clear hK K
        refine rg_take 9 rfl rfl (by kernel_rfl) (by kernel_rfl) (by kernel_rfl) (want_y rfl rfl rfl rfl (by rw [hg12_5]; rfl)) (fun w hok => x_Aeql (by kernel_rfl) (tmA rfl rfl) (tmA rfl rfl) (eqv_A Try.underlying28 (by kernel_rfl) (fe_cons rfl (pt_A (cs := [_, _, _]) Try.underlying26 rfl ts_26 rfl) (pt_A (cs := [_, _, _]) Try.underlying26 rfl ts_26 rfl) (eqv_A Try.underlying26 (by kernel_rfl) (fe_cons rfl (pt_1 Try.underlying4 rfl rfl) (pt_1 Try.underlying4 rfl rfl) (eqv_b Try.underlying4) <| fe_cons rfl (pt_1 Try.underlying24 rfl rfl) (pt_1 Try.underlying24 rfl rfl) (eqv_i Try.underlying24) <| fe_cons rfl (pt_1 Try.underlying24 rfl rfl) (pt_1 Try.underlying24 rfl rfl) (eqv_i Try.underlying24) <| fe_nil)) <| fe_cons rfl (pt_A (cs := [_, _, _]) Try.underlying26 rfl ts_26 rfl) (pt_A (cs := [_, _, _]) Try.underlying26 rfl ts_26 rfl) (eqv_A Try.underlying26 (by kernel_rfl) (fe_cons rfl (pt_1 Try.underlying4 rfl rfl) (pt_1 Try.underlying4 rfl rfl) (eqv_b Try.underlying4) <| fe_cons rfl (pt_1 Try.underlying24 rfl rfl) (pt_1 Try.underlying24 rfl rfl) (eqv_i Try.underlying24) <| fe_cons rfl (pt_1 Try.underlying24 rfl rfl) (pt_1 Try.underlying24 rfl rfl) (eqv_i Try.underlying24) <| fe_nil)) <| fe_cons rfl (pt_1 Try.underlying5 rfl rfl) (pt_1 Try.underlying5 rfl rfl) (eqv_i Try.underlying5) <| fe_nil))) ?_
        refine rg_take 10 rfl rfl (by kernel_rfl) (by kernel_rfl) (by kernel_rfl) (want_0) (fun w hok => x_pickT (tmB rfl rfl) hg12_5 (tmB rfl rfl)) ?_
        refine rg_take 11 rfl rfl (by kernel_rfl) (by kernel_rfl) (by kernel_rfl) (want_0) (fun w hok => x_move (tmB rfl rfl)) ?_
        refine gs_rgs (tm (t := 51) rfl) (fun hg12_11 => ?_) (fun hg12_11 => ?_)
        · exfalso
          simp at hg12_11
        have hg12_11' := hg12_11; (try simp only [nrm] at hg12_11'); try (exfalso; first | with_reducible exact absurd hg12_11 Bool.false_ne_true | with_reducible exact absurd hg12_11.symm Bool.false_ne_true | omega | (simp at hg12_11; done))
        all_goals
         refine rg_take 12 rfl rfl (by kernel_rfl) (by kernel_rfl) (by kernel_rfl) (want_y rfl rfl rfl rfl (by rw [hg12_11]; rfl)) (fun w hok => x_move (tmI rfl rfl)) ?_
         refine rg_take 13 rfl rfl (by kernel_rfl) (by kernel_rfl) (by kernel_rfl) (want_y rfl rfl rfl rfl (by rw [hg12_11]; rfl)) (fun w hok => x_move (tmI rfl rfl)) ?_
         refine rg_take 14 rfl rfl (by kernel_rfl) (by kernel_rfl) (by kernel_rfl) (want_y rfl rfl rfl rfl (by rw [hg12_11]; rfl)) (fun w hok => x_eql (tmI rfl rfl) (tmI rfl rfl)) ?_
         refine rg_take 15 rfl rfl (by kernel_rfl) (by kernel_rfl) (by kernel_rfl) (want_0) (fun w hok => x_pickT (tmB rfl rfl) hg12_11 (tmB rfl rfl)) ?_
         refine rg_take 16 rfl rfl (by kernel_rfl) (by kernel_rfl) (by kernel_rfl) (want_0) (fun w hok => x_move (tmB rfl rfl)) ?_
         refine gs_rgs (tm (t := 56) rfl) (fun hg12_16 => ?_) (fun hg12_16 => ?_)
         · exfalso
           simp at hg12_16
         have hg12_16' := hg12_16; (try simp only [nrm] at hg12_16'); try (exfalso; first | with_reducible exact absurd hg12_16 Bool.false_ne_true | with_reducible exact absurd hg12_16.symm Bool.false_ne_true | omega | (simp at hg12_16; done))
         all_goals
          refine rg_take 17 rfl rfl (by kernel_rfl) (by kernel_rfl) (by kernel_rfl) (want_y rfl rfl rfl rfl (by rw [hg12_16]; rfl)) (fun w hok => x_move (tmB rfl rfl)) ?_
          refine rg_take 18 rfl rfl (by kernel_rfl) (by kernel_rfl) (by kernel_rfl) (want_y rfl rfl rfl rfl (by rw [hg12_16]; rfl)) (fun w hok => x_move (tmI rfl rfl)) ?_
          refine rg_take 19 rfl rfl (by kernel_rfl) (by kernel_rfl) (by kernel_rfl) (want_y rfl rfl rfl rfl (by rw [hg12_16]; rfl)) (fun w hok => x_eql (tmI rfl rfl) (ev_cN 6)) ?_
          refine rg_take 20 rfl rfl (by kernel_rfl) (by kernel_rfl) (by kernel_rfl) (want_y rfl rfl rfl rfl (by rw [hg12_16]; rfl)) (fun w hok => x_beql Try.underlying4 (tmB rfl rfl) (tmB rfl rfl)) ?_
          refine rg_take 21 rfl rfl (by kernel_rfl) (by kernel_rfl) (by kernel_rfl) (want_0) (fun w hok => x_pickT (tmB rfl rfl) hg12_16 (tmB rfl rfl)) ?_
          refine rg_take 22 rfl rfl (by kernel_rfl) (by kernel_rfl) (by kernel_rfl) (want_0) (fun w hok => x_move (tmB rfl rfl)) ?_
          refine gs_rgs (tm (t := 62) rfl) (fun hg12_22 => ?_) (fun hg12_22 => ?_)
          · exfalso
            simp at hg12_22
          have hg12_22' := hg12_22; (try simp only [nrm] at hg12_22'); try (exfalso; first | with_reducible exact absurd hg12_22 Bool.false_ne_true | with_reducible exact absurd hg12_22.symm Bool.false_ne_true | omega | (simp at hg12_22; done))
          all_goals
           refine rg_take 23 rfl rfl (by kernel_rfl) (by kernel_rfl) (by kernel_rfl) (want_y rfl rfl rfl rfl (by rw [hg12_22]; rfl)) (fun w hok => x_move (tmI rfl rfl)) ?_
           refine rg_take 24 rfl rfl (by kernel_rfl) (by kernel_rfl) (by kernel_rfl) (want_y rfl rfl rfl rfl (by rw [hg12_22]; rfl)) (fun w hok => x_move (tmI rfl rfl)) ?_
           refine rg_take 25 rfl rfl (by kernel_rfl) (by kernel_rfl) (by kernel_rfl) (want_y rfl rfl rfl rfl (by rw [hg12_22]; rfl)) (fun w hok => x_eql (tmI rfl rfl) (tmI rfl rfl)) ?_
           refine rg_take 26 rfl rfl (by kernel_rfl) (by kernel_rfl) (by kernel_rfl) (want_0) (fun w hok => x_pickT (tmB rfl rfl) hg12_22 (tmB rfl rfl)) ?_
           refine rg_take 27 rfl rfl (by kernel_rfl) (by kernel_rfl) (by kernel_rfl) (want_0) (fun w hok => x_move (tmB rfl rfl)) ?_
           refine gs_rgs (tm (t := 67) rfl) (fun hg12_27 => ?_) (fun hg12_27 => ?_)
           · exfalso
             simp at hg12_27
             omega
           have hg12_27' := hg12_27; (try simp only [nrm] at hg12_27'); try (exfalso; first | with_reducible exact absurd hg12_27 Bool.false_ne_true | with_reducible exact absurd hg12_27.symm Bool.false_ne_true | omega | (simp at hg12_27; done))
           all_goals
            refine rg_step 28 rfl (by kernel_rfl) (want_y rfl rfl rfl rfl (by rw [hg12_27]; rfl)) (oks_drop hS 0 rfl) ?_; intro K hK
            refine ow_call Try.func17 rfl rfl (evs_nil) (law09_awake_c _) ?_
            rintro e w ⟨rfl, hk⟩
            refine ⟨_, rfl, ?_⟩
            replace hS := hS.kept hk
            clear hk
            refine hK _ _ ?_; clear hK K
            refine rg_take 29 rfl rfl (by kernel_rfl) (by kernel_rfl) (by kernel_rfl) (want_0) (fun w hok => x_pickT (tmB rfl rfl) hg12_27 (tmB rfl rfl)) ?_
            refine rg_take 30 rfl rfl (by kernel_rfl) (by kernel_rfl) (by kernel_rfl) (want_0) (fun w hok => x_assign (tmB rfl rfl)) ?_
            refine rg_done (oks_drop hS 0 rfl) (by kernel_rfl) ?_
            refine then_n (hK18 _ _ ?_); clear hK18 K18
            refine wp_ret ?_
            refine ret1 rfl (.tmp rfl (show _ = Value.bool _ from rfl)) ?_
            exact ⟨rfl, hS.kp.below⟩
end TunnelReads
end Go.Proofs.Ytilgolflpdpfnaa
