
/- Proved: UdpReads returns true for all bytes, and changes no memory that was there. Conditions: none. -/
import Derived.Test.YtfagblcepibliaaUdp
import Derived.Test.YtfagblcepibliaaArgs
namespace Go.Proofs.Ytfagblcepibliaa
open Go.RowKit
namespace UdpReads
set_option maxRecDepth 100000 in
set_option maxHeartbeats 4000000 in
theorem walk (A : Option Addr) (n c : Nat) (l : List Nat) (w0 : World)
    (r1 : l.length = n ∧ (A = none → c = 0) ∧ BView w0 w0.heap.size A l ∧ n ≤ c) :
    Calls Try.prog 9 #[.slice A n c] w0 fun e w' => e = .returned (.bool true) ∧ Below w0.heap.size w0 w' := by
  obtain ⟨hl, _, ⟨hb, hv⟩, hc⟩ := r1
  have hS := (St.sv w0).vcons rfl hv
  obtain ⟨sz, hsz⟩ : ∃ sz, sz = getN l 4 2 := ⟨_, rfl⟩
  by_cases h : 8 ≤ n ∧ 8 ≤ sz ∧ sz ≤ n
  · obtain ⟨h0, h1, h3⟩ := h
    refine ent (n := 32) Try.func9 rfl rfl ?_
    refine wp_seq_k ?_; intro K1 hK1
    refine wlit ?_
    refine wl_v (x_assign ev_c) ?_
    refine wl_nil ?_
    refine then_n (hK1 _ _ ?_); clear hK1 K1
    refine wp_seq_k ?_; intro K2 hK2
    refine wp_seq_k ?_; intro K3 hK3
    refine wlit ?_
    refine wl_v (x_move (tmS rfl rfl)) ?_
    refine wl_v (x_len Try.underlying22 (tmS rfl rfl)) ?_
    refine wl_v (x_gtr (tmI rfl rfl) (ev_cN 3000)) ?_
    refine wl_nil ?_
    refine then_n (hK3 _ _ ?_); clear hK3 K3
    refine cnd (tm rfl) (fun hc0 => ?_) (fun hc0 => ?_)
    · try (exfalso; first | with_reducible exact absurd hc0 Bool.false_ne_true | with_reducible exact absurd hc0.symm Bool.false_ne_true | (simp only [nrm] at hc0; omega) | (simp at hc0; done))
      all_goals
       try simp only [nrm] at hc0
       refine wp_seq_k ?_; intro K4 hK4
       refine wlit ?_
       refine wl_e rfl ?_; intro K hK
       refine ow_call Try.func53 rfl rfl (evs_nil) (law07_awake_c _) ?_
       rintro e w ⟨rfl, hk⟩
       refine ⟨_, rfl, ?_⟩
       replace hS := hS.kept hk
       clear hk
       refine hK _ _ ?_; clear hK K
       refine wl_v (x_assign (tmB rfl rfl)) ?_
       refine wl_nil ?_
       refine then_n (hK4 _ _ ?_); clear hK4 K4
       refine wp_ret ?_
       refine then_r ?_
       refine ret1 rfl (.tmp rfl (show _ = Value.bool _ from rfl)) ?_
       exact ⟨rfl, hS.kp.below⟩
    try (exfalso; first | with_reducible exact absurd hc0 Bool.false_ne_true | with_reducible exact absurd hc0.symm Bool.false_ne_true | (simp only [nrm] at hc0; omega) | (simp at hc0; done))
    all_goals
     try simp only [nrm] at hc0
     refine wp_skip ?_
     refine then_n (hK2 _ _ ?_); clear hK2 K2
     refine wp_seq_k ?_; intro K5 hK5
     refine wlit ?_
     refine wl_v (x_move (tmS rfl rfl)) ?_
     refine wl_e rfl ?_; intro K hK
     refine ow_call Try.func54 rfl rfl (evs_cons (tmS rfl rfl) <| evs_nil) (udp_parse_c n A c l _ (viewV hS.ok 0 rfl) hl hb (by omega) sz hsz h0 h1 h3) ?_
     rintro e w ⟨L1, rfl, hn1, hk⟩
     refine ⟨_, rfl, ?_⟩
     replace hS := hS.addn hk hn1 -- +vl1
     clear hn1 hk
     refine hK _ _ ?_; clear hK K
     refine wl_v (x_move (tmT rfl rfl)) ?_
     refine wl_v (x_ext (tmT rfl rfl) rfl) ?_
     refine wl_v (x_ext (tmT rfl rfl) rfl) ?_
     refine wl_e rfl ?_; intro K hK
     refine ow_alloc hS tz_75 rfl ?_
     clear hS; intro g3_5 w hg3_5 hS
     refine hK _ _ ?_; clear hK K
     refine wl_e rfl ?_; intro K hK
     refine ow_storeA hS 0 rfl ts_75 (tmP rfl rfl) (tmA rfl rfl) rfl rfl rfl ?_
     clear hS; intro w hS
     refine hK _ _ ?_; clear hK K
     refine wl_v (x_assign (tmI rfl rfl)) ?_
     refine wl_nil ?_
     refine then_n (hK5 _ _ ?_); clear hK5 K5
     refine wp_seq_k ?_; intro K6 hK6
     refine wlit ?_
     refine wl_v (x_move (tmS rfl rfl)) ?_
     refine wl_e rfl ?_; intro K hK
     refine ow_call Try.func55 rfl rfl (evs_cons (tmS rfl rfl) <| evs_nil) (rudp_parse_c n A c l _ (viewV hS.ok 2 rfl) hl hc hb (by omega) sz hsz h0 h1 h3) ?_
     rintro e w ⟨L2, d2, rfl, hn1, hk⟩
     refine ⟨_, rfl, ?_⟩
     replace hS := hS.addn hk hn1 -- +vl2
     clear hn1 hk
     refine hK _ _ ?_; clear hK K
     refine wl_v (x_move (tmT rfl rfl)) ?_
     refine wl_v (x_ext (tmT rfl rfl) rfl) ?_
     refine wl_v (x_ext (tmT rfl rfl) rfl) ?_
     refine wl_e rfl ?_; intro K hK
     refine ow_alloc hS tz_78 rfl ?_
     clear hS; intro g4_5 w hg4_5 hS
     refine hK _ _ ?_; clear hK K
     refine wl_e rfl ?_; intro K hK
     refine ow_storeA hS 0 rfl ts_78 (tmP rfl rfl) (tmA rfl rfl) rfl rfl rfl ?_
     clear hS; intro w hS
     refine hK _ _ ?_; clear hK K
     refine wl_v (x_assign (tmI rfl rfl)) ?_
     refine wl_nil ?_
     refine then_n (hK6 _ _ ?_); clear hK6 K6
     refine wp_seq_k ?_; intro K7 hK7
     refine wlit ?_
     refine wl_v (x_loadA (cs := [_, _, _, _]) Try.underlying75 rfl ts_75 (tmP rfl rfl) (rangeB hS.ok 2 rfl rfl)) ?_
     refine wl_v (x_loadA (cs := [_, _, _, _]) Try.underlying78 rfl ts_78 (tmP rfl rfl) (rangeB hS.ok 0 rfl rfl)) ?_
     refine wl_e rfl ?_; intro K hK
     refine ow_call Try.func56 rfl rfl (evs_cons (tmA rfl rfl) <| evs_cons (tmA rfl rfl) <| evs_nil) (is07_c _ _ _ _ _ _ _ _ _ _ _ _ _ _ _ (viewV hS.ok 3 rfl) (by rw [List.length_take, List.length_drop]; omega) ((hb.drop 8).take _) (viewV hS.ok 1 rfl) (by rw [List.length_take, List.length_drop]; omega) ((hb.drop 8).take _)) ?_
     rintro e w ⟨rfl, hk⟩
     refine ⟨_, rfl, ?_⟩
     replace hS := hS.kept hk
     clear hk
     refine hK _ _ ?_; clear hK K
     refine wl_v (x_move (tmB rfl rfl)) ?_
     refine gs_wl (tm (t := 24) rfl) (fun hg5_3 => ?_) (fun hg5_3 => ?_)
     · have hg5_3' := hg5_3; (try simp only [nrm] at hg5_3'); try (exfalso; first | with_reducible exact absurd hg5_3 Bool.false_ne_true | with_reducible exact absurd hg5_3.symm Bool.false_ne_true | omega | (simp at hg5_3; done))
       all_goals
        refine wl_gv (want_y rfl rfl rfl rfl (by rw [hg5_3]; rfl)) (x_move (tmI rfl rfl)) ?_
        refine wl_gv (want_y rfl rfl rfl rfl (by rw [hg5_3]; rfl)) (x_move (tmI rfl rfl)) ?_
        refine wl_gv (want_y rfl rfl rfl rfl (by rw [hg5_3]; rfl)) (x_eql (tmI rfl rfl) (tmI rfl rfl)) ?_
        refine wl_v (x_pickT (tmB rfl rfl) hg5_3 (tmB rfl rfl)) ?_
        refine wl_v (x_move (tmB rfl rfl)) ?_
        refine gs_wl (tm (t := 29) rfl) (fun hg5_8 => ?_) (fun hg5_8 => ?_)
        · have hg5_8' := hg5_8; (try simp only [nrm] at hg5_8'); try (exfalso; first | with_reducible exact absurd hg5_8 Bool.false_ne_true | with_reducible exact absurd hg5_8.symm Bool.false_ne_true | omega | (simp at hg5_8; done))
          all_goals
           refine wl_g (want_y rfl rfl rfl rfl (by rw [hg5_8]; rfl)) ?_; intro K hK
           refine ow_call Try.func53 rfl rfl (evs_nil) (law07_awake_c _) ?_
           rintro e w ⟨rfl, hk⟩
           refine ⟨_, rfl, ?_⟩
           replace hS := hS.kept hk
           clear hk
           refine hK _ _ ?_; clear hK K
           refine wl_v (x_pickT (tmB rfl rfl) hg5_8 (tmB rfl rfl)) ?_
           refine wl_v (x_assign (tmB rfl rfl)) ?_
           refine wl_nil ?_
           refine then_n (hK7 _ _ ?_); clear hK7 K7
           refine wp_ret ?_
           refine ret1 rfl (.tmp rfl (show _ = Value.bool _ from rfl)) ?_
           exact ⟨rfl, hS.kp.below⟩
        have hg5_8' := hg5_8; (try simp only [nrm] at hg5_8'); try (exfalso; first | with_reducible exact absurd hg5_8 Bool.false_ne_true | with_reducible exact absurd hg5_8.symm Bool.false_ne_true | omega | (simp at hg5_8; done))
        all_goals
         refine wl_s rfl (want_n rfl rfl rfl rfl (by rw [hg5_8]; rfl)) ?_
         refine wl_v (x_pickF (tmB rfl rfl) hg5_8 ev_c) ?_
         refine wl_v (x_assign (tmB rfl rfl)) ?_
         refine wl_nil ?_
         refine then_n (hK7 _ _ ?_); clear hK7 K7
         refine wp_ret ?_
         refine ret1 rfl (.tmp rfl (show _ = Value.bool _ from rfl)) ?_
         exact ⟨rfl, hS.kp.below⟩
     have hg5_3' := hg5_3; (try simp only [nrm] at hg5_3'); try (exfalso; first | with_reducible exact absurd hg5_3 Bool.false_ne_true | with_reducible exact absurd hg5_3.symm Bool.false_ne_true | omega | (simp at hg5_3; done))
     all_goals
      refine wl_s rfl (want_n rfl rfl rfl rfl (by rw [hg5_3]; rfl)) ?_
      refine wl_s rfl (want_n rfl rfl rfl rfl (by rw [hg5_3]; rfl)) ?_
      refine wl_s rfl (want_n rfl rfl rfl rfl (by rw [hg5_3]; rfl)) ?_
      refine wl_v (x_pickF (tmB rfl rfl) hg5_3 ev_c) ?_
      refine wl_v (x_move (tmB rfl rfl)) ?_
      refine wl_s rfl (want_n rfl rfl rfl rfl rfl) ?_
      refine wl_v (x_pickF (tmB rfl rfl) rfl ev_c) ?_
      refine wl_v (x_assign (tmB rfl rfl)) ?_
      refine wl_nil ?_
      refine then_n (hK7 _ _ ?_); clear hK7 K7
      refine wp_ret ?_
      refine ret1 rfl (.tmp rfl (show _ = Value.bool _ from rfl)) ?_
      exact ⟨rfl, hS.kp.below⟩
  · obtain ⟨er, her⟩ : ∃ er, (n < 8 ∧ er = 20) ∨ (8 ≤ n ∧ sz < 8 ∧ er = 21) ∨ (8 ≤ n ∧ 8 ≤ sz ∧ n < sz ∧ er = 20) := by
      by_cases h1 : n < 8
      · exact ⟨20, .inl ⟨h1, rfl⟩⟩
      · by_cases h2 : sz < 8
        · exact ⟨21, .inr (.inl ⟨by omega, h2, rfl⟩)⟩
        · exact ⟨20, .inr (.inr ⟨by omega, by omega, by omega, rfl⟩)⟩
    have her2 : er ≤ 21 := by omega
    refine ent (n := 32) Try.func9 rfl rfl ?_
    refine wp_seq_k ?_; intro K1 hK1
    refine wlit ?_
    refine wl_v (x_assign ev_c) ?_
    refine wl_nil ?_
    refine then_n (hK1 _ _ ?_); clear hK1 K1
    refine wp_seq_k ?_; intro K2 hK2
    refine wp_seq_k ?_; intro K3 hK3
    refine wlit ?_
    refine wl_v (x_move (tmS rfl rfl)) ?_
    refine wl_v (x_len Try.underlying22 (tmS rfl rfl)) ?_
    refine wl_v (x_gtr (tmI rfl rfl) (ev_cN 3000)) ?_
    refine wl_nil ?_
    refine then_n (hK3 _ _ ?_); clear hK3 K3
    refine cnd (tm rfl) (fun hc0 => ?_) (fun hc0 => ?_)
    · try (exfalso; first | with_reducible exact absurd hc0 Bool.false_ne_true | with_reducible exact absurd hc0.symm Bool.false_ne_true | (simp only [nrm] at hc0; omega) | (simp at hc0; done))
      all_goals
       try simp only [nrm] at hc0
       refine wp_seq_k ?_; intro K4 hK4
       refine wlit ?_
       refine wl_e rfl ?_; intro K hK
       refine ow_call Try.func53 rfl rfl (evs_nil) (law07_awake_c _) ?_
       rintro e w ⟨rfl, hk⟩
       refine ⟨_, rfl, ?_⟩
       replace hS := hS.kept hk
       clear hk
       refine hK _ _ ?_; clear hK K
       refine wl_v (x_assign (tmB rfl rfl)) ?_
       refine wl_nil ?_
       refine then_n (hK4 _ _ ?_); clear hK4 K4
       refine wp_ret ?_
       refine then_r ?_
       refine ret1 rfl (.tmp rfl (show _ = Value.bool _ from rfl)) ?_
       exact ⟨rfl, hS.kp.below⟩
    try (exfalso; first | with_reducible exact absurd hc0 Bool.false_ne_true | with_reducible exact absurd hc0.symm Bool.false_ne_true | (simp only [nrm] at hc0; omega) | (simp at hc0; done))
    all_goals
     try simp only [nrm] at hc0
     refine wp_skip ?_
     refine then_n (hK2 _ _ ?_); clear hK2 K2
     refine wp_seq_k ?_; intro K5 hK5
     refine wlit ?_
     refine wl_v (x_move (tmS rfl rfl)) ?_
     refine wl_e rfl ?_; intro K hK
     refine ow_call Try.func54 rfl rfl (evs_cons (tmS rfl rfl) <| evs_nil) (udp_parse_bad n A c l _ (viewV hS.ok 0 rfl) hl hc hb (by omega) sz er hsz her) ?_
     rintro e w ⟨rfl, hk⟩
     refine ⟨_, rfl, ?_⟩
     replace hS := hS.kept hk
     clear hk
     refine hK _ _ ?_; clear hK K
     refine wl_v (x_move (tmT rfl rfl)) ?_
     refine wl_v (x_ext (tmT rfl rfl) rfl) ?_
     refine wl_v (x_ext (tmT rfl rfl) rfl) ?_
     refine wl_e rfl ?_; intro K hK
     refine ow_alloc hS tz_75 rfl ?_
     clear hS; intro g3_5 w hg3_5 hS
     refine hK _ _ ?_; clear hK K
     refine wl_e rfl ?_; intro K hK
     refine ow_storeA hS 0 rfl ts_75 (tmP rfl rfl) (tmA rfl rfl) rfl rfl rfl ?_
     clear hS; intro w hS
     refine hK _ _ ?_; clear hK K
     refine wl_v (x_assign (tmI rfl rfl)) ?_
     refine wl_nil ?_
     refine then_n (hK5 _ _ ?_); clear hK5 K5
     refine wp_seq_k ?_; intro K6 hK6
     refine wlit ?_
     refine wl_v (x_move (tmS rfl rfl)) ?_
     refine wl_e rfl ?_; intro K hK
     refine ow_call Try.func55 rfl rfl (evs_cons (tmS rfl rfl) <| evs_nil) (rudp_parse_bad n A c l _ (viewV hS.ok 1 rfl) hl hc hb (by omega) sz er hsz her) ?_
     rintro e w ⟨rfl, hk⟩
     refine ⟨_, rfl, ?_⟩
     replace hS := hS.kept hk
     clear hk
     refine hK _ _ ?_; clear hK K
     refine wl_v (x_move (tmT rfl rfl)) ?_
     refine wl_v (x_ext (tmT rfl rfl) rfl) ?_
     refine wl_v (x_ext (tmT rfl rfl) rfl) ?_
     refine wl_e rfl ?_; intro K hK
     refine ow_alloc hS tz_78 rfl ?_
     clear hS; intro g4_5 w hg4_5 hS
     refine hK _ _ ?_; clear hK K
     refine wl_e rfl ?_; intro K hK
     refine ow_storeA hS 0 rfl ts_78 (tmP rfl rfl) (tmA rfl rfl) rfl rfl rfl ?_
     clear hS; intro w hS
     refine hK _ _ ?_; clear hK K
     refine wl_v (x_assign (tmI rfl rfl)) ?_
     refine wl_nil ?_
     refine then_n (hK6 _ _ ?_); clear hK6 K6
     refine wp_seq_k ?_; intro K7 hK7
     refine wlit ?_
     refine wl_v (x_loadA (cs := [_, _, _, _]) Try.underlying75 rfl ts_75 (tmP rfl rfl) (rangeB hS.ok 1 rfl rfl)) ?_
     refine wl_v (x_loadA (cs := [_, _, _, _]) Try.underlying78 rfl ts_78 (tmP rfl rfl) (rangeB hS.ok 0 rfl rfl)) ?_
     refine wl_e rfl ?_; intro K hK
     refine ow_call Try.func56 rfl rfl (evs_cons (tmA rfl rfl) <| evs_cons (tmA rfl rfl) <| evs_nil) (is07_c _ _ _ _ _ _ _ _ _ _ _ _ [] [] _ View.nil_ rfl Bytes.nil View.nil_ rfl Bytes.nil) ?_
     rintro e w ⟨rfl, hk⟩
     refine ⟨_, rfl, ?_⟩
     replace hS := hS.kept hk
     clear hk
     refine hK _ _ ?_; clear hK K
     refine wl_v (x_move (tmB rfl rfl)) ?_
     refine gs_wl (tm (t := 24) rfl) (fun hg5_3 => ?_) (fun hg5_3 => ?_)
     · have hg5_3' := hg5_3; (try simp only [nrm] at hg5_3'); try (exfalso; first | with_reducible exact absurd hg5_3 Bool.false_ne_true | with_reducible exact absurd hg5_3.symm Bool.false_ne_true | omega | (simp at hg5_3; done))
       all_goals
        refine wl_gv (want_y rfl rfl rfl rfl (by rw [hg5_3]; rfl)) (x_move (tmI rfl rfl)) ?_
        refine wl_gv (want_y rfl rfl rfl rfl (by rw [hg5_3]; rfl)) (x_move (tmI rfl rfl)) ?_
        refine wl_gv (want_y rfl rfl rfl rfl (by rw [hg5_3]; rfl)) (x_eql (tmI rfl rfl) (tmI rfl rfl)) ?_
        refine wl_v (x_pickT (tmB rfl rfl) hg5_3 (tmB rfl rfl)) ?_
        refine wl_v (x_move (tmB rfl rfl)) ?_
        refine gs_wl (tm (t := 29) rfl) (fun hg5_8 => ?_) (fun hg5_8 => ?_)
        · have hg5_8' := hg5_8; (try simp only [nrm] at hg5_8'); try (exfalso; first | with_reducible exact absurd hg5_8 Bool.false_ne_true | with_reducible exact absurd hg5_8.symm Bool.false_ne_true | omega | (simp at hg5_8; done))
          all_goals
           refine wl_g (want_y rfl rfl rfl rfl (by rw [hg5_8]; rfl)) ?_; intro K hK
           refine ow_call Try.func53 rfl rfl (evs_nil) (law07_awake_c _) ?_
           rintro e w ⟨rfl, hk⟩
           refine ⟨_, rfl, ?_⟩
           replace hS := hS.kept hk
           clear hk
           refine hK _ _ ?_; clear hK K
           refine wl_v (x_pickT (tmB rfl rfl) hg5_8 (tmB rfl rfl)) ?_
           refine wl_v (x_assign (tmB rfl rfl)) ?_
           refine wl_nil ?_
           refine then_n (hK7 _ _ ?_); clear hK7 K7
           refine wp_ret ?_
           refine ret1 rfl (.tmp rfl (show _ = Value.bool _ from rfl)) ?_
           exact ⟨rfl, hS.kp.below⟩
        have hg5_8' := hg5_8; (try simp only [nrm] at hg5_8'); try (exfalso; first | with_reducible exact absurd hg5_8 Bool.false_ne_true | with_reducible exact absurd hg5_8.symm Bool.false_ne_true | omega | (simp at hg5_8; done))
        all_goals
         refine wl_s rfl (want_n rfl rfl rfl rfl (by rw [hg5_8]; rfl)) ?_
         refine wl_v (x_pickF (tmB rfl rfl) hg5_8 ev_c) ?_
         refine wl_v (x_assign (tmB rfl rfl)) ?_
         refine wl_nil ?_
         refine then_n (hK7 _ _ ?_); clear hK7 K7
         refine wp_ret ?_
         refine ret1 rfl (.tmp rfl (show _ = Value.bool _ from rfl)) ?_
         exact ⟨rfl, hS.kp.below⟩
     have hg5_3' := hg5_3; (try simp only [nrm] at hg5_3'); try (exfalso; first | with_reducible exact absurd hg5_3 Bool.false_ne_true | with_reducible exact absurd hg5_3.symm Bool.false_ne_true | omega | (simp at hg5_3; done))
     all_goals
      refine wl_s rfl (want_n rfl rfl rfl rfl (by rw [hg5_3]; rfl)) ?_
      refine wl_s rfl (want_n rfl rfl rfl rfl (by rw [hg5_3]; rfl)) ?_
      refine wl_s rfl (want_n rfl rfl rfl rfl (by rw [hg5_3]; rfl)) ?_
      refine wl_v (x_pickF (tmB rfl rfl) hg5_3 ev_c) ?_
      refine wl_v (x_move (tmB rfl rfl)) ?_
      refine wl_s rfl (want_n rfl rfl rfl rfl rfl) ?_
      refine wl_v (x_pickF (tmB rfl rfl) rfl ev_c) ?_
      refine wl_v (x_assign (tmB rfl rfl)) ?_
      refine wl_nil ?_
      refine then_n (hK7 _ _ ?_); clear hK7 K7
      refine wp_ret ?_
      refine ret1 rfl (.tmp rfl (show _ = Value.bool _ from rfl)) ?_
      exact ⟨rfl, hS.kp.below⟩
end UdpReads
end Go.Proofs.Ytfagblcepibliaa
