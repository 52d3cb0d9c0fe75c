/- icmp: the references' Bytes, Check and Summed, kinds of messages, To, by contract. Conditions: none but bounds. -/
import Derived.Test.YtmekadkmmddocaaDoorIcmpT
namespace Go.Proofs.YtmekadkmmddocaaDoor
open Go.RowKit
set_option maxRecDepth 100000 in
set_option maxHeartbeats 8000000 in
theorem ricmp_bytes_c (t c s d : Nat) (A : Option Addr) (n k : Nat) (l : List Nat) (w0 : World) (hv : View w0 w0.heap.size A (l.map u8v)) (hl : l.length = n) (hn4 : n ≤ 900000) (h1 : t ≤ 255) (h2 : c ≤ 255) (h3 : s ≤ 65535) (h4 : d ≤ 4294967295) :
    Calls Tryd.prog 50 #[.agg (msgV t c s d A n k).toArray] w0 fun e w' => ∃ A' m c', m = (icmpB t c s d l).length ∧ e = .returned (.slice A' m c') ∧ New w0 w' (.row (.slice A' m c') 5 1 m ((icmpB t c s d l).map u8v)) ∧ Kp [] w0 w' := by
  have hS := (St.sv w0).vcons rfl hv
  have hlen := icmpB_len t c s d l
  have hjo : ∀ (G1 G2 G3 : Option Addr) (j1 j2 j3 : Nat), joined [(G1, [t, c], j1), (G2, be s 2, j2), (G3, be d 4, j3), (A, l, k)] = icmpB t c s d l := by
    intro G1 G2 G3 j1 j2 j3
    have e1 : be t 1 = [t] := by rw [be_one]; congr 1; omega
    have e2 : be c 1 = [c] := by rw [be_one]; congr 1; omega
    simp only [joined, icmpB, e1, e2, List.map_cons, List.map_nil, List.flatten_cons, List.flatten_nil, List.append_nil, List.nil_append, List.append_assoc, List.cons_append]
  refine ent (n := 20) Tryd.func50 rfl rfl ?_
  refine wp_seq_k ?_; intro K1 hK1
  refine wlit ?_
  refine wl_e rfl ?_; intro K hK
  refine ow_box hS (tmA rfl rfl) rfl ?_
  clear hS; intro g0_0 w hg0_0 hS
  refine hK _ _ ?_; clear hK K
  refine wl_v (x_assign ev_c) ?_
  refine wl_nil ?_
  refine then_n (hK1 _ _ ?_); clear hK1 K1
  refine wp_seq_k ?_; intro K2 hK2
  refine rg_startk 0 hS mixed_ ?_
  clear hS; intro w hS
  refine rg_take 0 rfl rfl (by kernel_rfl) (by kernel_rfl) (by kernel_rfl) (want_0) (fun w hok => x_fa 0 Tryd.underlying44 rfl rfl ts_5 (tmP rfl rfl)) ?_
  refine rg_take 1 rfl rfl (by kernel_rfl) (by kernel_rfl) (by kernel_rfl) (want_0) (fun w hok => x_load Tryd.underlying5 rfl (tmP rfl rfl) (cellB hok 0 rfl rfl)) ?_
  refine rg_take 2 rfl rfl (by kernel_rfl) (by kernel_rfl) (by kernel_rfl) (want_0) (fun w hok => x_fa 1 Tryd.underlying44 rfl rfl ts_5 (tmP rfl rfl)) ?_
  refine rg_take 3 rfl rfl (by kernel_rfl) (by kernel_rfl) (by kernel_rfl) (want_0) (fun w hok => x_load Tryd.underlying5 rfl (tmP rfl rfl) (cellB hok 0 rfl rfl)) ?_
  refine rg_take 5 rfl rfl (by kernel_rfl) (by kernel_rfl) (by kernel_rfl) (want_0) (fun w hok => x_fa 2 Tryd.underlying44 rfl rfl ts_27 (tmP rfl rfl)) ?_
  refine rg_take 6 rfl rfl (by kernel_rfl) (by kernel_rfl) (by kernel_rfl) (want_0) (fun w hok => x_load Tryd.underlying27 rfl (tmP rfl rfl) (cellB hok 0 rfl rfl)) ?_
  refine rg_take 7 rfl rfl (by kernel_rfl) (by kernel_rfl) (by kernel_rfl) (want_0) (fun w hok => x_convN Tryd.underlying27 Tryd.underlying24 (tmI rfl rfl) (fit_u64 (by omega))) ?_
  refine rg_take 9 rfl rfl (by kernel_rfl) (by kernel_rfl) (by kernel_rfl) (want_0) (fun w hok => x_fa 3 Tryd.underlying44 rfl rfl ts_30 (tmP rfl rfl)) ?_
  refine rg_take 10 rfl rfl (by kernel_rfl) (by kernel_rfl) (by kernel_rfl) (want_0) (fun w hok => x_load Tryd.underlying30 rfl (tmP rfl rfl) (cellB hok 0 rfl rfl)) ?_
  refine rg_take 11 rfl rfl (by kernel_rfl) (by kernel_rfl) (by kernel_rfl) (want_0) (fun w hok => x_convN Tryd.underlying30 Tryd.underlying24 (tmI rfl rfl) (fit_u64 (by omega))) ?_
  refine rg_take 13 rfl rfl (by kernel_rfl) (by kernel_rfl) (by kernel_rfl) (want_0) (fun w hok => x_fa 4 Tryd.underlying44 rfl rfl ts_22 (tmP rfl rfl)) ?_
  refine rg_take 14 rfl rfl (by kernel_rfl) (by kernel_rfl) (by kernel_rfl) (want_0) (fun w hok => x_load Tryd.underlying22 rfl (tmP rfl rfl) (cellB hok 0 rfl rfl)) ?_
  refine rg_step2 4 8 rfl rfl (by kernel_rfl) (want_0) (want_0) (oks_drop hS 0 rfl) ?_ ?_
  · intro K hK
    refine ow_build hS Tryd.underlying22 tz_5 (bc_take (tmI rfl rfl) <| bc_take (tmI rfl rfl) <| bc_nil) rfl rfl (by kernel_rfl) ?_
    clear hS; intro g1_4 w hg1_4 hS
    refine hK _ _ ?_; clear hK K
    refine rg_step 8 rfl (by kernel_rfl) (want_0) (oks_drop hS 1 rfl) ?_; intro K hK
    refine ow_call Tryd.func66 rfl rfl (evs_cons (tmI rfl rfl) <| evs_cons (ev_cN 2) <| evs_nil) (rbytes_c s 2 _ (by omega) (by omega)) ?_
    rintro e w ⟨ga, rfl, hn, hk⟩
    refine ⟨_, rfl, ?_⟩
    replace hS := hS.add hk hn -- +rowa
    clear hn hk
    refine hK _ _ ?_; clear hK K
    refine rg_step 12 rfl (by kernel_rfl) (want_0) (oks_drop hS 2 rfl) ?_; intro K hK
    refine ow_call Tryd.func66 rfl rfl (evs_cons (tmI rfl rfl) <| evs_cons (ev_cN 4) <| evs_nil) (rbytes_c d 4 _ (by omega) (by omega)) ?_
    rintro e w ⟨gb, rfl, hn, hk⟩
    refine ⟨_, rfl, ?_⟩
    replace hS := hS.add hk hn -- +rowb
    clear hn hk
    refine hK _ _ ?_; clear hK K
    refine rg_step 15 rfl (by kernel_rfl) (want_0) (oks_drop hS 3 rfl) ?_; intro K hK
    refine ow_build hS Tryd.underlying110 tz_22 (bc_take (tmS rfl rfl) <| bc_take (tmS rfl rfl) <| bc_take (tmS rfl rfl) <| bc_take (tmS rfl rfl) <| bc_nil) rfl rfl (by kernel_rfl) ?_
    clear hS; intro g1_15 w hg1_15 hS
    refine hK _ _ ?_; clear hK K
    refine rg_step 16 rfl (by kernel_rfl) (want_0) (oks_drop hS 4 rfl) ?_; intro K hK
    refine ow_call Tryd.func47 rfl rfl (evs_cons (tmS rfl rfl) <| evs_nil) (join_c 4 _ _ [(some ⟨g1_4, 0, none⟩, [t, c], 2), (some ⟨ga, 0, none⟩, be s 2, 2), (some ⟨gb, 0, none⟩, be d 4, 4), (A, l, k)] _ (by have h := viewB hS.ok 0 rfl; simp only [List.map_cons, List.map_nil, rowV, hl]; exact h) (seen_cons (viewB hS.ok 3 rfl) <| seen_cons (viewR hS.ok 2 rfl) <| seen_cons (viewR hS.ok 1 rfl) <| seen_cons (viewV hS.ok 5 rfl) seen_nil) rfl (by omega) (by rw [hjo, hlen]; omega)) ?_
    rintro e w ⟨Aj, mj, cj, hmj, rfl, hn, hk⟩
    refine ⟨_, rfl, ?_⟩
    rw [hjo] at hn hmj
    replace hS := hS.add hk hn -- +rowj
    clear hn hk
    refine hK _ _ ?_; clear hK K
    refine rg_take 17 rfl rfl (by kernel_rfl) (by kernel_rfl) (by kernel_rfl) (want_0) (fun w hok => x_assign (tmS rfl rfl)) ?_
    refine rg_done (oks_drop hS 5 rfl) (by kernel_rfl) ?_
    refine then_n (hK2 _ _ ?_); clear hK2 K2
    refine wp_ret ?_
    refine ret1 rfl (.tmp rfl (show _ = Value.slice _ _ _ from rfl)) ?_
    exact ⟨_, _, _, hmj, rfl, hS.new 0 rfl rfl, hS.kp⟩
  · intro K hK
    refine ow_call Tryd.func66 rfl rfl (evs_cons (tmI rfl rfl) <| evs_cons (ev_cN 2) <| evs_nil) (rbytes_c s 2 _ (by omega) (by omega)) ?_
    rintro e w ⟨ga, rfl, hn, hk⟩
    refine ⟨_, rfl, ?_⟩
    replace hS := hS.add hk hn -- +rowa
    clear hn hk
    refine hK _ _ ?_; clear hK K
    refine rg_step2 4 12 rfl rfl (by kernel_rfl) (want_0) (want_0) (oks_drop hS 1 rfl) ?_ ?_
    · intro K hK
      refine ow_build hS Tryd.underlying22 tz_5 (bc_take (tmI rfl rfl) <| bc_take (tmI rfl rfl) <| bc_nil) rfl rfl (by kernel_rfl) ?_
      clear hS; intro g1_4 w hg1_4 hS
      refine hK _ _ ?_; clear hK K
      refine rg_step 12 rfl (by kernel_rfl) (want_0) (oks_drop hS 2 rfl) ?_; intro K hK
      refine ow_call Tryd.func66 rfl rfl (evs_cons (tmI rfl rfl) <| evs_cons (ev_cN 4) <| evs_nil) (rbytes_c d 4 _ (by omega) (by omega)) ?_
      rintro e w ⟨gb, rfl, hn, hk⟩
      refine ⟨_, rfl, ?_⟩
      replace hS := hS.add hk hn -- +rowb
      clear hn hk
      refine hK _ _ ?_; clear hK K
      refine rg_step 15 rfl (by kernel_rfl) (want_0) (oks_drop hS 3 rfl) ?_; intro K hK
      refine ow_build hS Tryd.underlying110 tz_22 (bc_take (tmS rfl rfl) <| bc_take (tmS rfl rfl) <| bc_take (tmS rfl rfl) <| bc_take (tmS rfl rfl) <| bc_nil) rfl rfl (by kernel_rfl) ?_
      clear hS; intro g1_15 w hg1_15 hS
      refine hK _ _ ?_; clear hK K
      refine rg_step 16 rfl (by kernel_rfl) (want_0) (oks_drop hS 4 rfl) ?_; intro K hK
      refine ow_call Tryd.func47 rfl rfl (evs_cons (tmS rfl rfl) <| evs_nil) (join_c 4 _ _ [(some ⟨g1_4, 0, none⟩, [t, c], 2), (some ⟨ga, 0, none⟩, be s 2, 2), (some ⟨gb, 0, none⟩, be d 4, 4), (A, l, k)] _ (by have h := viewB hS.ok 0 rfl; simp only [List.map_cons, List.map_nil, rowV, hl]; exact h) (seen_cons (viewB hS.ok 2 rfl) <| seen_cons (viewR hS.ok 3 rfl) <| seen_cons (viewR hS.ok 1 rfl) <| seen_cons (viewV hS.ok 5 rfl) seen_nil) rfl (by omega) (by rw [hjo, hlen]; omega)) ?_
      rintro e w ⟨Aj, mj, cj, hmj, rfl, hn, hk⟩
      refine ⟨_, rfl, ?_⟩
      rw [hjo] at hn hmj
      replace hS := hS.add hk hn -- +rowj
      clear hn hk
      refine hK _ _ ?_; clear hK K
      refine rg_take 17 rfl rfl (by kernel_rfl) (by kernel_rfl) (by kernel_rfl) (want_0) (fun w hok => x_assign (tmS rfl rfl)) ?_
      refine rg_done (oks_drop hS 5 rfl) (by kernel_rfl) ?_
      refine then_n (hK2 _ _ ?_); clear hK2 K2
      refine wp_ret ?_
      refine ret1 rfl (.tmp rfl (show _ = Value.slice _ _ _ from rfl)) ?_
      exact ⟨_, _, _, hmj, rfl, hS.new 0 rfl rfl, hS.kp⟩
    · intro K hK
      refine ow_call Tryd.func66 rfl rfl (evs_cons (tmI rfl rfl) <| evs_cons (ev_cN 4) <| evs_nil) (rbytes_c d 4 _ (by omega) (by omega)) ?_
      rintro e w ⟨gb, rfl, hn, hk⟩
      refine ⟨_, rfl, ?_⟩
      replace hS := hS.add hk hn -- +rowb
      clear hn hk
      refine hK _ _ ?_; clear hK K
      refine rg_step 4 rfl (by kernel_rfl) (want_0) (oks_drop hS 2 rfl) ?_; intro K hK
      refine ow_build hS Tryd.underlying22 tz_5 (bc_take (tmI rfl rfl) <| bc_take (tmI rfl rfl) <| bc_nil) rfl rfl (by kernel_rfl) ?_
      clear hS; intro g1_4 w hg1_4 hS
      refine hK _ _ ?_; clear hK K
      refine rg_step 15 rfl (by kernel_rfl) (want_0) (oks_drop hS 3 rfl) ?_; intro K hK
      refine ow_build hS Tryd.underlying110 tz_22 (bc_take (tmS rfl rfl) <| bc_take (tmS rfl rfl) <| bc_take (tmS rfl rfl) <| bc_take (tmS rfl rfl) <| bc_nil) rfl rfl (by kernel_rfl) ?_
      clear hS; intro g1_15 w hg1_15 hS
      refine hK _ _ ?_; clear hK K
      refine rg_step 16 rfl (by kernel_rfl) (want_0) (oks_drop hS 4 rfl) ?_; intro K hK
      refine ow_call Tryd.func47 rfl rfl (evs_cons (tmS rfl rfl) <| evs_nil) (join_c 4 _ _ [(some ⟨g1_4, 0, none⟩, [t, c], 2), (some ⟨ga, 0, none⟩, be s 2, 2), (some ⟨gb, 0, none⟩, be d 4, 4), (A, l, k)] _ (by have h := viewB hS.ok 0 rfl; simp only [List.map_cons, List.map_nil, rowV, hl]; exact h) (seen_cons (viewB hS.ok 1 rfl) <| seen_cons (viewR hS.ok 3 rfl) <| seen_cons (viewR hS.ok 2 rfl) <| seen_cons (viewV hS.ok 5 rfl) seen_nil) rfl (by omega) (by rw [hjo, hlen]; omega)) ?_
      rintro e w ⟨Aj, mj, cj, hmj, rfl, hn, hk⟩
      refine ⟨_, rfl, ?_⟩
      rw [hjo] at hn hmj
      replace hS := hS.add hk hn -- +rowj
      clear hn hk
      refine hK _ _ ?_; clear hK K
      refine rg_take 17 rfl rfl (by kernel_rfl) (by kernel_rfl) (by kernel_rfl) (want_0) (fun w hok => x_assign (tmS rfl rfl)) ?_
      refine rg_done (oks_drop hS 5 rfl) (by kernel_rfl) ?_
      refine then_n (hK2 _ _ ?_); clear hK2 K2
      refine wp_ret ?_
      refine ret1 rfl (.tmp rfl (show _ = Value.slice _ _ _ from rfl)) ?_
      exact ⟨_, _, _, hmj, rfl, hS.new 0 rfl rfl, hS.kp⟩

set_option maxRecDepth 100000 in
set_option maxHeartbeats 8000000 in
theorem ricmp_check_c (t c s d : Nat) (A : Option Addr) (n k : Nat) (l : List Nat) (a b : Ad) (w0 : World) (hv : View w0 w0.heap.size A (l.map u8v)) (hl : l.length = n) (hb : Bytes l) (h6 : a.six = b.six) (hla : adLim a) (hlb : adLim b) (hn4 : n ≤ 60000) (h1 : t ≤ 255) (h2 : c ≤ 255) (h3 : s ≤ 65535) (h4 : d ≤ 4294967295) :
    Calls Tryd.prog 26 #[.agg (msgV t c s d A n k).toArray, .agg a.V.toArray, .agg b.V.toArray] w0 fun e w' => e = .returned (.int .u16 ((65535 - foldN (icS t c s d l a b) : Nat) : Int)) ∧ Kp [] w0 w' := by
  have hS := (St.sv w0).vcons rfl hv
  have hbl := icmpB_len t c s d l
  have hbb := icmpB_bytes t c s d hb
  refine ent (n := 23) Tryd.func26 rfl rfl ?_
  refine wp_seq_k ?_; intro K1 hK1
  refine wlit ?_
  refine wl_e rfl ?_; intro K hK
  refine ow_box hS (tmA rfl rfl) rfl ?_
  clear hS; intro g0_0 w hg0_0 hS
  refine hK _ _ ?_; clear hK K
  refine wl_e rfl ?_; intro K hK
  refine ow_box hS (tmA rfl rfl) rfl ?_
  clear hS; intro g0_1 w hg0_1 hS
  refine hK _ _ ?_; clear hK K
  refine wl_e rfl ?_; intro K hK
  refine ow_box hS (tmA rfl rfl) rfl ?_
  clear hS; intro g0_2 w hg0_2 hS
  refine hK _ _ ?_; clear hK K
  refine wl_v (x_assign (ev_cN 0)) ?_
  refine wl_nil ?_
  refine then_n (hK1 _ _ ?_); clear hK1 K1
  refine wp_seq_k ?_; intro K2 hK2
  refine wlit ?_
  refine wl_v (x_loadA (cs := [_, _, _, _, _]) Tryd.underlying44 rfl ts_44 (tmP rfl rfl) (rangeB hS.ok 2 rfl rfl)) ?_
  refine wl_e rfl ?_; intro K hK
  refine ow_call Tryd.func50 rfl rfl (evs_cons (tmA rfl rfl) <| evs_nil) (ricmp_bytes_c t c s d A n k l _ (viewV hS.ok 3 rfl) hl (by omega) h1 h2 h3 h4) ?_
  rintro e w ⟨A1, m1, c1, hm1, rfl, hn, hk⟩
  refine ⟨_, rfl, ?_⟩
  subst hm1
  replace hS := hS.add hk hn -- +rowb
  clear hn hk
  refine hK _ _ ?_; clear hK K
  refine wl_v (x_assign (tmS rfl rfl)) ?_
  refine wl_nil ?_
  refine then_n (hK2 _ _ ?_); clear hK2 K2
  refine wp_seq_k ?_; intro K3 hK3
  refine wp_seq_k ?_; intro K4 hK4
  refine wlit ?_
  refine wl_v (x_fa 0 Tryd.underlying26 rfl rfl ts_4 (tmP rfl rfl)) ?_
  refine wl_v (x_load Tryd.underlying4 rfl (tmP rfl rfl) (cellB hS.ok 2 rfl rfl)) ?_
  refine wl_nil ?_
  refine then_n (hK4 _ _ ?_); clear hK4 K4
  refine cnd (tm rfl) (fun hc0 => ?_) (fun hc0 => ?_)
  · skip
    all_goals
     try simp only [nrm] at hc0
     have ha6 : a.six = true := by simpa using hc0
     have hb6 : b.six = true := by rw [← h6]; exact ha6
     have hpl := ps6_len (p := 58) (n := (icmpB t c s d l).length) ha6 hb6
     have hje : ∀ (G1 G2 : Option Addr) (j1 j2 : Nat), joined [(G1, ps6 a b 58 (icmpB t c s d l).length, j1), (G2, icmpB t c s d l, j2)] = psL a b l.length ++ icmpB t c s d l := by
       intro G1 G2 j1 j2
       rw [joined_two, psL_six ha6, hbl]
     have hjl : (psL a b l.length ++ icmpB t c s d l).length = 40 + (8 + n) := by
       rw [List.length_append, psL_six ha6, ps6_len ha6 hb6]; omega
     have hjb : Bytes (psL a b l.length ++ icmpB t c s d l) := (psL_bytes _ _ _).append hbb
     have hsum := icS_joined t c s d l h6 _ rfl
     refine wp_seq_k ?_; intro K5 hK5
     refine wlit ?_
     refine wl_v (x_loadA (cs := [_, _, _]) Tryd.underlying26 rfl ts_26 (tmP rfl rfl) (rangeB hS.ok 2 rfl rfl)) ?_
     refine wl_v (x_loadA (cs := [_, _, _]) Tryd.underlying26 rfl ts_26 (tmP rfl rfl) (rangeB hS.ok 1 rfl rfl)) ?_
     refine wl_v (x_move (tmS rfl rfl)) ?_
     refine wl_v (x_len Tryd.underlying22 (tmS rfl rfl)) ?_
     refine wl_e rfl ?_; intro K hK
     refine ow_call Tryd.func48 rfl rfl (evs_cons (tmA rfl rfl) <| evs_cons (tmA rfl rfl) <| evs_cons (ev_cN 58) <| evs_cons (tmI rfl rfl) <| evs_nil) (rip6_pseudo6_c a b 58 (icmpB t c s d l).length _ ha6 hb6 hla hlb (by omega) (by omega)) ?_
     rintro e w ⟨A2, m2, c2, hm2, rfl, hn, hk⟩
     refine ⟨_, rfl, ?_⟩
     subst hm2
     replace hS := hS.add hk hn -- +rowp
     clear hn hk
     refine hK _ _ ?_; clear hK K
     refine wl_v (x_move (tmS rfl rfl)) ?_
     refine wl_e rfl ?_; intro K hK
     refine ow_build hS Tryd.underlying110 tz_22 (bc_take (tmS rfl rfl) <| bc_take (tmS rfl rfl) <| bc_nil) rfl rfl (by kernel_rfl) ?_
     clear hS; intro g3_6 w hg3_6 hS
     refine hK _ _ ?_; clear hK K
     refine wl_e rfl ?_; intro K hK
     refine ow_call Tryd.func47 rfl rfl (evs_cons (tmS rfl rfl) <| evs_nil) (join_c 2 _ _ [(A2, ps6 a b 58 (icmpB t c s d l).length, c2), (A1, icmpB t c s d l, c1)] _ (viewB hS.ok 0 rfl) (seen_cons (viewR hS.ok 1 rfl) <| seen_cons (viewR hS.ok 2 rfl) seen_nil) rfl (by omega) (by rw [hje, hjl]; omega)) ?_
     rintro e w ⟨A3, m3, c3, hm3, rfl, hn, hk⟩
     refine ⟨_, rfl, ?_⟩
     rw [hje] at hn hm3
     subst hm3
     replace hS := hS.add hk hn -- +rowj
     clear hn hk
     refine hK _ _ ?_; clear hK K
     refine wl_e rfl ?_; intro K hK
     refine ow_call Tryd.func46 rfl rfl (evs_cons (tmS rfl rfl) <| evs_nil) (rsum_of_c _ _ _ _ _ (viewR hS.ok 0 rfl) rfl hjb (by omega)) ?_
     rintro e w ⟨rfl, hk⟩
     refine ⟨_, rfl, ?_⟩
     rw [hsum]
     replace hS := hS.kept hk
     clear hk
     refine hK _ _ ?_; clear hK K
     refine wl_v (x_assign (tmI rfl rfl)) ?_
     refine wl_nil ?_
     refine then_n (hK5 _ _ ?_); clear hK5 K5
     refine wp_ret ?_
     refine then_r ?_
     refine ret1 rfl (.tmp rfl (show _ = Value.int _ _ from rfl)) ?_
     exact ⟨rfl, hS.kp⟩
  all_goals
   try simp only [nrm] at hc0
   have hsum := icS_joined t c s d l h6 _ rfl
   rw [psL_four (by simpa using hc0), List.nil_append] at hsum
   refine wp_skip ?_
   refine then_n (hK3 _ _ ?_); clear hK3 K3
   refine wp_seq_k ?_; intro K6 hK6
   refine wlit ?_
   refine wl_v (x_move (tmS rfl rfl)) ?_
   refine wl_e rfl ?_; intro K hK
   refine ow_call Tryd.func46 rfl rfl (evs_cons (tmS rfl rfl) <| evs_nil) (rsum_of_c _ _ _ _ _ (viewR hS.ok 0 rfl) rfl hbb (by omega)) ?_
   rintro e w ⟨rfl, hk⟩
   refine ⟨_, rfl, ?_⟩
   rw [hsum]
   replace hS := hS.kept hk
   clear hk
   refine hK _ _ ?_; clear hK K
   refine wl_v (x_assign (tmI rfl rfl)) ?_
   refine wl_nil ?_
   refine then_n (hK6 _ _ ?_); clear hK6 K6
   refine wp_ret ?_
   refine ret1 rfl (.tmp rfl (show _ = Value.int _ _ from rfl)) ?_
   exact ⟨rfl, hS.kp⟩

end Go.Proofs.YtmekadkmmddocaaDoor
