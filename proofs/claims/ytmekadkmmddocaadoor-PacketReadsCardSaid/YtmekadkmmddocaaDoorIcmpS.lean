/- icmp: the pseudo header, sums, Summed, Fine and the references', by contract. Conditions: none but bounds. -/
import Derived.Test.YtmekadkmmddocaaDoorIcmp
import Derived.Test.YtmekadkmmddocaaDoorIcmpR
import Derived.Test.YtmekadkmmddocaaDoorIp6
import Derived.Test.YtmekadkmmddocaaDoorIp4M
namespace Go.Proofs.YtmekadkmmddocaaDoor
open Go.RowKit

def ps6 (s d : Ad) (p n : Nat) : List Nat := adB s ++ adB d ++ be n 4 ++ be p 4
theorem ps6_len {s d : Ad} {p n : Nat} (hs : s.six = true) (hd : d.six = true) : (ps6 s d p n).length = 40 := by simp [ps6, be_length, adB_len, adN_six hs, adN_six hd]
theorem ps6_bytes (s d : Ad) (p n : Nat) : Bytes (ps6 s d p n) := by
  unfold ps6
  repeat' (first | exact be_bytes _ _ | exact adB_bytes _ | apply Bytes.append)
set_option maxRecDepth 100000 in
set_option maxHeartbeats 8000000 in
theorem ip6_pseudo6_c (s d : Ad) (p n : Nat) (w0 : World) (hs : s.six = true) (hd : d.six = true) (hls : adLim s) (hld : adLim d) (hp : p ≤ 255) (hn4 : n ≤ 1000000) :
    Calls Tryd.prog 100 #[.agg s.V.toArray, .agg d.V.toArray, .int .u8 (p : Int), .int .i64 (n : Int)] w0 fun e w' => ∃ A' m c', m = (ps6 s d p n).length ∧ e = .returned (.slice A' m c') ∧ New w0 w' (.row (.slice A' m c') 5 1 m ((ps6 s d p n).map u8v)) ∧ Kp [] w0 w' := by
  have hS := St.sv w0
  have hns := adN_six hs
  have hnd := adN_six hd
  have hsl : (adB s).length = 16 := by rw [adB_len, hns]
  have hdl : (adB d).length = 16 := by rw [adB_len, hnd]
  refine ent (n := 33) Tryd.func100 rfl rfl ?_
  refine wp_seq_k ?_; intro K1 hK1
  refine wlit ?_
  refine wl_e rfl ?_; intro K hK
  refine ow_box hS (tmA rfl rfl) rfl ?_
  clear hS; intro g0_0 w hg0_0 hS
  refine hK _ _ ?_; clear hK K
  refine wl_e rfl ?_; intro K hK
  refine ow_box hS (tmA rfl rfl) rfl ?_
  clear hS; intro g0_1 w hg0_1 hS
  refine hK _ _ ?_; clear hK K
  refine wl_v (x_assign ev_c) ?_
  refine wl_nil ?_
  refine then_n (hK1 _ _ ?_); clear hK1 K1
  refine wp_seq_k ?_; intro K2 hK2
  refine rg_startk 0 hS mixed_ ?_
  clear hS; intro w hS
  refine rg_take 0 rfl rfl (by kernel_rfl) (by kernel_rfl) (by kernel_rfl) (want_0) (fun w hok => x_loadA (cs := [_, _, _]) Tryd.underlying26 rfl ts_26 (tmP rfl rfl) (rangeB hok 1 rfl rfl)) ?_
  refine rg_take 2 rfl rfl (by kernel_rfl) (by kernel_rfl) (by kernel_rfl) (want_0) (fun w hok => x_loadA (cs := [_, _, _]) Tryd.underlying26 rfl ts_26 (tmP rfl rfl) (rangeB hok 0 rfl rfl)) ?_
  refine rg_step 1 rfl (by kernel_rfl) (want_0) (oks_drop hS 0 rfl) ?_; intro K hK
  refine ow_call Tryd.func83 rfl rfl (evs_cons (tmA rfl rfl) <| evs_nil) (ad_bytes_c s _ hls) ?_
  rintro e w ⟨Aa, na, ca, hna, rfl, hn, hk⟩
  refine ⟨_, rfl, ?_⟩
  obtain rfl : na = 16 := hna.trans hns
  replace hS := hS.add hk hn -- +rowb
  clear hn hk
  refine hK _ _ ?_; clear hK K
  refine rg_step 3 rfl (by kernel_rfl) (want_0) (oks_drop hS 1 rfl) ?_; intro K hK
  refine ow_call Tryd.func83 rfl rfl (evs_cons (tmA rfl rfl) <| evs_nil) (ad_bytes_c d _ hld) ?_
  rintro e w ⟨Ab, nb, cb, hnb, rfl, hn, hk⟩
  refine ⟨_, rfl, ?_⟩
  obtain rfl : nb = 16 := hnb.trans hnd
  replace hS := (hS.add hk hn).freeze 0 rfl -- +va
  clear hn hk
  refine hK _ _ ?_; clear hK K
  refine rg_step 4 rfl (by kernel_rfl) (want_0) (oks_drop hS 2 rfl) ?_; intro K hK
  refine ow_appendV hS 1 rfl (viewV hS.ok 0 rfl) Tryd.underlying22 tz_5 rfl (tmS rfl rfl) (tmS rfl rfl) (by first | exact u8v_one _ | (intro u hu; simp at hu; first | (rcases hu with rfl | rfl <;> rfl) | (obtain ⟨_, _, rfl⟩ := hu; rfl))) ⟨by decide, by first | rfl | (simp; done) | (simp; omega)⟩ (by simp only [maxLen]; omega) (by omega) ?_; clear hS; intro g1_4 cg1_4 w hAg1_4 hCg1_4 hS
  refine hK _ _ ?_; clear hK K
  refine rg_take 5 rfl rfl (by kernel_rfl) (by kernel_rfl) (by kernel_rfl) (want_0) (fun w hok => x_assign (tmS rfl rfl)) ?_
  refine rg_done (oks_drop hS 2 rfl) (by kernel_rfl) ?_
  rw [← List.map_append] at hS
  replace hS := hS.pick [1, 2, 3] rfl rfl
  try replace hS := St.nm (M' := [.row _ _ _ _ _, .blk _ _ [_, _, _], .blk _ _ [_, _, _]]) hS rfl
  refine then_n (hK2 _ _ ?_); clear hK2 K2
  refine wp_seq_k ?_; intro K3 hK3
  refine wp_seq_k ?_; intro K4 hK4
  refine wlit ?_
  refine wl_v (x_fa 0 Tryd.underlying26 rfl rfl ts_4 (tmP rfl rfl)) ?_
  refine wl_v (x_load Tryd.underlying4 rfl (tmP rfl rfl) (cellB hS.ok 2 rfl rfl)) ?_
  refine wl_nil ?_
  refine then_n (hK4 _ _ ?_); clear hK4 K4
  refine cnds (tm rfl) (fun hc0 => ?_) (fun hc0 => ?_)
  · exfalso
    rw [hs] at hc0
    cases hc0
  all_goals
   try simp only [nrm] at hc0
   refine wp_seq_k ?_; intro K5 hK5
   refine wlit ?_
   refine wl_v (x_move (tmS rfl rfl)) ?_
   refine wl_v (x_move (tmI rfl rfl)) ?_
   refine wl_v (x_convN Tryd.underlying3 Tryd.underlying24 (tmI rfl rfl) (fit_u64 (by omega))) ?_
   refine wl_e rfl ?_; intro K hK
   refine ow_call Tryd.func61 rfl rfl (evs_cons (tmS rfl rfl) <| evs_cons (tmI rfl rfl) <| evs_cons (ev_cN 4) <| evs_nil) (put_c _ _ _ _ _ _ _ (viewR hS.ok 0 rfl) (by simp [be_length, hsl, hdl]) (by omega) (by omega) (by omega)) ?_
   rintro e w ⟨g2, rfl, hn, hk⟩
   refine ⟨_, rfl, ?_⟩
   replace hS := (hS.add hk hn).pick [0, 2, 3] rfl rfl --ents rowb,g0_1,g0_0
   clear hn hk
   try replace hS := St.nm (M' := [.row _ _ _ _ _, .blk _ _ [_, _, _], .blk _ _ [_, _, _]]) hS rfl
   refine hK _ _ ?_; clear hK K
   refine wl_v (x_assign (tmS rfl rfl)) ?_
   refine wl_nil ?_
   refine then_n (hK5 _ _ ?_); clear hK5 K5
   refine wp_seq_k ?_; intro K6 hK6
   refine wlit ?_
   refine wl_v (x_move (tmS rfl rfl)) ?_
   refine wl_v (x_move (tmI rfl rfl)) ?_
   refine wl_v (x_convN Tryd.underlying5 Tryd.underlying24 (tmI rfl rfl) (fit_u64 (by omega))) ?_
   refine wl_e rfl ?_; intro K hK
   refine ow_call Tryd.func61 rfl rfl (evs_cons (tmS rfl rfl) <| evs_cons (tmI rfl rfl) <| evs_cons (ev_cN 4) <| evs_nil) (put_c _ _ _ _ _ _ _ (viewR hS.ok 0 rfl) (by simp [be_length, hsl, hdl]) (by omega) (by omega) (by omega)) ?_
   rintro e w ⟨g2, rfl, hn, hk⟩
   refine ⟨_, rfl, ?_⟩
   replace hS := (hS.add hk hn).pick [0, 2, 3] rfl rfl --ents rowb,g0_1,g0_0
   clear hn hk
   try replace hS := St.nm (M' := [.row _ _ _ _ _, .blk _ _ [_, _, _], .blk _ _ [_, _, _]]) hS rfl
   refine hK _ _ ?_; clear hK K
   refine wl_v (x_assign (tmS rfl rfl)) ?_
   refine wl_nil ?_
   refine then_n (hK6 _ _ ?_); clear hK6 K6
   refine wp_ret ?_
   refine then_r ?_
   refine ret1 rfl (.tmp rfl (show _ = Value.slice _ _ _ from rfl)) ?_
   exact ⟨_, _, _, by rw [ps6_len hs hd], rfl, hS.new 0 rfl rfl, hS.kp⟩

theorem be4_small {p : Nat} (h : p ≤ 255) : be p 4 = [0, 0, 0, p] := by
  rw [be4]
  simp only [List.cons.injEq, and_true]
  refine ⟨by omega, by omega, by omega, by omega⟩
set_option maxRecDepth 100000 in
set_option maxHeartbeats 8000000 in
theorem rip6_pseudo6_c (s d : Ad) (p n : Nat) (w0 : World) (hs : s.six = true) (hd : d.six = true) (hls : adLim s) (hld : adLim d) (hp : p ≤ 255) (hn4 : n ≤ 65535) :
    Calls Tryd.prog 48 #[.agg s.V.toArray, .agg d.V.toArray, .int .u8 (p : Int), .int .i64 (n : Int)] w0 fun e w' => ∃ A' m c', m = (ps6 s d p n).length ∧ e = .returned (.slice A' m c') ∧ New w0 w' (.row (.slice A' m c') 5 1 m ((ps6 s d p n).map u8v)) ∧ Kp [] w0 w' := by
  have hS := St.sv w0
  have hns := adN_six hs
  have hnd := adN_six hd
  have hsl : (adB s).length = 16 := by rw [adB_len, hns]
  have hdl : (adB d).length = 16 := by rw [adB_len, hnd]
  have hlen := ps6_len (p := p) (n := n) hs hd
  have hj1 : ∀ (G1 G2 : Option Addr) (j1 j2 : Nat), joined [(G1, be n 4, j1), (G2, [0, 0, 0, p], j2)] = be n 4 ++ be p 4 := by
    intro G1 G2 j1 j2
    rw [be4_small hp]
    simp only [joined, List.map_cons, List.map_nil, List.flatten_cons, List.flatten_nil, List.append_nil]
  have hj2 : ∀ (G1 G2 G3 : Option Addr) (j1 j2 j3 : Nat), joined [(G1, adB s, j1), (G2, adB d, j2), (G3, be n 4 ++ be p 4, j3)] = ps6 s d p n := by
    intro G1 G2 G3 j1 j2 j3
    simp only [joined, ps6, List.map_cons, List.map_nil, List.flatten_cons, List.flatten_nil, List.append_nil, List.append_assoc]
  have hjl : (be n 4 ++ be p 4).length = 8 := by simp [be_length]
  refine ent (n := 34) Tryd.func48 rfl rfl ?_
  refine wp_seq_k ?_; intro K1 hK1
  refine wlit ?_
  refine wl_e rfl ?_; intro K hK
  refine ow_box hS (tmA rfl rfl) rfl ?_
  clear hS; intro g0_0 w hg0_0 hS
  refine hK _ _ ?_; clear hK K
  refine wl_e rfl ?_; intro K hK
  refine ow_box hS (tmA rfl rfl) rfl ?_
  clear hS; intro g0_1 w hg0_1 hS
  refine hK _ _ ?_; clear hK K
  refine wl_v (x_assign ev_c) ?_
  refine wl_nil ?_
  refine then_n (hK1 _ _ ?_); clear hK1 K1
  refine wp_seq_k ?_; intro K2 hK2
  refine wlit ?_
  refine wl_v (x_move (tmI rfl rfl)) ?_
  refine wl_v (x_move (tmI rfl rfl)) ?_
  refine wl_v (x_quoN (tmI rfl rfl) (ev_cN 256) (by omega) (fit_i64 (by omega))) ?_
  refine wl_v (x_convN Tryd.underlying3 Tryd.underlying5 (tmI rfl rfl) (fit_u8 (by omega))) ?_
  refine wl_v (x_move (tmI rfl rfl)) ?_
  refine wl_v (x_remN (tmI rfl rfl) (ev_cN 256) (by omega)) ?_
  refine wl_v (x_convN Tryd.underlying3 Tryd.underlying5 (tmI rfl rfl) (fit_u8 (by omega))) ?_
  refine wl_e rfl ?_; intro K hK
  refine ow_build hS Tryd.underlying22 tz_5 (bc_take (ev_cN 0) <| bc_take (tmI rfl rfl) <| bc_take (tmI rfl rfl) <| bc_take (tmI rfl rfl) <| bc_nil) rfl rfl (by kernel_rfl) ?_
  clear hS; intro g1_7 w hg1_7 hS
  refine hK _ _ ?_; clear hK K
  refine wl_v (x_assign (tmS rfl rfl)) ?_
  refine wl_nil ?_
  refine then_n (hK2 _ _ ?_); clear hK2 K2
  refine wp_seq_k ?_; intro K3 hK3
  refine wp_seq_k ?_; intro K4 hK4
  refine wlit ?_
  refine wl_v (x_fa 0 Tryd.underlying26 rfl rfl ts_4 (tmP rfl rfl)) ?_
  refine wl_v (x_load Tryd.underlying4 rfl (tmP rfl rfl) (cellB hS.ok 2 rfl rfl)) ?_
  refine wl_nil ?_
  refine then_n (hK4 _ _ ?_); clear hK4 K4
  refine cnds (tm rfl) (fun hc0 => ?_) (fun hc0 => ?_)
  · exfalso
    rw [hs] at hc0
    cases hc0
  all_goals
   try simp only [nrm] at hc0
   refine wlit ?_
   refine wl_v (x_move (tmI rfl rfl)) ?_
   refine wl_v (x_convN Tryd.underlying3 Tryd.underlying24 (tmI rfl rfl) (fit_u64 (by omega))) ?_
   refine wl_e rfl ?_; intro K hK
   refine ow_call Tryd.func66 rfl rfl (evs_cons (tmI rfl rfl) <| evs_cons (ev_cN 4) <| evs_nil) (rbytes_c n 4 _ (by omega) (by omega)) ?_
   rintro e w ⟨ga, rfl, hn, hk⟩
   refine ⟨_, rfl, ?_⟩
   replace hS := hS.add hk hn -- +rowa
   clear hn hk
   refine hK _ _ ?_; clear hK K
   refine wl_v (x_move (tmI rfl rfl)) ?_
   refine wl_e rfl ?_; intro K hK
   refine ow_build hS Tryd.underlying22 tz_5 (bc_take (ev_cN 0) <| bc_take (ev_cN 0) <| bc_take (ev_cN 0) <| bc_take (tmI rfl rfl) <| bc_nil) rfl rfl (by kernel_rfl) ?_
   clear hS; intro g3_4 w hg3_4 hS
   refine hK _ _ ?_; clear hK K
   refine wl_e rfl ?_; intro K hK
   refine ow_build hS Tryd.underlying110 tz_22 (bc_take (tmS rfl rfl) <| bc_take (tmS rfl rfl) <| bc_nil) rfl rfl (by kernel_rfl) ?_
   clear hS; intro g3_5 w hg3_5 hS
   refine hK _ _ ?_; clear hK K
   refine wl_e rfl ?_; intro K hK
   refine ow_call Tryd.func47 rfl rfl (evs_cons (tmS rfl rfl) <| evs_nil) (join_c 2 _ _ [(some ⟨ga, 0, none⟩, be n 4, 4), (some ⟨g3_4, 0, none⟩, [0, 0, 0, p], 4)] _ (viewB hS.ok 0 rfl) (seen_cons (viewR hS.ok 2 rfl) <| seen_cons (viewB hS.ok 1 rfl) seen_nil) rfl (by omega) (by rw [hj1, hjl]; omega)) ?_
   rintro e w ⟨Aj, mj, cj, hmj, rfl, hn, hk⟩
   refine ⟨_, rfl, ?_⟩
   rw [hj1] at hn hmj
   rw [hjl] at hmj
   subst hmj
   replace hS := hS.add hk hn -- +rowj
   clear hn hk
   refine hK _ _ ?_; clear hK K
   refine wl_v (x_assign (tmS rfl rfl)) ?_
   refine wl_nil ?_
   refine then_n (hK3 _ _ ?_); clear hK3 K3
   refine wp_seq_k ?_; intro K5 hK5
   refine rg_startk 0 hS mixed_ ?_
   clear hS; intro w hS
   refine rg_take 0 rfl rfl (by kernel_rfl) (by kernel_rfl) (by kernel_rfl) (want_0) (fun w hok => x_loadA (cs := [_, _, _]) Tryd.underlying26 rfl ts_26 (tmP rfl rfl) (rangeB hok 6 rfl rfl)) ?_
   refine rg_take 2 rfl rfl (by kernel_rfl) (by kernel_rfl) (by kernel_rfl) (want_0) (fun w hok => x_loadA (cs := [_, _, _]) Tryd.underlying26 rfl ts_26 (tmP rfl rfl) (rangeB hok 5 rfl rfl)) ?_
   refine rg_take 4 rfl rfl (by kernel_rfl) (by kernel_rfl) (by kernel_rfl) (want_0) (fun w hok => x_move (tmS rfl rfl)) ?_
   refine rg_step 1 rfl (by kernel_rfl) (want_0) (oks_drop hS 0 rfl) ?_; intro K hK
   refine ow_call Tryd.func78 rfl rfl (evs_cons (tmA rfl rfl) <| evs_nil) (rad_bytes_c _ _ hls) ?_
   rintro e w ⟨Ad, nd, cd, hn', rfl, hn, hk⟩
   refine ⟨_, rfl, ?_⟩
   obtain rfl : nd = 16 := hn'.trans hns
   replace hS := hS.add hk hn -- +rowd
   clear hn hk
   refine hK _ _ ?_; clear hK K
   refine rg_step 3 rfl (by kernel_rfl) (want_0) (oks_drop hS 1 rfl) ?_; intro K hK
   refine ow_call Tryd.func78 rfl rfl (evs_cons (tmA rfl rfl) <| evs_nil) (rad_bytes_c _ _ hld) ?_
   rintro e w ⟨Ae, ne, ce, hn', rfl, hn, hk⟩
   refine ⟨_, rfl, ?_⟩
   obtain rfl : ne = 16 := hn'.trans hnd
   replace hS := hS.add hk hn -- +rowe
   clear hn hk
   refine hK _ _ ?_; clear hK K
   refine rg_step 5 rfl (by kernel_rfl) (want_0) (oks_drop hS 2 rfl) ?_; intro K hK
   refine ow_build hS Tryd.underlying110 tz_22 (bc_take (tmS rfl rfl) <| bc_take (tmS rfl rfl) <| bc_take (tmS rfl rfl) <| bc_nil) rfl rfl (by kernel_rfl) ?_
   clear hS; intro g4_5 w hg4_5 hS
   refine hK _ _ ?_; clear hK K
   refine rg_step 6 rfl (by kernel_rfl) (want_0) (oks_drop hS 3 rfl) ?_; intro K hK
   refine ow_call Tryd.func47 rfl rfl (evs_cons (tmS rfl rfl) <| evs_nil) (join_c 3 _ _ [(Ad, adB s, cd), (Ae, adB d, ce), (Aj, be n 4 ++ be p 4, cj)] _ (by have h := viewB hS.ok 0 rfl; simp only [List.map_cons, List.map_nil, rowV, hsl, hdl, hjl]; exact h) (seen_cons (viewR hS.ok 2 rfl) <| seen_cons (viewR hS.ok 1 rfl) <| seen_cons (viewR hS.ok 3 rfl) seen_nil) rfl (by omega) (by rw [hj2, hlen]; omega)) ?_
   rintro e w ⟨Az, mz_, cz, hmz, rfl, hn, hk⟩
   refine ⟨_, rfl, ?_⟩
   rw [hj2] at hn hmz
   replace hS := hS.add hk hn -- +rowz
   clear hn hk
   refine hK _ _ ?_; clear hK K
   refine rg_take 7 rfl rfl (by kernel_rfl) (by kernel_rfl) (by kernel_rfl) (want_0) (fun w hok => x_assign (tmS rfl rfl)) ?_
   refine rg_done (oks_drop hS 4 rfl) (by kernel_rfl) ?_
   refine then_n (hK5 _ _ ?_); clear hK5 K5
   refine wp_ret ?_
   refine ret1 rfl (.tmp rfl (show _ = Value.slice _ _ _ from rfl)) ?_
   exact ⟨_, _, _, hmz, rfl, hS.new 0 rfl rfl, hS.kp⟩
end Go.Proofs.YtmekadkmmddocaaDoor
