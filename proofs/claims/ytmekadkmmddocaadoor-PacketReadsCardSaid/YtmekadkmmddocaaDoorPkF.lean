/- pseudo headers of both families; the sums of TCP and UDP, by contract. Conditions: none but bounds. -/
import Derived.Test.YtmekadkmmddocaaDoorIcmpT
import Derived.Test.YtmekadkmmddocaaDoorIcmpU
import Derived.Test.YtmekadkmmddocaaDoorTcp
import Derived.Test.YtmekadkmmddocaaDoorUdp
namespace Go.Proofs.YtmekadkmmddocaaDoor
open Go.RowKit
def ps4 (s d : Ad) (p n : Nat) : List Nat := adB s ++ adB d ++ be p 2 ++ be n 2
theorem adN_four {a : Ad} (h : a.six = false) : adN a = 4 := by unfold adN; rw [h]; rfl
theorem ps4_len {s d : Ad} {p n : Nat} (hs : s.six = false) (hd : d.six = false) : (ps4 s d p n).length = 12 := by simp [ps4, be_length, adB_len, adN_four hs, adN_four hd]
theorem ps4_bytes (s d : Ad) (p n : Nat) : Bytes (ps4 s d p n) := by
  unfold ps4
  repeat' (first | exact be_bytes _ _ | exact adB_bytes _ | apply Bytes.append)
def psG (s d : Ad) (p n : Nat) : List Nat := cond s.six (ps6 s d p n) (ps4 s d p n)
theorem psG_six {s d : Ad} {p n : Nat} (hs : s.six = true) : psG s d p n = ps6 s d p n := by unfold psG; rw [hs]; rfl
theorem psG_four {s d : Ad} {p n : Nat} (hs : s.six = false) : psG s d p n = ps4 s d p n := by unfold psG; rw [hs]; rfl
theorem psG_len {s d : Ad} {p n : Nat} (h : s.six = d.six) : (psG s d p n).length = 40 ∨ (psG s d p n).length = 12 := by
  cases hs : s.six
  · right; rw [psG_four hs, ps4_len hs (h ▸ hs)]
  · left; rw [psG_six hs, ps6_len hs (h ▸ hs)]
theorem psG_bytes (s d : Ad) (p n : Nat) : Bytes (psG s d p n) := by
  unfold psG
  cases s.six
  · exact ps4_bytes _ _ _ _
  · exact ps6_bytes _ _ _ _
set_option maxRecDepth 100000 in
set_option maxHeartbeats 8000000 in
theorem ip6_pseudo4_c (s d : Ad) (p n : Nat) (w0 : World) (hs : s.six = false) (hd : d.six = false) (hls : adLim s) (hld : adLim d) (hp : p ≤ 255) (hn4 : n ≤ 1000000) :
    Calls Tryd.prog 100 #[.agg s.V.toArray, .agg d.V.toArray, .int .u8 (p : Int), .int .i64 (n : Int)] w0 fun e w' => ∃ A' m c', m = (ps4 s d p n).length ∧ e = .returned (.slice A' m c') ∧ New w0 w' (.row (.slice A' m c') 5 1 m ((ps4 s d p n).map u8v)) ∧ Kp [] w0 w' := by
  have hS := St.sv w0
  have hns := adN_four hs
  have hnd := adN_four hd
  have hsl : (adB s).length = 4 := by rw [adB_len, hns]
  have hdl : (adB d).length = 4 := by rw [adB_len, hnd]
  refine ent (n := 33) Tryd.func100 rfl rfl ?_
  refine wp_seq_k ?_; intro K1 hK1
  refine wlit ?_
  refine wl_e rfl ?_; intro K hK
  refine ow_box hS (tmA rfl rfl) rfl ?_
  clear hS; intro g0_0 w hg0_0 hS
  refine hK _ _ ?_; clear hK K
  refine wl_e rfl ?_; intro K hK
  refine ow_box hS (tmA rfl rfl) rfl ?_
  clear hS; intro g0_1 w hg0_1 hS
  refine hK _ _ ?_; clear hK K
  refine wl_v (x_assign ev_c) ?_
  refine wl_nil ?_
  refine then_n (hK1 _ _ ?_); clear hK1 K1
  refine wp_seq_k ?_; intro K2 hK2
  refine rg_startk 0 hS mixed_ ?_
  clear hS; intro w hS
  refine rg_take 0 rfl rfl (by kernel_rfl) (by kernel_rfl) (by kernel_rfl) (want_0) (fun w hok => x_loadA (cs := [_, _, _]) Tryd.underlying26 rfl ts_26 (tmP rfl rfl) (rangeB hok 1 rfl rfl)) ?_
  refine rg_take 2 rfl rfl (by kernel_rfl) (by kernel_rfl) (by kernel_rfl) (want_0) (fun w hok => x_loadA (cs := [_, _, _]) Tryd.underlying26 rfl ts_26 (tmP rfl rfl) (rangeB hok 0 rfl rfl)) ?_
  refine rg_step 1 rfl (by kernel_rfl) (want_0) (oks_drop hS 0 rfl) ?_; intro K hK
  refine ow_call Tryd.func83 rfl rfl (evs_cons (tmA rfl rfl) <| evs_nil) (ad_bytes_c s _ hls) ?_
  rintro e w ⟨Aa, na, ca, hna, rfl, hn, hk⟩
  refine ⟨_, rfl, ?_⟩
  obtain rfl : na = 4 := hna.trans hns
  replace hS := hS.add hk hn -- +rowb
  clear hn hk
  refine hK _ _ ?_; clear hK K
  refine rg_step 3 rfl (by kernel_rfl) (want_0) (oks_drop hS 1 rfl) ?_; intro K hK
  refine ow_call Tryd.func83 rfl rfl (evs_cons (tmA rfl rfl) <| evs_nil) (ad_bytes_c d _ hld) ?_
  rintro e w ⟨Ab, nb, cb, hnb, rfl, hn, hk⟩
  refine ⟨_, rfl, ?_⟩
  obtain rfl : nb = 4 := hnb.trans hnd
  replace hS := (hS.add hk hn).freeze 0 rfl -- +va
  clear hn hk
  refine hK _ _ ?_; clear hK K
  refine rg_step 4 rfl (by kernel_rfl) (want_0) (oks_drop hS 2 rfl) ?_; intro K hK
  refine ow_appendV hS 1 rfl (viewV hS.ok 0 rfl) Tryd.underlying22 tz_5 rfl (tmS rfl rfl) (tmS rfl rfl) (by first | exact u8v_one _ | (intro u hu; simp at hu; first | (rcases hu with rfl | rfl <;> rfl) | (obtain ⟨_, _, rfl⟩ := hu; rfl))) ⟨by decide, by first | rfl | (simp; done) | (simp; omega)⟩ (by simp only [maxLen]; omega) (by omega) ?_; clear hS; intro g1_4 cg1_4 w hAg1_4 hCg1_4 hS
  refine hK _ _ ?_; clear hK K
  refine rg_take 5 rfl rfl (by kernel_rfl) (by kernel_rfl) (by kernel_rfl) (want_0) (fun w hok => x_assign (tmS rfl rfl)) ?_
  refine rg_done (oks_drop hS 2 rfl) (by kernel_rfl) ?_
  rw [← List.map_append] at hS
  replace hS := hS.pick [1, 2, 3] rfl rfl
  try replace hS := St.nm (M' := [.row _ _ _ _ _, .blk _ _ [_, _, _], .blk _ _ [_, _, _]]) hS rfl
  refine then_n (hK2 _ _ ?_); clear hK2 K2
  refine wp_seq_k ?_; intro K3 hK3
  refine wp_seq_k ?_; intro K4 hK4
  refine wlit ?_
  refine wl_v (x_fa 0 Tryd.underlying26 rfl rfl ts_4 (tmP rfl rfl)) ?_
  refine wl_v (x_load Tryd.underlying4 rfl (tmP rfl rfl) (cellB hS.ok 2 rfl rfl)) ?_
  refine wl_nil ?_
  refine then_n (hK4 _ _ ?_); clear hK4 K4
  refine cnd (tm rfl) (fun hc0 => ?_) (fun hc0 => ?_)
  · exfalso
    rw [hs] at hc0
    cases hc0
  all_goals
   try simp only [nrm] at hc0
   refine wp_skip ?_
   refine then_n (hK3 _ _ ?_); clear hK3 K3
   refine wp_seq_k ?_; intro K5 hK5
   refine wlit ?_
   refine wl_v (x_move (tmS rfl rfl)) ?_
   refine wl_v (x_move (tmI rfl rfl)) ?_
   refine wl_v (x_convN Tryd.underlying5 Tryd.underlying24 (tmI rfl rfl) (fit_u64 (by omega))) ?_
   refine wl_e rfl ?_; intro K hK
   refine ow_call Tryd.func61 rfl rfl (evs_cons (tmS rfl rfl) <| evs_cons (tmI rfl rfl) <| evs_cons (ev_cN 2) <| evs_nil) (put_c _ _ _ _ _ _ _ (viewR hS.ok 0 rfl) (by simp [be_length, hsl, hdl]) (by omega) (by omega) (by omega)) ?_
   rintro e w ⟨g2, rfl, hn, hk⟩
   refine ⟨_, rfl, ?_⟩
   replace hS := (hS.add hk hn).pick [0, 2, 3] rfl rfl --ents rowb,g0_1,g0_0
   clear hn hk
   try replace hS := St.nm (M' := [.row _ _ _ _ _, .blk _ _ [_, _, _], .blk _ _ [_, _, _]]) hS rfl
   refine hK _ _ ?_; clear hK K
   refine wl_v (x_assign (tmS rfl rfl)) ?_
   refine wl_nil ?_
   refine then_n (hK5 _ _ ?_); clear hK5 K5
   refine wp_seq_k ?_; intro K6 hK6
   refine wlit ?_
   refine wl_v (x_move (tmS rfl rfl)) ?_
   refine wl_v (x_move (tmI rfl rfl)) ?_
   refine wl_v (x_convN Tryd.underlying3 Tryd.underlying24 (tmI rfl rfl) (fit_u64 (by omega))) ?_
   refine wl_e rfl ?_; intro K hK
   refine ow_call Tryd.func61 rfl rfl (evs_cons (tmS rfl rfl) <| evs_cons (tmI rfl rfl) <| evs_cons (ev_cN 2) <| evs_nil) (put_c _ _ _ _ _ _ _ (viewR hS.ok 0 rfl) (by simp [be_length, hsl, hdl]) (by omega) (by omega) (by omega)) ?_
   rintro e w ⟨g2, rfl, hn, hk⟩
   refine ⟨_, rfl, ?_⟩
   replace hS := (hS.add hk hn).pick [0, 2, 3] rfl rfl --ents rowb,g0_1,g0_0
   clear hn hk
   try replace hS := St.nm (M' := [.row _ _ _ _ _, .blk _ _ [_, _, _], .blk _ _ [_, _, _]]) hS rfl
   refine hK _ _ ?_; clear hK K
   refine wl_v (x_assign (tmS rfl rfl)) ?_
   refine wl_nil ?_
   refine then_n (hK6 _ _ ?_); clear hK6 K6
   refine wp_ret ?_
   refine ret1 rfl (.tmp rfl (show _ = Value.slice _ _ _ from rfl)) ?_
   exact ⟨_, _, _, by rw [ps4_len hs hd], rfl, hS.new 0 rfl rfl, hS.kp⟩
theorem be2_small {p : Nat} (h : p ≤ 255) : be p 2 = [0, p] := by
  rw [be2]
  simp only [List.cons.injEq, and_true]
  refine ⟨by omega, by omega⟩
set_option maxRecDepth 100000 in
set_option maxHeartbeats 8000000 in
theorem rip6_pseudo4_c (s d : Ad) (p n : Nat) (w0 : World) (hs : s.six = false) (hd : d.six = false) (hls : adLim s) (hld : adLim d) (hp : p ≤ 255) (hn4 : n ≤ 65535) :
    Calls Tryd.prog 48 #[.agg s.V.toArray, .agg d.V.toArray, .int .u8 (p : Int), .int .i64 (n : Int)] w0 fun e w' => ∃ A' m c', m = (ps4 s d p n).length ∧ e = .returned (.slice A' m c') ∧ New w0 w' (.row (.slice A' m c') 5 1 m ((ps4 s d p n).map u8v)) ∧ Kp [] w0 w' := by
  have hS := St.sv w0
  have hns := adN_four hs
  have hnd := adN_four hd
  have hsl : (adB s).length = 4 := by rw [adB_len, hns]
  have hdl : (adB d).length = 4 := by rw [adB_len, hnd]
  have hlen := ps4_len (p := p) (n := n) hs hd
  have hj2 : ∀ (G1 G2 G3 : Option Addr) (j1 j2 j3 : Nat), joined [(G1, adB s, j1), (G2, adB d, j2), (G3, [0, p, n / 256, n % 256], j3)] = ps4 s d p n := by
    intro G1 G2 G3 j1 j2 j3
    have e1 := be2_small hp
    have e2 : be n 2 = [n / 256, n % 256] := by
      rw [be2, Nat.mod_eq_of_lt (show n / 256 < 256 by omega)]
    simp only [joined, ps4, e1, e2, List.map_cons, List.map_nil, List.flatten_cons, List.flatten_nil, List.append_nil, List.append_assoc, List.cons_append, List.nil_append]
  refine ent (n := 34) Tryd.func48 rfl rfl ?_
  refine wp_seq_k ?_; intro K1 hK1
  refine wlit ?_
  refine wl_e rfl ?_; intro K hK
  refine ow_box hS (tmA rfl rfl) rfl ?_
  clear hS; intro g0_0 w hg0_0 hS
  refine hK _ _ ?_; clear hK K
  refine wl_e rfl ?_; intro K hK
  refine ow_box hS (tmA rfl rfl) rfl ?_
  clear hS; intro g0_1 w hg0_1 hS
  refine hK _ _ ?_; clear hK K
  refine wl_v (x_assign ev_c) ?_
  refine wl_nil ?_
  refine then_n (hK1 _ _ ?_); clear hK1 K1
  refine wp_seq_k ?_; intro K2 hK2
  refine wlit ?_
  refine wl_v (x_move (tmI rfl rfl)) ?_
  refine wl_v (x_move (tmI rfl rfl)) ?_
  refine wl_v (x_quoN (tmI rfl rfl) (ev_cN 256) (by omega) (fit_i64 (by omega))) ?_
  refine wl_v (x_convN Tryd.underlying3 Tryd.underlying5 (tmI rfl rfl) (fit_u8 (by omega))) ?_
  refine wl_v (x_move (tmI rfl rfl)) ?_
  refine wl_v (x_remN (tmI rfl rfl) (ev_cN 256) (by omega)) ?_
  refine wl_v (x_convN Tryd.underlying3 Tryd.underlying5 (tmI rfl rfl) (fit_u8 (by omega))) ?_
  refine wl_e rfl ?_; intro K hK
  refine ow_build hS Tryd.underlying22 tz_5 (bc_take (ev_cN 0) <| bc_take (tmI rfl rfl) <| bc_take (tmI rfl rfl) <| bc_take (tmI rfl rfl) <| bc_nil) rfl rfl (by kernel_rfl) ?_
  clear hS; intro g1_7 w hg1_7 hS
  refine hK _ _ ?_; clear hK K
  refine wl_v (x_assign (tmS rfl rfl)) ?_
  refine wl_nil ?_
  refine then_n (hK2 _ _ ?_); clear hK2 K2
  refine wp_seq_k ?_; intro K3 hK3
  refine wp_seq_k ?_; intro K4 hK4
  refine wlit ?_
  refine wl_v (x_fa 0 Tryd.underlying26 rfl rfl ts_4 (tmP rfl rfl)) ?_
  refine wl_v (x_load Tryd.underlying4 rfl (tmP rfl rfl) (cellB hS.ok 2 rfl rfl)) ?_
  refine wl_nil ?_
  refine then_n (hK4 _ _ ?_); clear hK4 K4
  refine cnd (tm rfl) (fun hc0 => ?_) (fun hc0 => ?_)
  · exfalso
    rw [hs] at hc0
    cases hc0
  all_goals
   try simp only [nrm] at hc0
   refine wp_skip ?_
   refine then_n (hK3 _ _ ?_); clear hK3 K3
   refine wp_seq_k ?_; intro K5 hK5
   refine rg_startk 0 hS mixed_ ?_
   clear hS; intro w hS
   refine rg_take 0 rfl rfl (by kernel_rfl) (by kernel_rfl) (by kernel_rfl) (want_0) (fun w hok => x_loadA (cs := [_, _, _]) Tryd.underlying26 rfl ts_26 (tmP rfl rfl) (rangeB hok 2 rfl rfl)) ?_
   refine rg_take 2 rfl rfl (by kernel_rfl) (by kernel_rfl) (by kernel_rfl) (want_0) (fun w hok => x_loadA (cs := [_, _, _]) Tryd.underlying26 rfl ts_26 (tmP rfl rfl) (rangeB hok 1 rfl rfl)) ?_
   refine rg_take 4 rfl rfl (by kernel_rfl) (by kernel_rfl) (by kernel_rfl) (want_0) (fun w hok => x_move (tmS rfl rfl)) ?_
   refine rg_step 1 rfl (by kernel_rfl) (want_0) (oks_drop hS 0 rfl) ?_; intro K hK
   refine ow_call Tryd.func78 rfl rfl (evs_cons (tmA rfl rfl) <| evs_nil) (rad_bytes_c _ _ hls) ?_
   rintro e w ⟨Ad, nd, cd, hn', rfl, hn, hk⟩
   refine ⟨_, rfl, ?_⟩
   obtain rfl : nd = 4 := hn'.trans hns
   replace hS := hS.add hk hn -- +rowd
   clear hn hk
   refine hK _ _ ?_; clear hK K
   refine rg_step 3 rfl (by kernel_rfl) (want_0) (oks_drop hS 1 rfl) ?_; intro K hK
   refine ow_call Tryd.func78 rfl rfl (evs_cons (tmA rfl rfl) <| evs_nil) (rad_bytes_c _ _ hld) ?_
   rintro e w ⟨Ae, ne, ce, hn', rfl, hn, hk⟩
   refine ⟨_, rfl, ?_⟩
   obtain rfl : ne = 4 := hn'.trans hnd
   replace hS := hS.add hk hn -- +rowe
   clear hn hk
   refine hK _ _ ?_; clear hK K
   refine rg_step 5 rfl (by kernel_rfl) (want_0) (oks_drop hS 2 rfl) ?_; intro K hK
   refine ow_build hS Tryd.underlying110 tz_22 (bc_take (tmS rfl rfl) <| bc_take (tmS rfl rfl) <| bc_take (tmS rfl rfl) <| bc_nil) rfl rfl (by kernel_rfl) ?_
   clear hS; intro g4_5 w hg4_5 hS
   refine hK _ _ ?_; clear hK K
   refine rg_step 6 rfl (by kernel_rfl) (want_0) (oks_drop hS 3 rfl) ?_; intro K hK
   refine ow_call Tryd.func47 rfl rfl (evs_cons (tmS rfl rfl) <| evs_nil) (join_c 3 _ _ [(Ad, adB s, cd), (Ae, adB d, ce), (some ⟨g1_7, 0, none⟩, [0, p, n / 256, n % 256], 4)] _ (by have h := viewB hS.ok 0 rfl; simp only [List.map_cons, List.map_nil, rowV, hsl, hdl]; exact h) (seen_cons (viewR hS.ok 2 rfl) <| seen_cons (viewR hS.ok 1 rfl) <| seen_cons (viewB hS.ok 3 rfl) seen_nil) rfl (by omega) (by rw [hj2, hlen]; omega)) ?_
   rintro e w ⟨Az, mz_, cz, hmz, rfl, hn, hk⟩
   refine ⟨_, rfl, ?_⟩
   rw [hj2] at hn hmz
   replace hS := hS.add hk hn -- +rowz
   clear hn hk
   refine hK _ _ ?_; clear hK K
   refine rg_take 7 rfl rfl (by kernel_rfl) (by kernel_rfl) (by kernel_rfl) (want_0) (fun w hok => x_assign (tmS rfl rfl)) ?_
   refine rg_done (oks_drop hS 4 rfl) (by kernel_rfl) ?_
   refine then_n (hK5 _ _ ?_); clear hK5 K5
   refine wp_ret ?_
   refine ret1 rfl (.tmp rfl (show _ = Value.slice _ _ _ from rfl)) ?_
   exact ⟨_, _, _, hmz, rfl, hS.new 0 rfl rfl, hS.kp⟩
theorem pseudo_g (s d : Ad) (p n : Nat) (w0 : World) (h6 : s.six = d.six) (hls : adLim s) (hld : adLim d) (hp : p ≤ 255) (hn4 : n ≤ 65535) :
    Calls Tryd.prog 100 #[.agg s.V.toArray, .agg d.V.toArray, .int .u8 (p : Int), .int .i64 (n : Int)] w0 fun e w' => ∃ A' m c', m = (psG s d p n).length ∧ e = .returned (.slice A' m c') ∧ New w0 w' (.row (.slice A' m c') 5 1 m ((psG s d p n).map u8v)) ∧ Kp [] w0 w' := by
  cases hs : s.six
  · rw [psG_four hs]; exact ip6_pseudo4_c s d p n w0 hs (h6 ▸ hs) hls hld hp (by omega)
  · rw [psG_six hs]; exact ip6_pseudo6_c s d p n w0 hs (h6 ▸ hs) hls hld hp (by omega)
theorem rpseudo_g (s d : Ad) (p n : Nat) (w0 : World) (h6 : s.six = d.six) (hls : adLim s) (hld : adLim d) (hp : p ≤ 255) (hn4 : n ≤ 65535) :
    Calls Tryd.prog 48 #[.agg s.V.toArray, .agg d.V.toArray, .int .u8 (p : Int), .int .i64 (n : Int)] w0 fun e w' => ∃ A' m c', m = (psG s d p n).length ∧ e = .returned (.slice A' m c') ∧ New w0 w' (.row (.slice A' m c') 5 1 m ((psG s d p n).map u8v)) ∧ Kp [] w0 w' := by
  cases hs : s.six
  · rw [psG_four hs]; exact rip6_pseudo4_c s d p n w0 hs (h6 ▸ hs) hls hld hp hn4
  · rw [psG_six hs]; exact rip6_pseudo6_c s d p n w0 hs (h6 ▸ hs) hls hld hp hn4
/-- The sum of a pseudo header and what follows. -/
def gS (s d : Ad) (p : Nat) (x : List Nat) : Nat := psum (psG s d p x.length) (psG s d p x.length).length + psum x x.length
theorem gS_joined (s d : Ad) (p : Nat) (x : List Nat) (h6 : s.six = d.six) : psum (psG s d p x.length ++ x) (psG s d p x.length ++ x).length = gS s d p x := by
  unfold gS
  rw [List.length_append]
  exact psum_append (by rcases psG_len (p := p) (n := x.length) h6 with h | h <;> rw [h]) _
set_option maxRecDepth 100000 in
set_option maxHeartbeats 8000000 in
theorem tcp_fine_c (A : Option Addr) (c : Nat) (x : List Nat) (a b : Ad) (w0 : World) (hv : View w0 w0.heap.size A (x.map u8v)) (hb : Bytes x) (h6 : a.six = b.six) (hla : adLim a) (hlb : adLim b) (hn4 : x.length ≤ 60000) :
    Calls Tryd.prog 92 #[.slice A x.length c, .agg a.V.toArray, .agg b.V.toArray] w0 fun e w' => e = .returned (.bool (decide (foldN (gS a b 6 x) = 65535))) ∧ Kp [] w0 w' := by
  have hS := (St.sv w0).vcons rfl hv
  have hpl := psG_len (p := 6) (n := x.length) h6
  have hgs : gS a b 6 x = psum (psG a b 6 x.length) (psG a b 6 x.length).length + psum x x.length := rfl
  refine ent (n := 20) Tryd.func92 rfl rfl ?_
  refine wp_seq_k ?_; intro K1 hK1
  refine wlit ?_
  refine wl_e rfl ?_; intro K hK
  refine ow_box hS (tmA rfl rfl) rfl ?_
  clear hS; intro g0_0 w hg0_0 hS
  refine hK _ _ ?_; clear hK K
  refine wl_e rfl ?_; intro K hK
  refine ow_box hS (tmA rfl rfl) rfl ?_
  clear hS; intro g0_1 w hg0_1 hS
  refine hK _ _ ?_; clear hK K
  refine wl_v (x_assign ev_c) ?_
  refine wl_nil ?_
  refine then_n (hK1 _ _ ?_); clear hK1 K1
  refine wp_seq_k ?_; intro K2 hK2
  refine wlit ?_
  refine wl_v (x_move (tmS rfl rfl)) ?_
  refine wl_v (x_len Tryd.underlying22 (tmS rfl rfl)) ?_
  refine wl_v (x_leq (tmI rfl rfl) (ev_cN 65535)) ?_
  refine wl_v (x_move (tmB rfl rfl)) ?_
  refine gs_wl (tm (t := 10) rfl) (fun hg1_3 => ?_) (fun hg1_3 => ?_)
  · have hg1_3' := hg1_3; (try simp only [nrm] at hg1_3')
    all_goals
     refine wl_gv (want_y rfl rfl rfl rfl (by rw [hg1_3]; rfl)) (x_loadA (cs := [_, _, _]) Tryd.underlying26 rfl ts_26 (tmP rfl rfl) (rangeB hS.ok 1 rfl rfl)) ?_
     refine wl_gv (want_y rfl rfl rfl rfl (by rw [hg1_3]; rfl)) (x_loadA (cs := [_, _, _]) Tryd.underlying26 rfl ts_26 (tmP rfl rfl) (rangeB hS.ok 0 rfl rfl)) ?_
     refine wl_gv (want_y rfl rfl rfl rfl (by rw [hg1_3]; rfl)) (x_move (tmS rfl rfl)) ?_
     refine wl_gv (want_y rfl rfl rfl rfl (by rw [hg1_3]; rfl)) (x_len Tryd.underlying22 (tmS rfl rfl)) ?_
     refine wl_g (want_y rfl rfl rfl rfl (by rw [hg1_3]; rfl)) ?_; intro K hK
     refine ow_call Tryd.func100 rfl rfl (evs_cons (tmA rfl rfl) <| evs_cons (tmA rfl rfl) <| evs_cons (ev_cN 6) <| evs_cons (tmI rfl rfl) <| evs_nil) (pseudo_g a b 6 x.length _ h6 hla hlb (by omega) (by omega)) ?_
     rintro e w ⟨A2, m2, c2, hm2, rfl, hn, hk⟩
     refine ⟨_, rfl, ?_⟩
     subst hm2
     replace hS := hS.add hk hn -- +rowp
     clear hn hk
     refine hK _ _ ?_; clear hK K
     refine wl_gv (want_y rfl rfl rfl rfl (by rw [hg1_3]; rfl)) (x_move (tmS rfl rfl)) ?_
     refine wl_g (want_y rfl rfl rfl rfl (by rw [hg1_3]; rfl)) ?_; intro K hK
     refine ow_build hS Tryd.underlying110 tz_22 (bc_take (tmS rfl rfl) <| bc_take (tmS rfl rfl) <| bc_nil) rfl rfl (by kernel_rfl) ?_
     clear hS; intro g1_10 w hg1_10 hS
     refine hK _ _ ?_; clear hK K
     refine wl_g (want_y rfl rfl rfl rfl (by rw [hg1_3]; rfl)) ?_; intro K hK
     refine ow_call Tryd.func62 rfl rfl (evs_cons (tmS rfl rfl) <| evs_nil) (sum_right_rows_c 2 _ _ [(A2, psG a b 6 x.length, c2), (A, x, c)] _ (viewB hS.ok 0 rfl) (seen_cons (viewR hS.ok 1 rfl) <| seen_cons (viewV hS.ok 4 rfl) seen_nil) (brows_cons (psG_bytes _ _ _ _) <| brows_cons hb brows_nil) rfl (by omega) (by rw [joined_two, List.length_append]; omega)) ?_
     rintro e w ⟨rfl, hk⟩
     refine ⟨_, rfl, ?_⟩
     rw [rsum_two, ← hgs]
     replace hS := hS.kept hk
     clear hk
     refine hK _ _ ?_; clear hK K
     refine wl_v (x_pickT (tmB rfl rfl) hg1_3 (tmB rfl rfl)) ?_
     refine wl_v (x_assign (tmB rfl rfl)) ?_
     refine wl_nil ?_
     refine then_n (hK2 _ _ ?_); clear hK2 K2
     refine wp_ret ?_
     refine ret1 rfl (.tmp rfl (show _ = Value.bool _ from rfl)) ?_
     exact ⟨rfl, hS.kp⟩
  have hg1_3' := hg1_3; (try simp only [nrm] at hg1_3'); try (exfalso; first | with_reducible exact absurd hg1_3 Bool.false_ne_true | with_reducible exact absurd hg1_3.symm Bool.false_ne_true | omega | (simp at hg1_3; done))
  all_goals
   refine wl_s rfl (want_n rfl rfl rfl rfl (by rw [hg1_3]; rfl)) ?_
   refine wl_s rfl (want_n rfl rfl rfl rfl (by rw [hg1_3]; rfl)) ?_
   refine wl_s rfl (want_n rfl rfl rfl rfl (by rw [hg1_3]; rfl)) ?_
   refine wl_s rfl (want_n rfl rfl rfl rfl (by rw [hg1_3]; rfl)) ?_
   refine wl_s rfl (want_n rfl rfl rfl rfl (by rw [hg1_3]; rfl)) ?_
   refine wl_s rfl (want_n rfl rfl rfl rfl (by rw [hg1_3]; rfl)) ?_
   refine wl_s rfl (want_n rfl rfl rfl rfl (by rw [hg1_3]; rfl)) ?_
   refine wl_s rfl (want_n rfl rfl rfl rfl (by rw [hg1_3]; rfl)) ?_
   refine wl_v (x_pickF (tmB rfl rfl) hg1_3 ev_c) ?_
   refine wl_v (x_assign (tmB rfl rfl)) ?_
   refine wl_nil ?_
   refine then_n (hK2 _ _ ?_); clear hK2 K2
   refine wp_ret ?_
   refine ret1 rfl (.tmp rfl (show _ = Value.bool _ from rfl)) ?_
   first
     | exact ⟨rfl, hS.kp⟩
     | (exfalso; omega)
set_option maxRecDepth 100000 in
set_option maxHeartbeats 8000000 in
theorem rtcp_fine_c (A : Option Addr) (c : Nat) (x : List Nat) (a b : Ad) (w0 : World) (hv : View w0 w0.heap.size A (x.map u8v)) (hb : Bytes x) (h6 : a.six = b.six) (hla : adLim a) (hlb : adLim b) (hn4 : x.length ≤ 60000) :
    Calls Tryd.prog 22 #[.slice A x.length c, .agg a.V.toArray, .agg b.V.toArray] w0 fun e w' => e = .returned (.bool (decide (foldN (gS a b 6 x) = 65535))) ∧ Kp [] w0 w' := by
  have hS := (St.sv w0).vcons rfl hv
  have hpl := psG_len (p := 6) (n := x.length) h6
  have hgs := gS_joined a b 6 x h6
  have hfb := foldN_bd (gS a b 6 x)
  have hjb : Bytes (psG a b 6 x.length ++ x) := (psG_bytes _ _ _ _).append hb
  refine ent (n := 22) Tryd.func22 rfl rfl ?_
  refine wp_seq_k ?_; intro K1 hK1
  refine wlit ?_
  refine wl_e rfl ?_; intro K hK
  refine ow_box hS (tmA rfl rfl) rfl ?_
  clear hS; intro g0_0 w hg0_0 hS
  refine hK _ _ ?_; clear hK K
  refine wl_e rfl ?_; intro K hK
  refine ow_box hS (tmA rfl rfl) rfl ?_
  clear hS; intro g0_1 w hg0_1 hS
  refine hK _ _ ?_; clear hK K
  refine wl_v (x_assign ev_c) ?_
  refine wl_nil ?_
  refine then_n (hK1 _ _ ?_); clear hK1 K1
  refine wp_seq_k ?_; intro K2 hK2
  refine wlit ?_
  refine wl_v (x_move (tmS rfl rfl)) ?_
  refine wl_v (x_len Tryd.underlying22 (tmS rfl rfl)) ?_
  refine wl_v (x_leq (tmI rfl rfl) (ev_cN 65535)) ?_
  refine wl_v (x_move (tmB rfl rfl)) ?_
  refine gs_wl (tm (t := 10) rfl) (fun hg1_3 => ?_) (fun hg1_3 => ?_)
  · have hg1_3' := hg1_3; (try simp only [nrm] at hg1_3')
    all_goals
     refine wl_gv (want_y rfl rfl rfl rfl (by rw [hg1_3]; rfl)) (x_loadA (cs := [_, _, _]) Tryd.underlying26 rfl ts_26 (tmP rfl rfl) (rangeB hS.ok 1 rfl rfl)) ?_
     refine wl_gv (want_y rfl rfl rfl rfl (by rw [hg1_3]; rfl)) (x_loadA (cs := [_, _, _]) Tryd.underlying26 rfl ts_26 (tmP rfl rfl) (rangeB hS.ok 0 rfl rfl)) ?_
     refine wl_gv (want_y rfl rfl rfl rfl (by rw [hg1_3]; rfl)) (x_move (tmS rfl rfl)) ?_
     refine wl_gv (want_y rfl rfl rfl rfl (by rw [hg1_3]; rfl)) (x_len Tryd.underlying22 (tmS rfl rfl)) ?_
     refine wl_g (want_y rfl rfl rfl rfl (by rw [hg1_3]; rfl)) ?_; intro K hK
     refine ow_call Tryd.func48 rfl rfl (evs_cons (tmA rfl rfl) <| evs_cons (tmA rfl rfl) <| evs_cons (ev_cN 6) <| evs_cons (tmI rfl rfl) <| evs_nil) (rpseudo_g a b 6 x.length _ h6 hla hlb (by omega) (by omega)) ?_
     rintro e w ⟨A2, m2, c2, hm2, rfl, hn, hk⟩
     refine ⟨_, rfl, ?_⟩
     subst hm2
     replace hS := hS.add hk hn -- +rowp
     clear hn hk
     refine hK _ _ ?_; clear hK K
     refine wl_gv (want_y rfl rfl rfl rfl (by rw [hg1_3]; rfl)) (x_move (tmS rfl rfl)) ?_
     refine wl_g (want_y rfl rfl rfl rfl (by rw [hg1_3]; rfl)) ?_; intro K hK
     refine ow_build hS Tryd.underlying110 tz_22 (bc_take (tmS rfl rfl) <| bc_take (tmS rfl rfl) <| bc_nil) rfl rfl (by kernel_rfl) ?_
     clear hS; intro g1_10 w hg1_10 hS
     refine hK _ _ ?_; clear hK K
     refine wl_g (want_y rfl rfl rfl rfl (by rw [hg1_3]; rfl)) ?_; intro K hK
     refine ow_call Tryd.func47 rfl rfl (evs_cons (tmS rfl rfl) <| evs_nil) (join_c 2 _ _ [(A2, psG a b 6 x.length, c2), (A, x, c)] _ (viewB hS.ok 0 rfl) (seen_cons (viewR hS.ok 1 rfl) <| seen_cons (viewV hS.ok 4 rfl) seen_nil) rfl (by omega) (by rw [joined_two, List.length_append]; omega)) ?_
     rintro e w ⟨A3, m3, c3, hm3, rfl, hn, hk⟩
     refine ⟨_, rfl, ?_⟩
     rw [joined_two] at hn hm3
     subst hm3
     replace hS := hS.add hk hn -- +rowj
     clear hn hk
     refine hK _ _ ?_; clear hK K
     refine wl_g (want_y rfl rfl rfl rfl (by rw [hg1_3]; rfl)) ?_; intro K hK
     refine ow_call Tryd.func46 rfl rfl (evs_cons (tmS rfl rfl) <| evs_nil) (rsum_of_c _ _ _ _ _ (viewR hS.ok 0 rfl) rfl hjb (by rw [List.length_append]; omega)) ?_
     rintro e w ⟨rfl, hk⟩
     refine ⟨_, rfl, ?_⟩
     rw [hgs]
     replace hS := hS.kept hk
     clear hk
     refine hK _ _ ?_; clear hK K
     refine wl_gv (want_y rfl rfl rfl rfl (by rw [hg1_3]; rfl)) (x_eql (tmI rfl rfl) (ev_cN 0)) ?_
     refine wl_v (x_pickT (tmB rfl rfl) hg1_3 (tmB rfl rfl)) ?_
     refine wl_v (x_assign (tmB rfl rfl)) ?_
     refine wl_nil ?_
     refine then_n (hK2 _ _ ?_); clear hK2 K2
     refine wp_ret ?_
     refine ret1 rfl (.tmp rfl (show _ = Value.bool _ from rfl)) ?_
     first
       | (refine ⟨ret_bool (decide_eq_decide.2 ?_), hS.kp⟩
          omega)
       | (exfalso; omega)
  have hg1_3' := hg1_3; (try simp only [nrm] at hg1_3'); try (exfalso; first | with_reducible exact absurd hg1_3 Bool.false_ne_true | with_reducible exact absurd hg1_3.symm Bool.false_ne_true | omega | (simp at hg1_3; done))
  all_goals
   refine wl_s rfl (want_n rfl rfl rfl rfl (by rw [hg1_3]; rfl)) ?_
   refine wl_s rfl (want_n rfl rfl rfl rfl (by rw [hg1_3]; rfl)) ?_
   refine wl_s rfl (want_n rfl rfl rfl rfl (by rw [hg1_3]; rfl)) ?_
   refine wl_s rfl (want_n rfl rfl rfl rfl (by rw [hg1_3]; rfl)) ?_
   refine wl_s rfl (want_n rfl rfl rfl rfl (by rw [hg1_3]; rfl)) ?_
   refine wl_s rfl (want_n rfl rfl rfl rfl (by rw [hg1_3]; rfl)) ?_
   refine wl_s rfl (want_n rfl rfl rfl rfl (by rw [hg1_3]; rfl)) ?_
   refine wl_s rfl (want_n rfl rfl rfl rfl (by rw [hg1_3]; rfl)) ?_
   refine wl_s rfl (want_n rfl rfl rfl rfl (by rw [hg1_3]; rfl)) ?_
   refine wl_s rfl (want_n rfl rfl rfl rfl (by rw [hg1_3]; rfl)) ?_
   refine wl_v (x_pickF (tmB rfl rfl) hg1_3 ev_c) ?_
   refine wl_v (x_assign (tmB rfl rfl)) ?_
   refine wl_nil ?_
   refine then_n (hK2 _ _ ?_); clear hK2 K2
   refine wp_ret ?_
   refine ret1 rfl (.tmp rfl (show _ = Value.bool _ from rfl)) ?_
   first
     | (refine ⟨ret_bool (decide_eq_decide.2 ?_), hS.kp⟩
        omega)
     | (exfalso; omega)
set_option maxRecDepth 100000 in
set_option maxHeartbeats 4000000 in
theorem udp_right_c (a1 a2 a3 : Nat) (L : Option Addr) (k d : Nat) (w0 : World) (hk0 : k ≤ 1000000) :
    Calls Tryd.prog 101 #[.agg (datV a1 a2 a3 L k d).toArray] w0 fun e w' => e = .returned (.bool (decide (k ≤ 65527))) ∧ Kp [] w0 w' := by
  have hS := St.sv w0
  refine ent (n := 8) Tryd.func101 rfl rfl ?_
  refine wp_seq_k ?_; intro K1 hK1
  refine wlit ?_
  refine wl_e rfl ?_; intro K hK
  refine ow_box hS (tmA rfl rfl) rfl ?_
  clear hS; intro g0_0 w hg0_0 hS
  refine hK _ _ ?_; clear hK K
  refine wl_v (x_assign ev_c) ?_
  refine wl_nil ?_
  refine then_n (hK1 _ _ ?_); clear hK1 K1
  refine wp_seq_k ?_; intro K2 hK2
  refine wlit ?_
  refine wl_v (x_fa 3 Tryd.underlying34 rfl rfl ts_22 (tmP rfl rfl)) ?_
  refine wl_v (x_load Tryd.underlying22 rfl (tmP rfl rfl) (cellB hS.ok 0 rfl rfl)) ?_
  refine wl_v (x_len Tryd.underlying22 (tmS rfl rfl)) ?_
  refine wl_v (x_addN (ev_cN 8) (tmI rfl rfl) (fit_i64 (by omega))) ?_
  refine wl_v (x_leq (tmI rfl rfl) (ev_cN 65535)) ?_
  refine wl_v (x_assign (tmB rfl rfl)) ?_
  refine wl_nil ?_
  refine then_n (hK2 _ _ ?_); clear hK2 K2
  refine wp_ret ?_
  refine ret1 rfl (.tmp rfl (show _ = Value.bool _ from rfl)) ?_
  refine ⟨ret_bool (decide_eq_decide.2 ?_), hS.kp⟩
  omega

def datB (a1 a2 a3 : Nat) (x : List Nat) : List Nat := [] ++ be a1 2 ++ be a2 2 ++ be (8 + x.length) 2 ++ be a3 2 ++ x
set_option maxRecDepth 100000 in
set_option maxHeartbeats 4000000 in
theorem udp_bytes_c (a1 a2 a3 : Nat) (L : Option Addr) (d : Nat) (x : List Nat) (w0 : World) (h1 : View w0 w0.heap.size L (x.map u8v)) (q1 : a1 < 65536) (q2 : a2 < 65536) (q3 : a3 < 65536) (hx : x.length ≤ 65527) :
    Calls Tryd.prog 102 #[.agg (datV a1 a2 a3 L x.length d).toArray] w0 fun e w' => ∃ A' n c', n = 8 + x.length ∧ e = .returned (.slice A' n c') ∧ New w0 w' (.row (.slice A' n c') 5 1 n ((datB a1 a2 a3 x).map u8v)) ∧ Kp [] w0 w' := by
  have hS := (St.sv w0).vcons rfl h1
  refine ent (n := 32) Tryd.func102 rfl rfl ?_
  refine wp_seq_k ?_; intro K1 hK1
  refine wlit ?_
  refine wl_e rfl ?_; intro K hK
  refine ow_box hS (tmA rfl rfl) rfl ?_
  clear hS; intro g0_0 w hg0_0 hS
  refine hK _ _ ?_; clear hK K
  refine wl_v (x_assign ev_c) ?_
  refine wl_nil ?_
  refine then_n (hK1 _ _ ?_); clear hK1 K1
  refine wp_seq_k ?_; intro K2 hK2
  refine wp_seq_k ?_; intro K3 hK3
  refine wlit ?_
  refine wl_v (x_loadA (cs := [_, _, _, _]) Tryd.underlying34 rfl ts_34 (tmP rfl rfl) (rangeB hS.ok 0 rfl rfl)) ?_
  refine wl_e rfl ?_; intro K hK
  refine ow_call Tryd.func101 rfl rfl (evs_cons (tmA rfl rfl) <| evs_nil) (udp_right_c _ _ _ _ _ _ _ (by omega)) ?_
  rintro e w ⟨rfl, hk⟩
  refine ⟨_, rfl, ?_⟩
  replace hS := hS.kept hk
  clear hk
  refine hK _ _ ?_; clear hK K
  refine wl_v (x_not (tmB rfl rfl)) ?_
  refine wl_nil ?_
  refine then_n (hK3 _ _ ?_); clear hK3 K3
  refine cnd (tm rfl) (fun hc0 => ?_) (fun hc0 => ?_)
  · exfalso
    simp at hc0
    omega
  all_goals
   try simp only [nrm] at hc0
   refine wp_skip ?_
   refine then_n (hK2 _ _ ?_); clear hK2 K2
   refine wp_seq_k ?_; intro K4 hK4
   refine wlit ?_
   refine wl_v (x_fa 0 Tryd.underlying34 rfl rfl ts_27 (tmP rfl rfl)) ?_
   refine wl_v (x_load Tryd.underlying27 rfl (tmP rfl rfl) (cellB hS.ok 0 rfl rfl)) ?_
   refine wl_v (x_convN Tryd.underlying27 Tryd.underlying24 (tmI rfl rfl) (fit_u64 (by omega))) ?_
   refine wl_e rfl ?_; intro K hK
   refine ow_call Tryd.func61 rfl rfl (evs_cons ev_c <| evs_cons (tmI rfl rfl) <| evs_cons (ev_cN 2) <| evs_nil) (put_c 0 none 0 [] a1 2 _ View.nil_ rfl (by omega) (by omega) (by omega)) ?_
   rintro e w ⟨g1, rfl, hn, hk⟩
   refine ⟨_, rfl, ?_⟩
   replace hS := hS.add hk hn -- +rowb
   clear hn hk
   refine hK _ _ ?_; clear hK K
   refine wl_v (x_assign (tmS rfl rfl)) ?_
   refine wl_nil ?_
   refine then_n (hK4 _ _ ?_); clear hK4 K4
   refine wp_seq_k ?_; intro K5 hK5
   refine wlit ?_
   refine wl_v (x_move (tmS rfl rfl)) ?_
   refine wl_v (x_fa 1 Tryd.underlying34 rfl rfl ts_27 (tmP rfl rfl)) ?_
   refine wl_v (x_load Tryd.underlying27 rfl (tmP rfl rfl) (cellB hS.ok 1 rfl rfl)) ?_
   refine wl_v (x_convN Tryd.underlying27 Tryd.underlying24 (tmI rfl rfl) (fit_u64 (by omega))) ?_
   refine wl_e rfl ?_; intro K hK
   refine ow_call Tryd.func61 rfl rfl (evs_cons (tmS rfl rfl) <| evs_cons (tmI rfl rfl) <| evs_cons (ev_cN 2) <| evs_nil) (put_c _ _ _ _ _ _ _ (viewR hS.ok 0 rfl) (by simp [be_length]) (by omega) (by omega) (by omega)) ?_
   rintro e w ⟨g2, rfl, hn, hk⟩
   refine ⟨_, rfl, ?_⟩
   replace hS := (hS.add hk hn).pick [0, 2, 3] rfl rfl --ents rowb,g0_0,vx
   clear hn hk
   try replace hS := St.nm (M' := [.row _ _ _ _ _, .blk _ _ [_, _, _, _], .vw _ _]) hS rfl
   refine hK _ _ ?_; clear hK K
   refine wl_v (x_assign (tmS rfl rfl)) ?_
   refine wl_nil ?_
   refine then_n (hK5 _ _ ?_); clear hK5 K5
   refine wp_seq_k ?_; intro K6 hK6
   refine wlit ?_
   refine wl_v (x_move (tmS rfl rfl)) ?_
   refine wl_v (x_fa 3 Tryd.underlying34 rfl rfl ts_22 (tmP rfl rfl)) ?_
   refine wl_v (x_load Tryd.underlying22 rfl (tmP rfl rfl) (cellB hS.ok 1 rfl rfl)) ?_
   refine wl_v (x_len Tryd.underlying22 (tmS rfl rfl)) ?_
   refine wl_v (x_addN (ev_cN 8) (tmI rfl rfl) (fit_i64 (by omega))) ?_
   refine wl_v (x_convN Tryd.underlying3 Tryd.underlying24 (tmI rfl rfl) (fit_u64 (by omega))) ?_
   refine wl_e rfl ?_; intro K hK
   refine ow_call Tryd.func61 rfl rfl (evs_cons (tmS rfl rfl) <| evs_cons (tmI rfl rfl) <| evs_cons (ev_cN 2) <| evs_nil) (put_c _ _ _ _ _ _ _ (viewR hS.ok 0 rfl) (by simp [be_length]) (by omega) (by omega) (by omega)) ?_
   rintro e w ⟨g2, rfl, hn, hk⟩
   refine ⟨_, rfl, ?_⟩
   replace hS := (hS.add hk hn).pick [0, 2, 3] rfl rfl --ents rowb,g0_0,vx
   clear hn hk
   try replace hS := St.nm (M' := [.row _ _ _ _ _, .blk _ _ [_, _, _, _], .vw _ _]) hS rfl
   refine hK _ _ ?_; clear hK K
   refine wl_v (x_assign (tmS rfl rfl)) ?_
   refine wl_nil ?_
   refine then_n (hK6 _ _ ?_); clear hK6 K6
   refine wp_seq_k ?_; intro K7 hK7
   refine wlit ?_
   refine wl_v (x_move (tmS rfl rfl)) ?_
   refine wl_v (x_fa 2 Tryd.underlying34 rfl rfl ts_27 (tmP rfl rfl)) ?_
   refine wl_v (x_load Tryd.underlying27 rfl (tmP rfl rfl) (cellB hS.ok 1 rfl rfl)) ?_
   refine wl_v (x_convN Tryd.underlying27 Tryd.underlying24 (tmI rfl rfl) (fit_u64 (by omega))) ?_
   refine wl_e rfl ?_; intro K hK
   refine ow_call Tryd.func61 rfl rfl (evs_cons (tmS rfl rfl) <| evs_cons (tmI rfl rfl) <| evs_cons (ev_cN 2) <| evs_nil) (put_c _ _ _ _ _ _ _ (viewR hS.ok 0 rfl) (by simp [be_length]) (by omega) (by omega) (by omega)) ?_
   rintro e w ⟨g2, rfl, hn, hk⟩
   refine ⟨_, rfl, ?_⟩
   replace hS := (hS.add hk hn).pick [0, 2, 3] rfl rfl --ents rowb,g0_0,vx
   clear hn hk
   try replace hS := St.nm (M' := [.row _ _ _ _ _, .blk _ _ [_, _, _, _], .vw _ _]) hS rfl
   refine hK _ _ ?_; clear hK K
   refine wl_v (x_assign (tmS rfl rfl)) ?_
   refine wl_nil ?_
   refine then_n (hK7 _ _ ?_); clear hK7 K7
   refine wp_seq_k ?_; intro K8 hK8
   refine wlit ?_
   refine wl_v (x_move (tmS rfl rfl)) ?_
   refine wl_v (x_fa 3 Tryd.underlying34 rfl rfl ts_22 (tmP rfl rfl)) ?_
   refine wl_v (x_load Tryd.underlying22 rfl (tmP rfl rfl) (cellB hS.ok 1 rfl rfl)) ?_
   refine wl_e rfl ?_; intro K hK
   refine ow_appendV hS 0 rfl (viewV hS.ok 2 rfl) Tryd.underlying22 tz_5 rfl (tmS rfl rfl) (tmS rfl rfl) (by first | exact u8v_one _ | (intro u hu; simp at hu; first | (rcases hu with rfl | rfl <;> rfl) | (obtain ⟨_, _, rfl⟩ := hu; rfl))) ⟨by decide, by first | rfl | (simp; done) | (simp; omega)⟩ (by simp only [maxLen]; omega) (by omega) ?_; clear hS; intro g7_3 cg7_3 w hAg7_3 hCg7_3 hS
   refine hK _ _ ?_; clear hK K
   refine wl_v (x_assign (tmS rfl rfl)) ?_
   refine wl_nil ?_
   rw [← List.map_append] at hS
   refine then_n (hK8 _ _ ?_); clear hK8 K8
   refine wp_ret ?_
   refine ret1 rfl (.tmp rfl (show _ = Value.slice _ _ _ from rfl)) ?_
   exact ⟨_, _, _, by omega, rfl, hS.new 0 rfl rfl, hS.kp⟩

theorem datB_len (a1 a2 a3 : Nat) (x : List Nat) : (datB a1 a2 a3 x).length = 8 + x.length := by simp [datB, be_length]; omega
theorem datB_bytes (a1 a2 a3 : Nat) {x : List Nat} (h : Bytes x) : Bytes (datB a1 a2 a3 x) := by
  unfold datB
  repeat' (first | assumption | exact Bytes.nil | exact be_bytes _ _ | apply Bytes.append)
/-- Is a datagram right between two addresses? -/
def udF (a1 a2 a3 : Nat) (x : List Nat) (a b : Ad) : Bool := if a3 = 0 then !a.six else decide (foldN (gS a b 17 (datB a1 a2 a3 x)) = 65535)
set_option maxRecDepth 100000 in
set_option maxHeartbeats 8000000 in
theorem udp_fine_c (a1 a2 a3 : Nat) (L : Option Addr) (k d : Nat) (x : List Nat) (a b : Ad) (w0 : World) (hv : View w0 w0.heap.size L (x.map u8v)) (hk0 : k = x.length) (hb : Bytes x) (h6 : a.six = b.six) (hla : adLim a) (hlb : adLim b) (hn4 : x.length ≤ 60000) (q1 : a1 < 65536) (q2 : a2 < 65536) (q3 : a3 < 65536) :
    Calls Tryd.prog 94 #[.agg (datV a1 a2 a3 L k d).toArray, .agg a.V.toArray, .agg b.V.toArray] w0 fun e w' => e = .returned (.bool (udF a1 a2 a3 x a b)) ∧ Kp [] w0 w' := by
  subst hk0
  have hS := (St.sv w0).vcons rfl hv
  have hpl := psG_len (p := 17) (n := (datB a1 a2 a3 x).length) h6
  have hdl := datB_len a1 a2 a3 x
  have hgs : gS a b 17 (datB a1 a2 a3 x) = psum (psG a b 17 (datB a1 a2 a3 x).length) (psG a b 17 (datB a1 a2 a3 x).length).length + psum (datB a1 a2 a3 x) (datB a1 a2 a3 x).length := rfl
  have hdb := datB_bytes a1 a2 a3 hb
  refine ent (n := 27) Tryd.func94 rfl rfl ?_
  refine wp_seq_k ?_; intro K1 hK1
  refine wlit ?_
  refine wl_e rfl ?_; intro K hK
  refine ow_box hS (tmA rfl rfl) rfl ?_
  clear hS; intro g0_0 w hg0_0 hS
  refine hK _ _ ?_; clear hK K
  refine wl_e rfl ?_; intro K hK
  refine ow_box hS (tmA rfl rfl) rfl ?_
  clear hS; intro g0_1 w hg0_1 hS
  refine hK _ _ ?_; clear hK K
  refine wl_e rfl ?_; intro K hK
  refine ow_box hS (tmA rfl rfl) rfl ?_
  clear hS; intro g0_2 w hg0_2 hS
  refine hK _ _ ?_; clear hK K
  refine wl_v (x_assign ev_c) ?_
  refine wl_nil ?_
  refine then_n (hK1 _ _ ?_); clear hK1 K1
  refine wp_seq_k ?_; intro K2 hK2
  refine wp_seq_k ?_; intro K3 hK3
  refine wlit ?_
  refine wl_v (x_loadA (cs := [_, _, _, _]) Tryd.underlying34 rfl ts_34 (tmP rfl rfl) (rangeB hS.ok 2 rfl rfl)) ?_
  refine wl_e rfl ?_; intro K hK
  refine ow_call Tryd.func101 rfl rfl (evs_cons (tmA rfl rfl) <| evs_nil) (udp_right_c a1 a2 a3 L x.length d _ (by omega)) ?_
  rintro e w ⟨rfl, hk⟩
  refine ⟨_, rfl, ?_⟩
  replace hS := hS.kept hk
  clear hk
  refine hK _ _ ?_; clear hK K
  refine wl_v (x_not (tmB rfl rfl)) ?_
  refine wl_nil ?_
  refine then_n (hK3 _ _ ?_); clear hK3 K3
  refine cnd (tm rfl) (fun hc0 => ?_) (fun hc0 => ?_)
  · exfalso
    simp at hc0
    omega
  all_goals
   try simp only [nrm] at hc0
   refine wp_skip ?_
   refine then_n (hK2 _ _ ?_); clear hK2 K2
   refine wp_seq_k ?_; intro K4 hK4
   refine wp_seq_k ?_; intro K5 hK5
   refine wlit ?_
   refine wl_v (x_fa 2 Tryd.underlying34 rfl rfl ts_27 (tmP rfl rfl)) ?_
   refine wl_v (x_load Tryd.underlying27 rfl (tmP rfl rfl) (cellB hS.ok 2 rfl rfl)) ?_
   refine wl_v (x_eql (tmI rfl rfl) (ev_cN 0)) ?_
   refine wl_nil ?_
   refine then_n (hK5 _ _ ?_); clear hK5 K5
   refine cnd (tm rfl) (fun hc1 => ?_) (fun hc1 => ?_)
   · skip
     all_goals
      try simp only [nrm] at hc1
      refine wp_seq_k ?_; intro K6 hK6
      refine wlit ?_
      refine wl_v (x_fa 0 Tryd.underlying26 rfl rfl ts_4 (tmP rfl rfl)) ?_
      refine wl_v (x_load Tryd.underlying4 rfl (tmP rfl rfl) (cellB hS.ok 1 rfl rfl)) ?_
      refine wl_v (x_not (tmB rfl rfl)) ?_
      refine wl_v (x_assign (tmB rfl rfl)) ?_
      refine wl_nil ?_
      refine then_n (hK6 _ _ ?_); clear hK6 K6
      refine wp_ret ?_
      refine then_r ?_
      refine ret1 rfl (.tmp rfl (show _ = Value.bool _ from rfl)) ?_
      unfold udF
      rw [if_pos (by first | omega | (simp at hc1; omega))]; exact ⟨rfl, hS.kp⟩
   all_goals
    try simp only [nrm] at hc1
    refine wp_skip ?_
    refine then_n (hK4 _ _ ?_); clear hK4 K4
    refine wp_seq_k ?_; intro K7 hK7
    refine wlit ?_
    refine wl_v (x_loadA (cs := [_, _, _, _]) Tryd.underlying34 rfl ts_34 (tmP rfl rfl) (rangeB hS.ok 2 rfl rfl)) ?_
    refine wl_e rfl ?_; intro K hK
    refine ow_call Tryd.func102 rfl rfl (evs_cons (tmA rfl rfl) <| evs_nil) (udp_bytes_c a1 a2 a3 L d x _ (viewV hS.ok 3 rfl) q1 q2 q3 (by omega)) ?_
    rintro e w ⟨A3, m3, c3, hm3, rfl, hn, hk⟩
    refine ⟨_, rfl, ?_⟩
    obtain rfl : m3 = (datB a1 a2 a3 x).length := by omega
    replace hS := hS.add hk hn -- +rowb
    clear hn hk
    refine hK _ _ ?_; clear hK K
    refine wl_v (x_assign (tmS rfl rfl)) ?_
    refine wl_nil ?_
    refine then_n (hK7 _ _ ?_); clear hK7 K7
    refine wp_seq_k ?_; intro K8 hK8
    refine wlit ?_
    refine wl_v (x_loadA (cs := [_, _, _]) Tryd.underlying26 rfl ts_26 (tmP rfl rfl) (rangeB hS.ok 2 rfl rfl)) ?_
    refine wl_v (x_loadA (cs := [_, _, _]) Tryd.underlying26 rfl ts_26 (tmP rfl rfl) (rangeB hS.ok 1 rfl rfl)) ?_
    refine wl_v (x_move (tmS rfl rfl)) ?_
    refine wl_v (x_len Tryd.underlying22 (tmS rfl rfl)) ?_
    refine wl_e rfl ?_; intro K hK
    refine ow_call Tryd.func100 rfl rfl (evs_cons (tmA rfl rfl) <| evs_cons (tmA rfl rfl) <| evs_cons (ev_cN 17) <| evs_cons (tmI rfl rfl) <| evs_nil) (pseudo_g a b 17 (datB a1 a2 a3 x).length _ h6 hla hlb (by omega) (by omega)) ?_
    rintro e w ⟨A2, m2, c2, hm2, rfl, hn, hk⟩
    refine ⟨_, rfl, ?_⟩
    subst hm2
    replace hS := hS.add hk hn -- +rowp
    clear hn hk
    refine hK _ _ ?_; clear hK K
    refine wl_v (x_move (tmS rfl rfl)) ?_
    refine wl_e rfl ?_; intro K hK
    refine ow_build hS Tryd.underlying110 tz_22 (bc_take (tmS rfl rfl) <| bc_take (tmS rfl rfl) <| bc_nil) rfl rfl (by kernel_rfl) ?_
    clear hS; intro g6_6 w hg6_6 hS
    refine hK _ _ ?_; clear hK K
    refine wl_e rfl ?_; intro K hK
    refine ow_call Tryd.func62 rfl rfl (evs_cons (tmS rfl rfl) <| evs_nil) (sum_right_rows_c 2 _ _ [(A2, psG a b 17 (datB a1 a2 a3 x).length, c2), (A3, datB a1 a2 a3 x, c3)] _ (viewB hS.ok 0 rfl) (seen_cons (viewR hS.ok 1 rfl) <| seen_cons (viewR hS.ok 2 rfl) seen_nil) (brows_cons (psG_bytes _ _ _ _) <| brows_cons hdb brows_nil) rfl (by omega) (by rw [joined_two, List.length_append]; omega)) ?_
    rintro e w ⟨rfl, hk⟩
    refine ⟨_, rfl, ?_⟩
    rw [rsum_two, ← hgs]
    replace hS := hS.kept hk
    clear hk
    refine hK _ _ ?_; clear hK K
    refine wl_v (x_assign (tmB rfl rfl)) ?_
    refine wl_nil ?_
    refine then_n (hK8 _ _ ?_); clear hK8 K8
    refine wp_ret ?_
    refine ret1 rfl (.tmp rfl (show _ = Value.bool _ from rfl)) ?_
    unfold udF
    rw [if_neg (by first | omega | (simp at hc1; omega))]; exact ⟨rfl, hS.kp⟩
set_option maxRecDepth 100000 in
set_option maxHeartbeats 8000000 in
theorem rudp_bytes_c (a1 a2 a3 : Nat) (L : Option Addr) (d : Nat) (x : List Nat) (w0 : World) (h1 : View w0 w0.heap.size L (x.map u8v)) (q1 : a1 < 65536) (q2 : a2 < 65536) (q3 : a3 < 65536) (hx : x.length ≤ 65527) :
    Calls Tryd.prog 79 #[.agg (datV a1 a2 a3 L x.length d).toArray] w0 fun e w' => ∃ A' n c', n = (datB a1 a2 a3 x).length ∧ e = .returned (.slice A' n c') ∧ New w0 w' (.row (.slice A' n c') 5 1 n ((datB a1 a2 a3 x).map u8v)) ∧ Kp [] w0 w' := by
  have hS := (St.sv w0).vcons rfl h1
  have hdl := datB_len a1 a2 a3 x
  have hjo : ∀ (G1 G2 G3 G4 : Option Addr) (j1 j2 j3 j4 : Nat), joined [(G1, be a1 2, j1), (G2, be a2 2, j2), (G3, be (8 + x.length) 2, j3), (G4, be a3 2, j4), (L, x, d)] = datB a1 a2 a3 x := by
    intro G1 G2 G3 G4 j1 j2 j3 j4
    simp only [joined, datB, List.map_cons, List.map_nil, List.flatten_cons, List.flatten_nil, List.append_nil, List.nil_append, List.append_assoc]
  refine ent (n := 25) Tryd.func79 rfl rfl ?_
  refine wp_seq_k ?_; intro K1 hK1
  refine wlit ?_
  refine wl_e rfl ?_; intro K hK
  refine ow_box hS (tmA rfl rfl) rfl ?_
  clear hS; intro g0_0 w hg0_0 hS
  refine hK _ _ ?_; clear hK K
  refine wl_v (x_assign ev_c) ?_
  refine wl_nil ?_
  refine then_n (hK1 _ _ ?_); clear hK1 K1
  refine wp_seq_k ?_; intro K2 hK2
  refine rg_startk 0 hS mixed_ ?_
  clear hS; intro w hS
  refine rg_take 0 rfl rfl (by kernel_rfl) (by kernel_rfl) (by kernel_rfl) (want_0) (fun w hok => x_fa 0 Tryd.underlying43 rfl rfl ts_27 (tmP rfl rfl)) ?_
  refine rg_take 1 rfl rfl (by kernel_rfl) (by kernel_rfl) (by kernel_rfl) (want_0) (fun w hok => x_load Tryd.underlying27 rfl (tmP rfl rfl) (cellB hok 0 rfl rfl)) ?_
  refine rg_take 2 rfl rfl (by kernel_rfl) (by kernel_rfl) (by kernel_rfl) (want_0) (fun w hok => x_convN Tryd.underlying27 Tryd.underlying24 (tmI rfl rfl) (fit_u64 (by omega))) ?_
  refine rg_take 4 rfl rfl (by kernel_rfl) (by kernel_rfl) (by kernel_rfl) (want_0) (fun w hok => x_fa 1 Tryd.underlying43 rfl rfl ts_27 (tmP rfl rfl)) ?_
  refine rg_take 5 rfl rfl (by kernel_rfl) (by kernel_rfl) (by kernel_rfl) (want_0) (fun w hok => x_load Tryd.underlying27 rfl (tmP rfl rfl) (cellB hok 0 rfl rfl)) ?_
  refine rg_take 6 rfl rfl (by kernel_rfl) (by kernel_rfl) (by kernel_rfl) (want_0) (fun w hok => x_convN Tryd.underlying27 Tryd.underlying24 (tmI rfl rfl) (fit_u64 (by omega))) ?_
  refine rg_take 8 rfl rfl (by kernel_rfl) (by kernel_rfl) (by kernel_rfl) (want_0) (fun w hok => x_fa 3 Tryd.underlying43 rfl rfl ts_22 (tmP rfl rfl)) ?_
  refine rg_take 9 rfl rfl (by kernel_rfl) (by kernel_rfl) (by kernel_rfl) (want_0) (fun w hok => x_load Tryd.underlying22 rfl (tmP rfl rfl) (cellB hok 0 rfl rfl)) ?_
  refine rg_take 10 rfl rfl (by kernel_rfl) (by kernel_rfl) (by kernel_rfl) (want_0) (fun w hok => x_len Tryd.underlying22 (tmS rfl rfl)) ?_
  refine rg_take 11 rfl rfl (by kernel_rfl) (by kernel_rfl) (by kernel_rfl) (want_0) (fun w hok => x_addN (ev_cN 8) (tmI rfl rfl) (fit_i64 (by omega))) ?_
  refine rg_take 12 rfl rfl (by kernel_rfl) (by kernel_rfl) (by kernel_rfl) (want_0) (fun w hok => x_convN Tryd.underlying3 Tryd.underlying24 (tmI rfl rfl) (fit_u64 (by omega))) ?_
  refine rg_take 14 rfl rfl (by kernel_rfl) (by kernel_rfl) (by kernel_rfl) (want_0) (fun w hok => x_fa 2 Tryd.underlying43 rfl rfl ts_27 (tmP rfl rfl)) ?_
  refine rg_take 15 rfl rfl (by kernel_rfl) (by kernel_rfl) (by kernel_rfl) (want_0) (fun w hok => x_load Tryd.underlying27 rfl (tmP rfl rfl) (cellB hok 0 rfl rfl)) ?_
  refine rg_take 16 rfl rfl (by kernel_rfl) (by kernel_rfl) (by kernel_rfl) (want_0) (fun w hok => x_convN Tryd.underlying27 Tryd.underlying24 (tmI rfl rfl) (fit_u64 (by omega))) ?_
  refine rg_take 18 rfl rfl (by kernel_rfl) (by kernel_rfl) (by kernel_rfl) (want_0) (fun w hok => x_fa 3 Tryd.underlying43 rfl rfl ts_22 (tmP rfl rfl)) ?_
  refine rg_take 19 rfl rfl (by kernel_rfl) (by kernel_rfl) (by kernel_rfl) (want_0) (fun w hok => x_load Tryd.underlying22 rfl (tmP rfl rfl) (cellB hok 0 rfl rfl)) ?_
  refine rg_step 3 rfl (by kernel_rfl) (want_0) (oks_drop hS 0 rfl) ?_; intro K hK
  refine ow_call Tryd.func66 rfl rfl (evs_cons (tmI rfl rfl) <| evs_cons (ev_cN 2) <| evs_nil) (rbytes_c a1 2 _ (by omega) (by omega)) ?_
  rintro e w ⟨ga, rfl, hn, hk⟩
  refine ⟨_, rfl, ?_⟩
  replace hS := hS.add hk hn -- +rowa
  clear hn hk
  refine hK _ _ ?_; clear hK K
  refine rg_step 7 rfl (by kernel_rfl) (want_0) (oks_drop hS 1 rfl) ?_; intro K hK
  refine ow_call Tryd.func66 rfl rfl (evs_cons (tmI rfl rfl) <| evs_cons (ev_cN 2) <| evs_nil) (rbytes_c a2 2 _ (by omega) (by omega)) ?_
  rintro e w ⟨gb, rfl, hn, hk⟩
  refine ⟨_, rfl, ?_⟩
  replace hS := hS.add hk hn -- +rowb
  clear hn hk
  refine hK _ _ ?_; clear hK K
  refine rg_step 13 rfl (by kernel_rfl) (want_0) (oks_drop hS 2 rfl) ?_; intro K hK
  refine ow_call Tryd.func66 rfl rfl (evs_cons (tmI rfl rfl) <| evs_cons (ev_cN 2) <| evs_nil) (rbytes_c (8 + x.length) 2 _ (by omega) (by omega)) ?_
  rintro e w ⟨gc, rfl, hn, hk⟩
  refine ⟨_, rfl, ?_⟩
  replace hS := hS.add hk hn -- +rowc
  clear hn hk
  refine hK _ _ ?_; clear hK K
  refine rg_step 17 rfl (by kernel_rfl) (want_0) (oks_drop hS 3 rfl) ?_; intro K hK
  refine ow_call Tryd.func66 rfl rfl (evs_cons (tmI rfl rfl) <| evs_cons (ev_cN 2) <| evs_nil) (rbytes_c a3 2 _ (by omega) (by omega)) ?_
  rintro e w ⟨gd, rfl, hn, hk⟩
  refine ⟨_, rfl, ?_⟩
  replace hS := hS.add hk hn -- +rowd
  clear hn hk
  refine hK _ _ ?_; clear hK K
  refine rg_step 20 rfl (by kernel_rfl) (want_0) (oks_drop hS 4 rfl) ?_; intro K hK
  refine ow_build hS Tryd.underlying110 tz_22 (bc_take (tmS rfl rfl) <| bc_take (tmS rfl rfl) <| bc_take (tmS rfl rfl) <| bc_take (tmS rfl rfl) <| bc_take (tmS rfl rfl) <| bc_nil) rfl rfl (by kernel_rfl) ?_
  clear hS; intro g1_20 w hg1_20 hS
  refine hK _ _ ?_; clear hK K
  refine rg_step 21 rfl (by kernel_rfl) (want_0) (oks_drop hS 5 rfl) ?_; intro K hK
  refine ow_call Tryd.func47 rfl rfl (evs_cons (tmS rfl rfl) <| evs_nil) (join_c 5 _ _ [(some ⟨ga, 0, none⟩, be a1 2, 2), (some ⟨gb, 0, none⟩, be a2 2, 2), (some ⟨gc, 0, none⟩, be (8 + x.length) 2, 2), (some ⟨gd, 0, none⟩, be a3 2, 2), (L, x, d)] _ (viewB hS.ok 0 rfl) (seen_cons (viewR hS.ok 4 rfl) <| seen_cons (viewR hS.ok 3 rfl) <| seen_cons (viewR hS.ok 2 rfl) <| seen_cons (viewR hS.ok 1 rfl) <| seen_cons (viewV hS.ok 6 rfl) seen_nil) rfl (by omega) (by rw [hjo, hdl]; omega)) ?_
  rintro e w ⟨A3, m3, c3, hm3, rfl, hn, hk⟩
  refine ⟨_, rfl, ?_⟩
  rw [hjo] at hn hm3
  replace hS := hS.add hk hn -- +rowe
  clear hn hk
  refine hK _ _ ?_; clear hK K
  refine rg_take 22 rfl rfl (by kernel_rfl) (by kernel_rfl) (by kernel_rfl) (want_0) (fun w hok => x_assign (tmS rfl rfl)) ?_
  refine rg_done (oks_drop hS 6 rfl) (by kernel_rfl) ?_
  refine then_n (hK2 _ _ ?_); clear hK2 K2
  refine wp_ret ?_
  refine ret1 rfl (.tmp rfl (show _ = Value.slice _ _ _ from rfl)) ?_
  exact ⟨_, _, _, hm3, rfl, hS.new 0 rfl rfl, hS.kp⟩
set_option maxRecDepth 100000 in
set_option maxHeartbeats 8000000 in
theorem rudp_sum_c (a1 a2 a3 : Nat) (L : Option Addr) (d : Nat) (x : List Nat) (a b : Ad) (w0 : World) (hv : View w0 w0.heap.size L (x.map u8v)) (hb : Bytes x) (h6 : a.six = b.six) (hla : adLim a) (hlb : adLim b) (hn4 : x.length ≤ 60000) (q1 : a1 < 65536) (q2 : a2 < 65536) (q3 : a3 < 65536) :
    Calls Tryd.prog 49 #[.agg (datV a1 a2 a3 L x.length d).toArray, .agg a.V.toArray, .agg b.V.toArray] w0 fun e w' => e = .returned (.int .u16 ((65535 - foldN (gS a b 17 (datB a1 a2 a3 x)) : Nat) : Int)) ∧ Kp [] w0 w' := by
  have hS := (St.sv w0).vcons rfl hv
  have hpl := psG_len (p := 17) (n := (datB a1 a2 a3 x).length) h6
  have hdl := datB_len a1 a2 a3 x
  have hgs := gS_joined a b 17 (datB a1 a2 a3 x) h6
  have hdb := datB_bytes a1 a2 a3 hb
  have hjb : Bytes (psG a b 17 (datB a1 a2 a3 x).length ++ datB a1 a2 a3 x) := (psG_bytes _ _ _ _).append hdb
  refine ent (n := 19) Tryd.func49 rfl rfl ?_
  refine wp_seq_k ?_; intro K1 hK1
  refine wlit ?_
  refine wl_e rfl ?_; intro K hK
  refine ow_box hS (tmA rfl rfl) rfl ?_
  clear hS; intro g0_0 w hg0_0 hS
  refine hK _ _ ?_; clear hK K
  refine wl_e rfl ?_; intro K hK
  refine ow_box hS (tmA rfl rfl) rfl ?_
  clear hS; intro g0_1 w hg0_1 hS
  refine hK _ _ ?_; clear hK K
  refine wl_e rfl ?_; intro K hK
  refine ow_box hS (tmA rfl rfl) rfl ?_
  clear hS; intro g0_2 w hg0_2 hS
  refine hK _ _ ?_; clear hK K
  refine wl_v (x_assign (ev_cN 0)) ?_
  refine wl_nil ?_
  refine then_n (hK1 _ _ ?_); clear hK1 K1
  refine wp_seq_k ?_; intro K2 hK2
  refine wlit ?_
  refine wl_v (x_loadA (cs := [_, _, _, _]) Tryd.underlying43 rfl ts_43 (tmP rfl rfl) (rangeB hS.ok 2 rfl rfl)) ?_
  refine wl_e rfl ?_; intro K hK
  refine ow_call Tryd.func79 rfl rfl (evs_cons (tmA rfl rfl) <| evs_nil) (rudp_bytes_c a1 a2 a3 L d x _ (viewV hS.ok 3 rfl) q1 q2 q3 (by omega)) ?_
  rintro e w ⟨A3, m3, c3, hm3, rfl, hn, hk⟩
  refine ⟨_, rfl, ?_⟩
  subst hm3
  replace hS := hS.add hk hn -- +rowb
  clear hn hk
  refine hK _ _ ?_; clear hK K
  refine wl_v (x_assign (tmS rfl rfl)) ?_
  refine wl_nil ?_
  refine then_n (hK2 _ _ ?_); clear hK2 K2
  refine wp_seq_k ?_; intro K3 hK3
  refine wlit ?_
  refine wl_v (x_loadA (cs := [_, _, _]) Tryd.underlying26 rfl ts_26 (tmP rfl rfl) (rangeB hS.ok 2 rfl rfl)) ?_
  refine wl_v (x_loadA (cs := [_, _, _]) Tryd.underlying26 rfl ts_26 (tmP rfl rfl) (rangeB hS.ok 1 rfl rfl)) ?_
  refine wl_v (x_move (tmS rfl rfl)) ?_
  refine wl_v (x_len Tryd.underlying22 (tmS rfl rfl)) ?_
  refine wl_e rfl ?_; intro K hK
  refine ow_call Tryd.func48 rfl rfl (evs_cons (tmA rfl rfl) <| evs_cons (tmA rfl rfl) <| evs_cons (ev_cN 17) <| evs_cons (tmI rfl rfl) <| evs_nil) (rpseudo_g a b 17 (datB a1 a2 a3 x).length _ h6 hla hlb (by omega) (by omega)) ?_
  rintro e w ⟨A2, m2, c2, hm2, rfl, hn, hk⟩
  refine ⟨_, rfl, ?_⟩
  subst hm2
  replace hS := hS.add hk hn -- +rowp
  clear hn hk
  refine hK _ _ ?_; clear hK K
  refine wl_v (x_move (tmS rfl rfl)) ?_
  refine wl_e rfl ?_; intro K hK
  refine ow_build hS Tryd.underlying110 tz_22 (bc_take (tmS rfl rfl) <| bc_take (tmS rfl rfl) <| bc_nil) rfl rfl (by kernel_rfl) ?_
  clear hS; intro g2_6 w hg2_6 hS
  refine hK _ _ ?_; clear hK K
  refine wl_e rfl ?_; intro K hK
  refine ow_call Tryd.func47 rfl rfl (evs_cons (tmS rfl rfl) <| evs_nil) (join_c 2 _ _ [(A2, psG a b 17 (datB a1 a2 a3 x).length, c2), (A3, datB a1 a2 a3 x, c3)] _ (viewB hS.ok 0 rfl) (seen_cons (viewR hS.ok 1 rfl) <| seen_cons (viewR hS.ok 2 rfl) seen_nil) rfl (by omega) (by rw [joined_two, List.length_append]; omega)) ?_
  rintro e w ⟨A4, m4, c4, hm4, rfl, hn, hk⟩
  refine ⟨_, rfl, ?_⟩
  rw [joined_two] at hn hm4
  subst hm4
  replace hS := hS.add hk hn -- +rowj
  clear hn hk
  refine hK _ _ ?_; clear hK K
  refine wl_e rfl ?_; intro K hK
  refine ow_call Tryd.func46 rfl rfl (evs_cons (tmS rfl rfl) <| evs_nil) (rsum_of_c _ _ _ _ _ (viewR hS.ok 0 rfl) rfl hjb (by rw [List.length_append]; omega)) ?_
  rintro e w ⟨rfl, hk⟩
  refine ⟨_, rfl, ?_⟩
  rw [hgs]
  replace hS := hS.kept hk
  clear hk
  refine hK _ _ ?_; clear hK K
  refine wl_v (x_assign (tmI rfl rfl)) ?_
  refine wl_nil ?_
  refine then_n (hK3 _ _ ?_); clear hK3 K3
  refine wp_ret ?_
  refine ret1 rfl (.tmp rfl (show _ = Value.int _ _ from rfl)) ?_
  exact ⟨rfl, hS.kp⟩
set_option maxRecDepth 100000 in
set_option maxHeartbeats 8000000 in
theorem rudp_fine_c (a1 a2 a3 : Nat) (L : Option Addr) (k d : Nat) (x : List Nat) (a b : Ad) (w0 : World) (hv : View w0 w0.heap.size L (x.map u8v)) (hk0 : k = x.length) (hb : Bytes x) (h6 : a.six = b.six) (hla : adLim a) (hlb : adLim b) (hn4 : x.length ≤ 60000) (q1 : a1 < 65536) (q2 : a2 < 65536) (q3 : a3 < 65536) :
    Calls Tryd.prog 24 #[.agg (datV a1 a2 a3 L k d).toArray, .agg a.V.toArray, .agg b.V.toArray] w0 fun e w' => e = .returned (.bool (udF a1 a2 a3 x a b)) ∧ Kp [] w0 w' := by
  subst hk0
  have hS := (St.sv w0).vcons rfl hv
  have hfb := foldN_bd (gS a b 17 (datB a1 a2 a3 x))
  refine ent (n := 18) Tryd.func24 rfl rfl ?_
  refine wp_seq_k ?_; intro K1 hK1
  refine wlit ?_
  refine wl_e rfl ?_; intro K hK
  refine ow_box hS (tmA rfl rfl) rfl ?_
  clear hS; intro g0_0 w hg0_0 hS
  refine hK _ _ ?_; clear hK K
  refine wl_e rfl ?_; intro K hK
  refine ow_box hS (tmA rfl rfl) rfl ?_
  clear hS; intro g0_1 w hg0_1 hS
  refine hK _ _ ?_; clear hK K
  refine wl_e rfl ?_; intro K hK
  refine ow_box hS (tmA rfl rfl) rfl ?_
  clear hS; intro g0_2 w hg0_2 hS
  refine hK _ _ ?_; clear hK K
  refine wl_v (x_assign ev_c) ?_
  refine wl_nil ?_
  refine then_n (hK1 _ _ ?_); clear hK1 K1
  refine wp_seq_k ?_; intro K2 hK2
  refine wp_seq_k ?_; intro K3 hK3
  refine wlit ?_
  refine wl_v (x_fa 2 Tryd.underlying43 rfl rfl ts_27 (tmP rfl rfl)) ?_
  refine wl_v (x_load Tryd.underlying27 rfl (tmP rfl rfl) (cellB hS.ok 2 rfl rfl)) ?_
  refine wl_v (x_eql (tmI rfl rfl) (ev_cN 0)) ?_
  refine wl_nil ?_
  refine then_n (hK3 _ _ ?_); clear hK3 K3
  refine cnd (tm rfl) (fun hc0 => ?_) (fun hc0 => ?_)
  · skip
    all_goals
     try simp only [nrm] at hc0
     refine wp_seq_k ?_; intro K4 hK4
     refine wlit ?_
     refine wl_v (x_fa 0 Tryd.underlying26 rfl rfl ts_4 (tmP rfl rfl)) ?_
     refine wl_v (x_load Tryd.underlying4 rfl (tmP rfl rfl) (cellB hS.ok 1 rfl rfl)) ?_
     refine wl_v (x_not (tmB rfl rfl)) ?_
     refine wl_v (x_assign (tmB rfl rfl)) ?_
     refine wl_nil ?_
     refine then_n (hK4 _ _ ?_); clear hK4 K4
     refine wp_ret ?_
     refine then_r ?_
     refine ret1 rfl (.tmp rfl (show _ = Value.bool _ from rfl)) ?_
     unfold udF
     first
       | (rw [if_pos (by first | omega | (simp at hc0; omega))]; exact ⟨rfl, hS.kp⟩)
       | (rw [if_neg (by first | omega | (simp at hc0; omega))]
          refine ⟨ret_bool (decide_eq_decide.2 ?_), hS.kp⟩
          omega)
  all_goals
   try simp only [nrm] at hc0
   refine wp_skip ?_
   refine then_n (hK2 _ _ ?_); clear hK2 K2
   refine wp_seq_k ?_; intro K5 hK5
   refine wlit ?_
   refine wl_v (x_loadA (cs := [_, _, _, _]) Tryd.underlying43 rfl ts_43 (tmP rfl rfl) (rangeB hS.ok 2 rfl rfl)) ?_
   refine wl_v (x_loadA (cs := [_, _, _]) Tryd.underlying26 rfl ts_26 (tmP rfl rfl) (rangeB hS.ok 1 rfl rfl)) ?_
   refine wl_v (x_loadA (cs := [_, _, _]) Tryd.underlying26 rfl ts_26 (tmP rfl rfl) (rangeB hS.ok 0 rfl rfl)) ?_
   refine wl_e rfl ?_; intro K hK
   refine ow_call Tryd.func49 rfl rfl (evs_cons (tmA rfl rfl) <| evs_cons (tmA rfl rfl) <| evs_cons (tmA rfl rfl) <| evs_nil) (rudp_sum_c a1 a2 a3 L d x a b _ (viewV hS.ok 3 rfl) hb h6 hla hlb hn4 q1 q2 q3) ?_
   rintro e w ⟨rfl, hk⟩
   refine ⟨_, rfl, ?_⟩
   replace hS := hS.kept hk
   clear hk
   refine hK _ _ ?_; clear hK K
   refine wl_v (x_eql (tmI rfl rfl) (ev_cN 0)) ?_
   refine wl_v (x_assign (tmB rfl rfl)) ?_
   refine wl_nil ?_
   refine then_n (hK5 _ _ ?_); clear hK5 K5
   refine wp_ret ?_
   refine ret1 rfl (.tmp rfl (show _ = Value.bool _ from rfl)) ?_
   unfold udF
   first
     | (rw [if_pos (by first | omega | (simp at hc0; omega))]; exact ⟨rfl, hS.kp⟩)
     | (rw [if_neg (by first | omega | (simp at hc0; omega))]
        refine ⟨ret_bool (decide_eq_decide.2 ?_), hS.kp⟩
        omega)
end Go.Proofs.YtmekadkmmddocaaDoor
