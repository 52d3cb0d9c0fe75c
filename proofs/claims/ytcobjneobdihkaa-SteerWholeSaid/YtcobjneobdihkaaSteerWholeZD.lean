import Derived.Test.YtcobjneobdihkaaSteerWholeZC
/- pseudo headers of both families; the sums of TCP and UDP, by contract. Conditions: none but bounds. -/
namespace Go.Proofs.Ytcobjneobdihkaa
open Go.RowKit
def ps4 (s d : Ad) (p n : Nat) : List Nat := adB s ++ adB d ++ be p 2 ++ be n 2
theorem adN_four {a : Ad} (h : a.six = false) : adN a = 4 := by unfold adN; rw [h]; rfl
theorem ps4_len {s d : Ad} {p n : Nat} (hs : s.six = false) (hd : d.six = false) : (ps4 s d p n).length = 12 := by simp [ps4, be_length, adB_len, adN_four hs, adN_four hd]
theorem ps4_bytes (s d : Ad) (p n : Nat) : Bytes (ps4 s d p n) := by
  unfold ps4
  repeat' (first | exact be_bytes _ _ | exact adB_bytes _ | apply Bytes.append)
def psG (s d : Ad) (p n : Nat) : List Nat := cond s.six (ps6 s d p n) (ps4 s d p n)
theorem psG_six {s d : Ad} {p n : Nat} (hs : s.six = true) : psG s d p n = ps6 s d p n := by unfold psG; rw [hs]; rfl
theorem psG_four {s d : Ad} {p n : Nat} (hs : s.six = false) : psG s d p n = ps4 s d p n := by unfold psG; rw [hs]; rfl
theorem psG_len {s d : Ad} {p n : Nat} (h : s.six = d.six) : (psG s d p n).length = 40 ∨ (psG s d p n).length = 12 := by
  cases hs : s.six
  · right; rw [psG_four hs, ps4_len hs (h ▸ hs)]
  · left; rw [psG_six hs, ps6_len hs (h ▸ hs)]
theorem psG_bytes (s d : Ad) (p n : Nat) : Bytes (psG s d p n) := by
  unfold psG
  cases s.six
  · exact ps4_bytes _ _ _ _
  · exact ps6_bytes _ _ _ _
set_option maxRecDepth 100000 in
set_option maxHeartbeats 8000000 in
theorem ip6_pseudo4_c (s d : Ad) (p n : Nat) (w0 : World) (hs : s.six = false) (hd : d.six = false) (hls : adLim s) (hld : adLim d) (hp : p ≤ 255) (hn4 : n ≤ 1000000) :
    Calls Try.prog 83 #[.agg s.V.toArray, .agg d.V.toArray, .int .u8 (p : Int), .int .i64 (n : Int)] w0 fun e w' => ∃ A' m c', m = (ps4 s d p n).length ∧ e = .returned (.slice A' m c') ∧ New w0 w' (.row (.slice A' m c') 5 1 m ((ps4 s d p n).map u8v)) ∧ Kp [] w0 w' := by
  have hS := St.sv w0
  have hns := adN_four hs
  have hnd := adN_four hd
  have hsl : (adB s).length = 4 := by rw [adB_len, hns]
  have hdl : (adB d).length = 4 := by rw [adB_len, hnd]
  refine ent (n := 33) Try.func83 rfl rfl ?_
  refine wp_seq_k ?_; intro K1 hK1
  refine wlit ?_
  refine wl_e rfl ?_; intro K hK
  refine ow_box hS (tmA rfl rfl) rfl ?_
  clear hS; intro g0_0 w hg0_0 hS
  refine hK _ _ ?_; clear hK K
  refine wl_e rfl ?_; intro K hK
  refine ow_box hS (tmA rfl rfl) rfl ?_
  clear hS; intro g0_1 w hg0_1 hS
  refine hK _ _ ?_; clear hK K
  refine wl_v (x_assign ev_c) ?_
  refine wl_nil ?_
  refine then_n (hK1 _ _ ?_); clear hK1 K1
  refine wp_seq_k ?_; intro K2 hK2
  refine rg_startk 0 hS mixed_ ?_
  clear hS; intro w hS
  refine rg_take 0 rfl rfl (by kernel_rfl) (by kernel_rfl) (by kernel_rfl) (want_0) (fun w hok => x_loadA (cs := [_, _, _]) Try.underlying26 rfl ts_26 (tmP rfl rfl) (rangeB hok 1 rfl rfl)) ?_
  refine rg_take 2 rfl rfl (by kernel_rfl) (by kernel_rfl) (by kernel_rfl) (want_0) (fun w hok => x_loadA (cs := [_, _, _]) Try.underlying26 rfl ts_26 (tmP rfl rfl) (rangeB hok 0 rfl rfl)) ?_
  refine rg_step 1 rfl (by kernel_rfl) (want_0) (oks_drop hS 0 rfl) ?_; intro K hK
  refine ow_call Try.func50 rfl rfl (evs_cons (tmA rfl rfl) <| evs_nil) (ad_bytes_c s _ hls) ?_
  rintro e w ⟨Aa, na, ca, hna, rfl, hn, hk⟩
  refine ⟨_, rfl, ?_⟩
  obtain rfl : na = 4 := hna.trans hns
  replace hS := hS.add hk hn -- +rowb
  clear hn hk
  refine hK _ _ ?_; clear hK K
  refine rg_step 3 rfl (by kernel_rfl) (want_0) (oks_drop hS 1 rfl) ?_; intro K hK
  refine ow_call Try.func50 rfl rfl (evs_cons (tmA rfl rfl) <| evs_nil) (ad_bytes_c d _ hld) ?_
  rintro e w ⟨Ab, nb, cb, hnb, rfl, hn, hk⟩
  refine ⟨_, rfl, ?_⟩
  obtain rfl : nb = 4 := hnb.trans hnd
  replace hS := (hS.add hk hn).freeze 0 rfl -- +va
  clear hn hk
  refine hK _ _ ?_; clear hK K
  refine rg_step 4 rfl (by kernel_rfl) (want_0) (oks_drop hS 2 rfl) ?_; intro K hK
  refine ow_appendV hS 1 rfl (viewV hS.ok 0 rfl) Try.underlying22 tz_5 rfl (tmS rfl rfl) (tmS rfl rfl) (by first | exact u8v_one _ | (intro u hu; simp at hu; first | (rcases hu with rfl | rfl <;> rfl) | (obtain ⟨_, _, rfl⟩ := hu; rfl))) ⟨by decide, by first | rfl | (simp; done) | (simp; omega)⟩ (by simp only [maxLen]; omega) (by omega) ?_; clear hS; intro g1_4 cg1_4 w hAg1_4 hCg1_4 hS
  refine hK _ _ ?_; clear hK K
  refine rg_take 5 rfl rfl (by kernel_rfl) (by kernel_rfl) (by kernel_rfl) (want_0) (fun w hok => x_assign (tmS rfl rfl)) ?_
  refine rg_done (oks_drop hS 2 rfl) (by kernel_rfl) ?_
  rw [← List.map_append] at hS
  replace hS := hS.pick [1, 2, 3] rfl rfl
  try replace hS := St.nm (M' := [.row _ _ _ _ _, .blk _ _ [_, _, _], .blk _ _ [_, _, _]]) hS rfl
  refine then_n (hK2 _ _ ?_); clear hK2 K2
  refine wp_seq_k ?_; intro K3 hK3
  refine wp_seq_k ?_; intro K4 hK4
  refine wlit ?_
  refine wl_v (x_fa 0 Try.underlying26 rfl rfl ts_4 (tmP rfl rfl)) ?_
  refine wl_v (x_load Try.underlying4 rfl (tmP rfl rfl) (cellB hS.ok 2 rfl rfl)) ?_
  refine wl_nil ?_
  refine then_n (hK4 _ _ ?_); clear hK4 K4
  refine cnd (tm rfl) (fun hc0 => ?_) (fun hc0 => ?_)
  · exfalso
    rw [hs] at hc0
    cases hc0
  try simp only [nrm] at hc0
  refine wp_skip ?_
  refine then_n (hK3 _ _ ?_); clear hK3 K3
  refine wp_seq_k ?_; intro K5 hK5
  refine wlit ?_
  refine wl_v (x_move (tmS rfl rfl)) ?_
  refine wl_v (x_move (tmI rfl rfl)) ?_
  refine wl_v (x_convN Try.underlying5 Try.underlying24 (tmI rfl rfl) (fit_u64 (by omega))) ?_
  refine wl_e rfl ?_; intro K hK
  refine ow_call Try.func48 rfl rfl (evs_cons (tmS rfl rfl) <| evs_cons (tmI rfl rfl) <| evs_cons (ev_cN 2) <| evs_nil) (put_c _ _ _ _ _ _ _ (viewR hS.ok 0 rfl) (by simp [be_length, hsl, hdl]) (by omega) (by omega) (by omega)) ?_
  rintro e w ⟨g2, rfl, hn, hk⟩
  refine ⟨_, rfl, ?_⟩
  replace hS := (hS.add hk hn).pick [0, 2, 3] rfl rfl --ents rowb,g0_1,g0_0
  clear hn hk
  try replace hS := St.nm (M' := [.row _ _ _ _ _, .blk _ _ [_, _, _], .blk _ _ [_, _, _]]) hS rfl
  refine hK _ _ ?_; clear hK K
  refine wl_v (x_assign (tmS rfl rfl)) ?_
  refine wl_nil ?_
  refine then_n (hK5 _ _ ?_); clear hK5 K5
  refine wp_seq_k ?_; intro K6 hK6
  refine wlit ?_
  refine wl_v (x_move (tmS rfl rfl)) ?_
  refine wl_v (x_move (tmI rfl rfl)) ?_
  refine wl_v (x_convN Try.underlying3 Try.underlying24 (tmI rfl rfl) (fit_u64 (by omega))) ?_
  refine wl_e rfl ?_; intro K hK
  refine ow_call Try.func48 rfl rfl (evs_cons (tmS rfl rfl) <| evs_cons (tmI rfl rfl) <| evs_cons (ev_cN 2) <| evs_nil) (put_c _ _ _ _ _ _ _ (viewR hS.ok 0 rfl) (by simp [be_length, hsl, hdl]) (by omega) (by omega) (by omega)) ?_
  rintro e w ⟨g2, rfl, hn, hk⟩
  refine ⟨_, rfl, ?_⟩
  replace hS := (hS.add hk hn).pick [0, 2, 3] rfl rfl --ents rowb,g0_1,g0_0
  clear hn hk
  try replace hS := St.nm (M' := [.row _ _ _ _ _, .blk _ _ [_, _, _], .blk _ _ [_, _, _]]) hS rfl
  refine hK _ _ ?_; clear hK K
  refine wl_v (x_assign (tmS rfl rfl)) ?_
  refine wl_nil ?_
  refine then_n (hK6 _ _ ?_); clear hK6 K6
  refine wp_ret ?_
  refine ret1 rfl (.tmp rfl (show _ = Value.slice _ _ _ from rfl)) ?_
  exact ⟨_, _, _, by rw [ps4_len hs hd], rfl, hS.new 0 rfl rfl, hS.kp⟩
theorem be2_small {p : Nat} (h : p ≤ 255) : be p 2 = [0, p] := by
  rw [be2]
  simp only [List.cons.injEq, and_true]
  refine ⟨by omega, by omega⟩
set_option maxRecDepth 100000 in
set_option maxHeartbeats 8000000 in
theorem rip6_pseudo4_c (s d : Ad) (p n : Nat) (w0 : World) (hs : s.six = false) (hd : d.six = false) (hls : adLim s) (hld : adLim d) (hp : p ≤ 255) (hn4 : n ≤ 65535) :
    Calls Try.prog 58 #[.agg s.V.toArray, .agg d.V.toArray, .int .u8 (p : Int), .int .i64 (n : Int)] w0 fun e w' => ∃ A' m c', m = (ps4 s d p n).length ∧ e = .returned (.slice A' m c') ∧ New w0 w' (.row (.slice A' m c') 5 1 m ((ps4 s d p n).map u8v)) ∧ Kp [] w0 w' := by
  have hS := St.sv w0
  have hns := adN_four hs
  have hnd := adN_four hd
  have hsl : (adB s).length = 4 := by rw [adB_len, hns]
  have hdl : (adB d).length = 4 := by rw [adB_len, hnd]
  have hlen := ps4_len (p := p) (n := n) hs hd
  have hj2 : ∀ (G1 G2 G3 : Option Addr) (j1 j2 j3 : Nat), joined [(G1, adB s, j1), (G2, adB d, j2), (G3, [0, p, n / 256, n % 256], j3)] = ps4 s d p n := by
    intro G1 G2 G3 j1 j2 j3
    have e1 := be2_small hp
    have e2 : be n 2 = [n / 256, n % 256] := by
      rw [be2, Nat.mod_eq_of_lt (show n / 256 < 256 by omega)]
    simp only [joined, ps4, e1, e2, List.map_cons, List.map_nil, List.flatten_cons, List.flatten_nil, List.append_nil, List.append_assoc, List.cons_append, List.nil_append]
  refine ent (n := 34) Try.func58 rfl rfl ?_
  refine wp_seq_k ?_; intro K1 hK1
  refine wlit ?_
  refine wl_e rfl ?_; intro K hK
  refine ow_box hS (tmA rfl rfl) rfl ?_
  clear hS; intro g0_0 w hg0_0 hS
  refine hK _ _ ?_; clear hK K
  refine wl_e rfl ?_; intro K hK
  refine ow_box hS (tmA rfl rfl) rfl ?_
  clear hS; intro g0_1 w hg0_1 hS
  refine hK _ _ ?_; clear hK K
  refine wl_v (x_assign ev_c) ?_
  refine wl_nil ?_
  refine then_n (hK1 _ _ ?_); clear hK1 K1
  refine wp_seq_k ?_; intro K2 hK2
  refine wlit ?_
  refine wl_v (x_move (tmI rfl rfl)) ?_
  refine wl_v (x_move (tmI rfl rfl)) ?_
  refine wl_v (x_quoN (tmI rfl rfl) (ev_cN 256) (by omega) (fit_i64 (by omega))) ?_
  refine wl_v (x_convN Try.underlying3 Try.underlying5 (tmI rfl rfl) (fit_u8 (by omega))) ?_
  refine wl_v (x_move (tmI rfl rfl)) ?_
  refine wl_v (x_remN (tmI rfl rfl) (ev_cN 256) (by omega)) ?_
  refine wl_v (x_convN Try.underlying3 Try.underlying5 (tmI rfl rfl) (fit_u8 (by omega))) ?_
  refine wl_e rfl ?_; intro K hK
  refine ow_build hS Try.underlying22 tz_5 (bc_take (ev_cN 0) <| bc_take (tmI rfl rfl) <| bc_take (tmI rfl rfl) <| bc_take (tmI rfl rfl) <| bc_nil) rfl rfl (by kernel_rfl) ?_
  clear hS; intro g1_7 w hg1_7 hS
  refine hK _ _ ?_; clear hK K
  refine wl_v (x_assign (tmS rfl rfl)) ?_
  refine wl_nil ?_
  refine then_n (hK2 _ _ ?_); clear hK2 K2
  refine wp_seq_k ?_; intro K3 hK3
  refine wp_seq_k ?_; intro K4 hK4
  refine wlit ?_
  refine wl_v (x_fa 0 Try.underlying26 rfl rfl ts_4 (tmP rfl rfl)) ?_
  refine wl_v (x_load Try.underlying4 rfl (tmP rfl rfl) (cellB hS.ok 2 rfl rfl)) ?_
  refine wl_nil ?_
  refine then_n (hK4 _ _ ?_); clear hK4 K4
  refine cnd (tm rfl) (fun hc0 => ?_) (fun hc0 => ?_)
  · exfalso
    rw [hs] at hc0
    cases hc0
  try simp only [nrm] at hc0
  refine wp_skip ?_
  refine then_n (hK3 _ _ ?_); clear hK3 K3
  refine wp_seq_k ?_; intro K5 hK5
  refine rg_startk 0 hS mixed_ ?_
  clear hS; intro w hS
  refine rg_take 0 rfl rfl (by kernel_rfl) (by kernel_rfl) (by kernel_rfl) (want_0) (fun w hok => x_loadA (cs := [_, _, _]) Try.underlying26 rfl ts_26 (tmP rfl rfl) (rangeB hok 2 rfl rfl)) ?_
  refine rg_take 2 rfl rfl (by kernel_rfl) (by kernel_rfl) (by kernel_rfl) (want_0) (fun w hok => x_loadA (cs := [_, _, _]) Try.underlying26 rfl ts_26 (tmP rfl rfl) (rangeB hok 1 rfl rfl)) ?_
  refine rg_take 4 rfl rfl (by kernel_rfl) (by kernel_rfl) (by kernel_rfl) (want_0) (fun w hok => x_move (tmS rfl rfl)) ?_
  refine rg_step 1 rfl (by kernel_rfl) (want_0) (oks_drop hS 0 rfl) ?_; intro K hK
  refine ow_call Try.func74 rfl rfl (evs_cons (tmA rfl rfl) <| evs_nil) (rad_bytes_c _ _ hls) ?_
  rintro e w ⟨Ad, nd, cd, hn', rfl, hn, hk⟩
  refine ⟨_, rfl, ?_⟩
  obtain rfl : nd = 4 := hn'.trans hns
  replace hS := hS.add hk hn -- +rowd
  clear hn hk
  refine hK _ _ ?_; clear hK K
  refine rg_step 3 rfl (by kernel_rfl) (want_0) (oks_drop hS 1 rfl) ?_; intro K hK
  refine ow_call Try.func74 rfl rfl (evs_cons (tmA rfl rfl) <| evs_nil) (rad_bytes_c _ _ hld) ?_
  rintro e w ⟨Ae, ne, ce, hn', rfl, hn, hk⟩
  refine ⟨_, rfl, ?_⟩
  obtain rfl : ne = 4 := hn'.trans hnd
  replace hS := hS.add hk hn -- +rowe
  clear hn hk
  refine hK _ _ ?_; clear hK K
  refine rg_step 5 rfl (by kernel_rfl) (want_0) (oks_drop hS 2 rfl) ?_; intro K hK
  refine ow_build hS Try.underlying126 tz_22 (bc_take (tmS rfl rfl) <| bc_take (tmS rfl rfl) <| bc_take (tmS rfl rfl) <| bc_nil) rfl rfl (by kernel_rfl) ?_
  clear hS; intro g4_5 w hg4_5 hS
  refine hK _ _ ?_; clear hK K
  refine rg_step 6 rfl (by kernel_rfl) (want_0) (oks_drop hS 3 rfl) ?_; intro K hK
  refine ow_call Try.func57 rfl rfl (evs_cons (tmS rfl rfl) <| evs_nil) (join_c 3 _ _ [(Ad, adB s, cd), (Ae, adB d, ce), (some ⟨g1_7, 0, none⟩, [0, p, n / 256, n % 256], 4)] _ (by have h := viewB hS.ok 0 rfl; simp only [List.map_cons, List.map_nil, rowV, hsl, hdl]; exact h) (seen_cons (viewR hS.ok 2 rfl) <| seen_cons (viewR hS.ok 1 rfl) <| seen_cons (viewB hS.ok 3 rfl) seen_nil) rfl (by omega) (by rw [hj2, hlen]; omega)) ?_
  rintro e w ⟨Az, mz_, cz, hmz, rfl, hn, hk⟩
  refine ⟨_, rfl, ?_⟩
  rw [hj2] at hn hmz
  replace hS := hS.add hk hn -- +rowz
  clear hn hk
  refine hK _ _ ?_; clear hK K
  refine rg_take 7 rfl rfl (by kernel_rfl) (by kernel_rfl) (by kernel_rfl) (want_0) (fun w hok => x_assign (tmS rfl rfl)) ?_
  refine rg_done (oks_drop hS 4 rfl) (by kernel_rfl) ?_
  refine then_n (hK5 _ _ ?_); clear hK5 K5
  refine wp_ret ?_
  refine ret1 rfl (.tmp rfl (show _ = Value.slice _ _ _ from rfl)) ?_
  exact ⟨_, _, _, hmz, rfl, hS.new 0 rfl rfl, hS.kp⟩
theorem pseudo_g (s d : Ad) (p n : Nat) (w0 : World) (h6 : s.six = d.six) (hls : adLim s) (hld : adLim d) (hp : p ≤ 255) (hn4 : n ≤ 65535) :
    Calls Try.prog 83 #[.agg s.V.toArray, .agg d.V.toArray, .int .u8 (p : Int), .int .i64 (n : Int)] w0 fun e w' => ∃ A' m c', m = (psG s d p n).length ∧ e = .returned (.slice A' m c') ∧ New w0 w' (.row (.slice A' m c') 5 1 m ((psG s d p n).map u8v)) ∧ Kp [] w0 w' := by
  cases hs : s.six
  · rw [psG_four hs]; exact ip6_pseudo4_c s d p n w0 hs (h6 ▸ hs) hls hld hp (by omega)
  · rw [psG_six hs]; exact ip6_pseudo6_c s d p n w0 hs (h6 ▸ hs) hls hld hp (by omega)
theorem rpseudo_g (s d : Ad) (p n : Nat) (w0 : World) (h6 : s.six = d.six) (hls : adLim s) (hld : adLim d) (hp : p ≤ 255) (hn4 : n ≤ 65535) :
    Calls Try.prog 58 #[.agg s.V.toArray, .agg d.V.toArray, .int .u8 (p : Int), .int .i64 (n : Int)] w0 fun e w' => ∃ A' m c', m = (psG s d p n).length ∧ e = .returned (.slice A' m c') ∧ New w0 w' (.row (.slice A' m c') 5 1 m ((psG s d p n).map u8v)) ∧ Kp [] w0 w' := by
  cases hs : s.six
  · rw [psG_four hs]; exact rip6_pseudo4_c s d p n w0 hs (h6 ▸ hs) hls hld hp hn4
  · rw [psG_six hs]; exact rip6_pseudo6_c s d p n w0 hs (h6 ▸ hs) hls hld hp hn4
/-- The sum of a pseudo header and what follows. -/
def gS (s d : Ad) (p : Nat) (x : List Nat) : Nat := psum (psG s d p x.length) (psG s d p x.length).length + psum x x.length
theorem gS_joined (s d : Ad) (p : Nat) (x : List Nat) (h6 : s.six = d.six) : psum (psG s d p x.length ++ x) (psG s d p x.length ++ x).length = gS s d p x := by
  unfold gS
  rw [List.length_append]
  exact psum_append (by rcases psG_len (p := p) (n := x.length) h6 with h | h <;> rw [h]) _
set_option maxRecDepth 100000 in
set_option maxHeartbeats 8000000 in
theorem tcp_fine_c (A : Option Addr) (c : Nat) (x : List Nat) (a b : Ad) (w0 : World) (hv : View w0 w0.heap.size A (x.map u8v)) (hb : Bytes x) (h6 : a.six = b.six) (hla : adLim a) (hlb : adLim b) (hn4 : x.length ≤ 60000) :
    Calls Try.prog 78 #[.slice A x.length c, .agg a.V.toArray, .agg b.V.toArray] w0 fun e w' => e = .returned (.bool (decide (foldN (gS a b 6 x) = 65535))) ∧ Kp [] w0 w' := by
  have hS := (St.sv w0).vcons rfl hv
  have hpl := psG_len (p := 6) (n := x.length) h6
  have hgs : gS a b 6 x = psum (psG a b 6 x.length) (psG a b 6 x.length).length + psum x x.length := rfl
  refine ent (n := 20) Try.func78 rfl rfl ?_
  refine wp_seq_k ?_; intro K1 hK1
  refine wlit ?_
  refine wl_e rfl ?_; intro K hK
  refine ow_box hS (tmA rfl rfl) rfl ?_
  clear hS; intro g0_0 w hg0_0 hS
  refine hK _ _ ?_; clear hK K
  refine wl_e rfl ?_; intro K hK
  refine ow_box hS (tmA rfl rfl) rfl ?_
  clear hS; intro g0_1 w hg0_1 hS
  refine hK _ _ ?_; clear hK K
  refine wl_v (x_assign ev_c) ?_
  refine wl_nil ?_
  refine then_n (hK1 _ _ ?_); clear hK1 K1
  refine wp_seq_k ?_; intro K2 hK2
  refine wlit ?_
  refine wl_v (x_move (tmS rfl rfl)) ?_
  refine wl_v (x_len Try.underlying22 (tmS rfl rfl)) ?_
  refine wl_v (x_leq (tmI rfl rfl) (ev_cN 65535)) ?_
  refine wl_v (x_move (tmB rfl rfl)) ?_
  refine gs_wl (tm (t := 10) rfl) (fun hg1_3 => ?_) (fun hg1_3 => ?_)
  · have hg1_3' := hg1_3; (try simp only [nrm] at hg1_3')
    refine wl_gv (want_y rfl rfl rfl rfl (by rw [hg1_3]; rfl)) (x_loadA (cs := [_, _, _]) Try.underlying26 rfl ts_26 (tmP rfl rfl) (rangeB hS.ok 1 rfl rfl)) ?_
    refine wl_gv (want_y rfl rfl rfl rfl (by rw [hg1_3]; rfl)) (x_loadA (cs := [_, _, _]) Try.underlying26 rfl ts_26 (tmP rfl rfl) (rangeB hS.ok 0 rfl rfl)) ?_
    refine wl_gv (want_y rfl rfl rfl rfl (by rw [hg1_3]; rfl)) (x_move (tmS rfl rfl)) ?_
    refine wl_gv (want_y rfl rfl rfl rfl (by rw [hg1_3]; rfl)) (x_len Try.underlying22 (tmS rfl rfl)) ?_
    refine wl_g (want_y rfl rfl rfl rfl (by rw [hg1_3]; rfl)) ?_; intro K hK
    refine ow_call Try.func83 rfl rfl (evs_cons (tmA rfl rfl) <| evs_cons (tmA rfl rfl) <| evs_cons (ev_cN 6) <| evs_cons (tmI rfl rfl) <| evs_nil) (pseudo_g a b 6 x.length _ h6 hla hlb (by omega) (by omega)) ?_
    rintro e w ⟨A2, m2, c2, hm2, rfl, hn, hk⟩
    refine ⟨_, rfl, ?_⟩
    subst hm2
    replace hS := hS.add hk hn -- +rowp
    clear hn hk
    refine hK _ _ ?_; clear hK K
    refine wl_gv (want_y rfl rfl rfl rfl (by rw [hg1_3]; rfl)) (x_move (tmS rfl rfl)) ?_
    refine wl_g (want_y rfl rfl rfl rfl (by rw [hg1_3]; rfl)) ?_; intro K hK
    refine ow_build hS Try.underlying126 tz_22 (bc_take (tmS rfl rfl) <| bc_take (tmS rfl rfl) <| bc_nil) rfl rfl (by kernel_rfl) ?_
    clear hS; intro g1_10 w hg1_10 hS
    refine hK _ _ ?_; clear hK K
    refine wl_g (want_y rfl rfl rfl rfl (by rw [hg1_3]; rfl)) ?_; intro K hK
    refine ow_call Try.func76 rfl rfl (evs_cons (tmS rfl rfl) <| evs_nil) (sum_right_rows_c 2 _ _ [(A2, psG a b 6 x.length, c2), (A, x, c)] _ (viewB hS.ok 0 rfl) (seen_cons (viewR hS.ok 1 rfl) <| seen_cons (viewV hS.ok 4 rfl) seen_nil) (brows_cons (psG_bytes _ _ _ _) <| brows_cons hb brows_nil) rfl (by omega) (by rw [joined_two, List.length_append]; omega)) ?_
    rintro e w ⟨rfl, hk⟩
    refine ⟨_, rfl, ?_⟩
    rw [rsum_two, ← hgs]
    replace hS := hS.kept hk
    clear hk
    refine hK _ _ ?_; clear hK K
    refine wl_v (x_pickT (tmB rfl rfl) hg1_3 (tmB rfl rfl)) ?_
    refine wl_v (x_assign (tmB rfl rfl)) ?_
    refine wl_nil ?_
    refine then_n (hK2 _ _ ?_); clear hK2 K2
    refine wp_ret ?_
    refine ret1 rfl (.tmp rfl (show _ = Value.bool _ from rfl)) ?_
    exact ⟨rfl, hS.kp⟩
  have hg1_3' := hg1_3; (try simp only [nrm] at hg1_3'); try (exfalso; first | with_reducible exact absurd hg1_3 Bool.false_ne_true | with_reducible exact absurd hg1_3.symm Bool.false_ne_true | omega | (simp at hg1_3; done))
set_option maxRecDepth 100000 in
set_option maxHeartbeats 8000000 in
theorem rtcp_fine_c (A : Option Addr) (c : Nat) (x : List Nat) (a b : Ad) (w0 : World) (hv : View w0 w0.heap.size A (x.map u8v)) (hb : Bytes x) (h6 : a.six = b.six) (hla : adLim a) (hlb : adLim b) (hn4 : x.length ≤ 60000) :
    Calls Try.prog 39 #[.slice A x.length c, .agg a.V.toArray, .agg b.V.toArray] w0 fun e w' => e = .returned (.bool (decide (foldN (gS a b 6 x) = 65535))) ∧ Kp [] w0 w' := by
  have hS := (St.sv w0).vcons rfl hv
  have hpl := psG_len (p := 6) (n := x.length) h6
  have hgs := gS_joined a b 6 x h6
  have hfb := foldN_bd (gS a b 6 x)
  have hjb : Bytes (psG a b 6 x.length ++ x) := (psG_bytes _ _ _ _).append hb
  refine ent (n := 22) Try.func39 rfl rfl ?_
  refine wp_seq_k ?_; intro K1 hK1
  refine wlit ?_
  refine wl_e rfl ?_; intro K hK
  refine ow_box hS (tmA rfl rfl) rfl ?_
  clear hS; intro g0_0 w hg0_0 hS
  refine hK _ _ ?_; clear hK K
  refine wl_e rfl ?_; intro K hK
  refine ow_box hS (tmA rfl rfl) rfl ?_
  clear hS; intro g0_1 w hg0_1 hS
  refine hK _ _ ?_; clear hK K
  refine wl_v (x_assign ev_c) ?_
  refine wl_nil ?_
  refine then_n (hK1 _ _ ?_); clear hK1 K1
  refine wp_seq_k ?_; intro K2 hK2
  refine wlit ?_
  refine wl_v (x_move (tmS rfl rfl)) ?_
  refine wl_v (x_len Try.underlying22 (tmS rfl rfl)) ?_
  refine wl_v (x_leq (tmI rfl rfl) (ev_cN 65535)) ?_
  refine wl_v (x_move (tmB rfl rfl)) ?_
  refine gs_wl (tm (t := 10) rfl) (fun hg1_3 => ?_) (fun hg1_3 => ?_)
  · have hg1_3' := hg1_3; (try simp only [nrm] at hg1_3')
    refine wl_gv (want_y rfl rfl rfl rfl (by rw [hg1_3]; rfl)) (x_loadA (cs := [_, _, _]) Try.underlying26 rfl ts_26 (tmP rfl rfl) (rangeB hS.ok 1 rfl rfl)) ?_
    refine wl_gv (want_y rfl rfl rfl rfl (by rw [hg1_3]; rfl)) (x_loadA (cs := [_, _, _]) Try.underlying26 rfl ts_26 (tmP rfl rfl) (rangeB hS.ok 0 rfl rfl)) ?_
    refine wl_gv (want_y rfl rfl rfl rfl (by rw [hg1_3]; rfl)) (x_move (tmS rfl rfl)) ?_
    refine wl_gv (want_y rfl rfl rfl rfl (by rw [hg1_3]; rfl)) (x_len Try.underlying22 (tmS rfl rfl)) ?_
    refine wl_g (want_y rfl rfl rfl rfl (by rw [hg1_3]; rfl)) ?_; intro K hK
    refine ow_call Try.func58 rfl rfl (evs_cons (tmA rfl rfl) <| evs_cons (tmA rfl rfl) <| evs_cons (ev_cN 6) <| evs_cons (tmI rfl rfl) <| evs_nil) (rpseudo_g a b 6 x.length _ h6 hla hlb (by omega) (by omega)) ?_
    rintro e w ⟨A2, m2, c2, hm2, rfl, hn, hk⟩
    refine ⟨_, rfl, ?_⟩
    subst hm2
    replace hS := hS.add hk hn -- +rowp
    clear hn hk
    refine hK _ _ ?_; clear hK K
    refine wl_gv (want_y rfl rfl rfl rfl (by rw [hg1_3]; rfl)) (x_move (tmS rfl rfl)) ?_
    refine wl_g (want_y rfl rfl rfl rfl (by rw [hg1_3]; rfl)) ?_; intro K hK
    refine ow_build hS Try.underlying126 tz_22 (bc_take (tmS rfl rfl) <| bc_take (tmS rfl rfl) <| bc_nil) rfl rfl (by kernel_rfl) ?_
    clear hS; intro g1_10 w hg1_10 hS
    refine hK _ _ ?_; clear hK K
    refine wl_g (want_y rfl rfl rfl rfl (by rw [hg1_3]; rfl)) ?_; intro K hK
    refine ow_call Try.func57 rfl rfl (evs_cons (tmS rfl rfl) <| evs_nil) (join_c 2 _ _ [(A2, psG a b 6 x.length, c2), (A, x, c)] _ (viewB hS.ok 0 rfl) (seen_cons (viewR hS.ok 1 rfl) <| seen_cons (viewV hS.ok 4 rfl) seen_nil) rfl (by omega) (by rw [joined_two, List.length_append]; omega)) ?_
    rintro e w ⟨A3, m3, c3, hm3, rfl, hn, hk⟩
    refine ⟨_, rfl, ?_⟩
    rw [joined_two] at hn hm3
    subst hm3
    replace hS := hS.add hk hn -- +rowj
    clear hn hk
    refine hK _ _ ?_; clear hK K
    refine wl_g (want_y rfl rfl rfl rfl (by rw [hg1_3]; rfl)) ?_; intro K hK
    refine ow_call Try.func56 rfl rfl (evs_cons (tmS rfl rfl) <| evs_nil) (rsum_of_c _ _ _ _ _ (viewR hS.ok 0 rfl) rfl hjb (by rw [List.length_append]; omega)) ?_
    rintro e w ⟨rfl, hk⟩
    refine ⟨_, rfl, ?_⟩
    rw [hgs]
    replace hS := hS.kept hk
    clear hk
    refine hK _ _ ?_; clear hK K
    refine wl_gv (want_y rfl rfl rfl rfl (by rw [hg1_3]; rfl)) (x_eql (tmI rfl rfl) (ev_cN 0)) ?_
    refine wl_v (x_pickT (tmB rfl rfl) hg1_3 (tmB rfl rfl)) ?_
    refine wl_v (x_assign (tmB rfl rfl)) ?_
    refine wl_nil ?_
    refine then_n (hK2 _ _ ?_); clear hK2 K2
    refine wp_ret ?_
    refine ret1 rfl (.tmp rfl (show _ = Value.bool _ from rfl)) ?_
    first
      | (refine ⟨ret_bool (decide_eq_decide.2 ?_), hS.kp⟩
         omega)
      | (exfalso; omega)
  have hg1_3' := hg1_3; (try simp only [nrm] at hg1_3'); try (exfalso; first | with_reducible exact absurd hg1_3 Bool.false_ne_true | with_reducible exact absurd hg1_3.symm Bool.false_ne_true | omega | (simp at hg1_3; done))
set_option maxRecDepth 100000 in
set_option maxHeartbeats 4000000 in
theorem udp_right_c (a1 a2 a3 : Nat) (L : Option Addr) (k d : Nat) (w0 : World) (hk0 : k ≤ 1000000) :
    Calls Try.prog 84 #[.agg (datV a1 a2 a3 L k d).toArray] w0 fun e w' => e = .returned (.bool (decide (k ≤ 65527))) ∧ Kp [] w0 w' := by
  have hS := St.sv w0
  refine ent (n := 8) Try.func84 rfl rfl ?_
  refine wp_seq_k ?_; intro K1 hK1
  refine wlit ?_
  refine wl_e rfl ?_; intro K hK
  refine ow_box hS (tmA rfl rfl) rfl ?_
  clear hS; intro g0_0 w hg0_0 hS
  refine hK _ _ ?_; clear hK K
  refine wl_v (x_assign ev_c) ?_
  refine wl_nil ?_
  refine then_n (hK1 _ _ ?_); clear hK1 K1
  refine wp_seq_k ?_; intro K2 hK2
  refine wlit ?_
  refine wl_v (x_fa 3 Try.underlying50 rfl rfl ts_22 (tmP rfl rfl)) ?_
  refine wl_v (x_load Try.underlying22 rfl (tmP rfl rfl) (cellB hS.ok 0 rfl rfl)) ?_
  refine wl_v (x_len Try.underlying22 (tmS rfl rfl)) ?_
  refine wl_v (x_addN (ev_cN 8) (tmI rfl rfl) (fit_i64 (by omega))) ?_
  refine wl_v (x_leq (tmI rfl rfl) (ev_cN 65535)) ?_
  refine wl_v (x_assign (tmB rfl rfl)) ?_
  refine wl_nil ?_
  refine then_n (hK2 _ _ ?_); clear hK2 K2
  refine wp_ret ?_
  refine ret1 rfl (.tmp rfl (show _ = Value.bool _ from rfl)) ?_
  refine ⟨ret_bool (decide_eq_decide.2 ?_), hS.kp⟩
  omega

def datB (a1 a2 a3 : Nat) (x : List Nat) : List Nat := [] ++ be a1 2 ++ be a2 2 ++ be (8 + x.length) 2 ++ be a3 2 ++ x
set_option maxRecDepth 100000 in
set_option maxHeartbeats 4000000 in
theorem udp_bytes_c (a1 a2 a3 : Nat) (L : Option Addr) (d : Nat) (x : List Nat) (w0 : World) (h1 : View w0 w0.heap.size L (x.map u8v)) (q1 : a1 < 65536) (q2 : a2 < 65536) (q3 : a3 < 65536) (hx : x.length ≤ 65527) :
    Calls Try.prog 85 #[.agg (datV a1 a2 a3 L x.length d).toArray] w0 fun e w' => ∃ A' n c', n = 8 + x.length ∧ e = .returned (.slice A' n c') ∧ New w0 w' (.row (.slice A' n c') 5 1 n ((datB a1 a2 a3 x).map u8v)) ∧ Kp [] w0 w' := by
  have hS := (St.sv w0).vcons rfl h1
  refine ent (n := 32) Try.func85 rfl rfl ?_
  refine wp_seq_k ?_; intro K1 hK1
  refine wlit ?_
  refine wl_e rfl ?_; intro K hK
  refine ow_box hS (tmA rfl rfl) rfl ?_
  clear hS; intro g0_0 w hg0_0 hS
  refine hK _ _ ?_; clear hK K
  refine wl_v (x_assign ev_c) ?_
  refine wl_nil ?_
  refine then_n (hK1 _ _ ?_); clear hK1 K1
  refine wp_seq_k ?_; intro K2 hK2
  refine wp_seq_k ?_; intro K3 hK3
  refine wlit ?_
  refine wl_v (x_loadA (cs := [_, _, _, _]) Try.underlying50 rfl ts_50 (tmP rfl rfl) (rangeB hS.ok 0 rfl rfl)) ?_
  refine wl_e rfl ?_; intro K hK
  refine ow_call Try.func84 rfl rfl (evs_cons (tmA rfl rfl) <| evs_nil) (udp_right_c _ _ _ _ _ _ _ (by omega)) ?_
  rintro e w ⟨rfl, hk⟩
  refine ⟨_, rfl, ?_⟩
  replace hS := hS.kept hk
  clear hk
  refine hK _ _ ?_; clear hK K
  refine wl_v (x_not (tmB rfl rfl)) ?_
  refine wl_nil ?_
  refine then_n (hK3 _ _ ?_); clear hK3 K3
  refine cnd (tm rfl) (fun hc0 => ?_) (fun hc0 => ?_)
  · exfalso
    simp at hc0
    omega
  try simp only [nrm] at hc0
  refine wp_skip ?_
  refine then_n (hK2 _ _ ?_); clear hK2 K2
  refine wp_seq_k ?_; intro K4 hK4
  refine wlit ?_
  refine wl_v (x_fa 0 Try.underlying50 rfl rfl ts_27 (tmP rfl rfl)) ?_
  refine wl_v (x_load Try.underlying27 rfl (tmP rfl rfl) (cellB hS.ok 0 rfl rfl)) ?_
  refine wl_v (x_convN Try.underlying27 Try.underlying24 (tmI rfl rfl) (fit_u64 (by omega))) ?_
  refine wl_e rfl ?_; intro K hK
  refine ow_call Try.func48 rfl rfl (evs_cons ev_c <| evs_cons (tmI rfl rfl) <| evs_cons (ev_cN 2) <| evs_nil) (put_c 0 none 0 [] a1 2 _ View.nil_ rfl (by omega) (by omega) (by omega)) ?_
  rintro e w ⟨g1, rfl, hn, hk⟩
  refine ⟨_, rfl, ?_⟩
  replace hS := hS.add hk hn -- +rowb
  clear hn hk
  refine hK _ _ ?_; clear hK K
  refine wl_v (x_assign (tmS rfl rfl)) ?_
  refine wl_nil ?_
  refine then_n (hK4 _ _ ?_); clear hK4 K4
  refine wp_seq_k ?_; intro K5 hK5
  refine wlit ?_
  refine wl_v (x_move (tmS rfl rfl)) ?_
  refine wl_v (x_fa 1 Try.underlying50 rfl rfl ts_27 (tmP rfl rfl)) ?_
  refine wl_v (x_load Try.underlying27 rfl (tmP rfl rfl) (cellB hS.ok 1 rfl rfl)) ?_
  refine wl_v (x_convN Try.underlying27 Try.underlying24 (tmI rfl rfl) (fit_u64 (by omega))) ?_
  refine wl_e rfl ?_; intro K hK
  refine ow_call Try.func48 rfl rfl (evs_cons (tmS rfl rfl) <| evs_cons (tmI rfl rfl) <| evs_cons (ev_cN 2) <| evs_nil) (put_c _ _ _ _ _ _ _ (viewR hS.ok 0 rfl) (by simp [be_length]) (by omega) (by omega) (by omega)) ?_
  rintro e w ⟨g2, rfl, hn, hk⟩
  refine ⟨_, rfl, ?_⟩
  replace hS := (hS.add hk hn).pick [0, 2, 3] rfl rfl --ents rowb,g0_0,vx
  clear hn hk
  try replace hS := St.nm (M' := [.row _ _ _ _ _, .blk _ _ [_, _, _, _], .vw _ _]) hS rfl
  refine hK _ _ ?_; clear hK K
  refine wl_v (x_assign (tmS rfl rfl)) ?_
  refine wl_nil ?_
  refine then_n (hK5 _ _ ?_); clear hK5 K5
  refine wp_seq_k ?_; intro K6 hK6
  refine wlit ?_
  refine wl_v (x_move (tmS rfl rfl)) ?_
  refine wl_v (x_fa 3 Try.underlying50 rfl rfl ts_22 (tmP rfl rfl)) ?_
  refine wl_v (x_load Try.underlying22 rfl (tmP rfl rfl) (cellB hS.ok 1 rfl rfl)) ?_
  refine wl_v (x_len Try.underlying22 (tmS rfl rfl)) ?_
  refine wl_v (x_addN (ev_cN 8) (tmI rfl rfl) (fit_i64 (by omega))) ?_
  refine wl_v (x_convN Try.underlying3 Try.underlying24 (tmI rfl rfl) (fit_u64 (by omega))) ?_
  refine wl_e rfl ?_; intro K hK
  refine ow_call Try.func48 rfl rfl (evs_cons (tmS rfl rfl) <| evs_cons (tmI rfl rfl) <| evs_cons (ev_cN 2) <| evs_nil) (put_c _ _ _ _ _ _ _ (viewR hS.ok 0 rfl) (by simp [be_length]) (by omega) (by omega) (by omega)) ?_
  rintro e w ⟨g2, rfl, hn, hk⟩
  refine ⟨_, rfl, ?_⟩
  replace hS := (hS.add hk hn).pick [0, 2, 3] rfl rfl --ents rowb,g0_0,vx
  clear hn hk
  try replace hS := St.nm (M' := [.row _ _ _ _ _, .blk _ _ [_, _, _, _], .vw _ _]) hS rfl
  refine hK _ _ ?_; clear hK K
  refine wl_v (x_assign (tmS rfl rfl)) ?_
  refine wl_nil ?_
  refine then_n (hK6 _ _ ?_); clear hK6 K6
  refine wp_seq_k ?_; intro K7 hK7
  refine wlit ?_
  refine wl_v (x_move (tmS rfl rfl)) ?_
  refine wl_v (x_fa 2 Try.underlying50 rfl rfl ts_27 (tmP rfl rfl)) ?_
  refine wl_v (x_load Try.underlying27 rfl (tmP rfl rfl) (cellB hS.ok 1 rfl rfl)) ?_
  refine wl_v (x_convN Try.underlying27 Try.underlying24 (tmI rfl rfl) (fit_u64 (by omega))) ?_
  refine wl_e rfl ?_; intro K hK
  refine ow_call Try.func48 rfl rfl (evs_cons (tmS rfl rfl) <| evs_cons (tmI rfl rfl) <| evs_cons (ev_cN 2) <| evs_nil) (put_c _ _ _ _ _ _ _ (viewR hS.ok 0 rfl) (by simp [be_length]) (by omega) (by omega) (by omega)) ?_
  rintro e w ⟨g2, rfl, hn, hk⟩
  refine ⟨_, rfl, ?_⟩
  replace hS := (hS.add hk hn).pick [0, 2, 3] rfl rfl --ents rowb,g0_0,vx
  clear hn hk
  try replace hS := St.nm (M' := [.row _ _ _ _ _, .blk _ _ [_, _, _, _], .vw _ _]) hS rfl
  refine hK _ _ ?_; clear hK K
  refine wl_v (x_assign (tmS rfl rfl)) ?_
  refine wl_nil ?_
  refine then_n (hK7 _ _ ?_); clear hK7 K7
  refine wp_seq_k ?_; intro K8 hK8
  refine wlit ?_
  refine wl_v (x_move (tmS rfl rfl)) ?_
  refine wl_v (x_fa 3 Try.underlying50 rfl rfl ts_22 (tmP rfl rfl)) ?_
  refine wl_v (x_load Try.underlying22 rfl (tmP rfl rfl) (cellB hS.ok 1 rfl rfl)) ?_
  refine wl_e rfl ?_; intro K hK
  refine ow_appendV hS 0 rfl (viewV hS.ok 2 rfl) Try.underlying22 tz_5 rfl (tmS rfl rfl) (tmS rfl rfl) (by first | exact u8v_one _ | (intro u hu; simp at hu; first | (rcases hu with rfl | rfl <;> rfl) | (obtain ⟨_, _, rfl⟩ := hu; rfl))) ⟨by decide, by first | rfl | (simp; done) | (simp; omega)⟩ (by simp only [maxLen]; omega) (by omega) ?_; clear hS; intro g7_3 cg7_3 w hAg7_3 hCg7_3 hS
  refine hK _ _ ?_; clear hK K
  refine wl_v (x_assign (tmS rfl rfl)) ?_
  refine wl_nil ?_
  rw [← List.map_append] at hS
  refine then_n (hK8 _ _ ?_); clear hK8 K8
  refine wp_ret ?_
  refine ret1 rfl (.tmp rfl (show _ = Value.slice _ _ _ from rfl)) ?_
  exact ⟨_, _, _, by omega, rfl, hS.new 0 rfl rfl, hS.kp⟩

theorem datB_len (a1 a2 a3 : Nat) (x : List Nat) : (datB a1 a2 a3 x).length = 8 + x.length := by simp [datB, be_length]; omega
theorem datB_bytes (a1 a2 a3 : Nat) {x : List Nat} (h : Bytes x) : Bytes (datB a1 a2 a3 x) := by
  unfold datB
  repeat' (first | assumption | exact Bytes.nil | exact be_bytes _ _ | apply Bytes.append)
/-- Is a datagram right between two addresses? -/
def udF (a1 a2 a3 : Nat) (x : List Nat) (a b : Ad) : Bool := if a3 = 0 then !a.six else decide (foldN (gS a b 17 (datB a1 a2 a3 x)) = 65535)
set_option maxRecDepth 100000 in
set_option maxHeartbeats 8000000 in
theorem udp_fine_c (a1 a2 a3 : Nat) (L : Option Addr) (k d : Nat) (x : List Nat) (a b : Ad) (w0 : World) (hv : View w0 w0.heap.size L (x.map u8v)) (hk0 : k = x.length) (hb : Bytes x) (h6 : a.six = b.six) (hla : adLim a) (hlb : adLim b) (hn4 : x.length ≤ 60000) (q1 : a1 < 65536) (q2 : a2 < 65536) (q3 : a3 < 65536) :
    Calls Try.prog 80 #[.agg (datV a1 a2 a3 L k d).toArray, .agg a.V.toArray, .agg b.V.toArray] w0 fun e w' => e = .returned (.bool (udF a1 a2 a3 x a b)) ∧ Kp [] w0 w' := by
  subst hk0
  have hS := (St.sv w0).vcons rfl hv
  have hpl := psG_len (p := 17) (n := (datB a1 a2 a3 x).length) h6
  have hdl := datB_len a1 a2 a3 x
  have hgs : gS a b 17 (datB a1 a2 a3 x) = psum (psG a b 17 (datB a1 a2 a3 x).length) (psG a b 17 (datB a1 a2 a3 x).length).length + psum (datB a1 a2 a3 x) (datB a1 a2 a3 x).length := rfl
  have hdb := datB_bytes a1 a2 a3 hb
  refine ent (n := 27) Try.func80 rfl rfl ?_
  refine wp_seq_k ?_; intro K1 hK1
  refine wlit ?_
  refine wl_e rfl ?_; intro K hK
  refine ow_box hS (tmA rfl rfl) rfl ?_
  clear hS; intro g0_0 w hg0_0 hS
  refine hK _ _ ?_; clear hK K
  refine wl_e rfl ?_; intro K hK
  refine ow_box hS (tmA rfl rfl) rfl ?_
  clear hS; intro g0_1 w hg0_1 hS
  refine hK _ _ ?_; clear hK K
  refine wl_e rfl ?_; intro K hK
  refine ow_box hS (tmA rfl rfl) rfl ?_
  clear hS; intro g0_2 w hg0_2 hS
  refine hK _ _ ?_; clear hK K
  refine wl_v (x_assign ev_c) ?_
  refine wl_nil ?_
  refine then_n (hK1 _ _ ?_); clear hK1 K1
  refine wp_seq_k ?_; intro K2 hK2
  refine wp_seq_k ?_; intro K3 hK3
  refine wlit ?_
  refine wl_v (x_loadA (cs := [_, _, _, _]) Try.underlying50 rfl ts_50 (tmP rfl rfl) (rangeB hS.ok 2 rfl rfl)) ?_
  refine wl_e rfl ?_; intro K hK
  refine ow_call Try.func84 rfl rfl (evs_cons (tmA rfl rfl) <| evs_nil) (udp_right_c a1 a2 a3 L x.length d _ (by omega)) ?_
  rintro e w ⟨rfl, hk⟩
  refine ⟨_, rfl, ?_⟩
  replace hS := hS.kept hk
  clear hk
  refine hK _ _ ?_; clear hK K
  refine wl_v (x_not (tmB rfl rfl)) ?_
  refine wl_nil ?_
  refine then_n (hK3 _ _ ?_); clear hK3 K3
  refine cnd (tm rfl) (fun hc0 => ?_) (fun hc0 => ?_)
  · exfalso
    simp at hc0
    omega
  try simp only [nrm] at hc0
  refine wp_skip ?_
  refine then_n (hK2 _ _ ?_); clear hK2 K2
  refine wp_seq_k ?_; intro K4 hK4
  refine wp_seq_k ?_; intro K5 hK5
  refine wlit ?_
  refine wl_v (x_fa 2 Try.underlying50 rfl rfl ts_27 (tmP rfl rfl)) ?_
  refine wl_v (x_load Try.underlying27 rfl (tmP rfl rfl) (cellB hS.ok 2 rfl rfl)) ?_
  refine wl_v (x_eql (tmI rfl rfl) (ev_cN 0)) ?_
  refine wl_nil ?_
  refine then_n (hK5 _ _ ?_); clear hK5 K5
  refine cnd (tm rfl) (fun hc1 => ?_) (fun hc1 => ?_)
  · skip
    try simp only [nrm] at hc1
    refine wp_seq_k ?_; intro K6 hK6
    refine wlit ?_
    refine wl_v (x_fa 0 Try.underlying26 rfl rfl ts_4 (tmP rfl rfl)) ?_
    refine wl_v (x_load Try.underlying4 rfl (tmP rfl rfl) (cellB hS.ok 1 rfl rfl)) ?_
    refine wl_v (x_not (tmB rfl rfl)) ?_
    refine wl_v (x_assign (tmB rfl rfl)) ?_
    refine wl_nil ?_
    refine then_n (hK6 _ _ ?_); clear hK6 K6
    refine wp_ret ?_
    refine then_r ?_
    refine ret1 rfl (.tmp rfl (show _ = Value.bool _ from rfl)) ?_
    unfold udF
    rw [if_pos (by first | omega | (simp at hc1; omega))]; exact ⟨rfl, hS.kp⟩
  try simp only [nrm] at hc1
  refine wp_skip ?_
  refine then_n (hK4 _ _ ?_); clear hK4 K4
  refine wp_seq_k ?_; intro K7 hK7
  refine wlit ?_
  refine wl_v (x_loadA (cs := [_, _, _, _]) Try.underlying50 rfl ts_50 (tmP rfl rfl) (rangeB hS.ok 2 rfl rfl)) ?_
  refine wl_e rfl ?_; intro K hK
  refine ow_call Try.func85 rfl rfl (evs_cons (tmA rfl rfl) <| evs_nil) (udp_bytes_c a1 a2 a3 L d x _ (viewV hS.ok 3 rfl) q1 q2 q3 (by omega)) ?_
  rintro e w ⟨A3, m3, c3, hm3, rfl, hn, hk⟩
  refine ⟨_, rfl, ?_⟩
  obtain rfl : m3 = (datB a1 a2 a3 x).length := by omega
  replace hS := hS.add hk hn -- +rowb
  clear hn hk
  refine hK _ _ ?_; clear hK K
  refine wl_v (x_assign (tmS rfl rfl)) ?_
  refine wl_nil ?_
  refine then_n (hK7 _ _ ?_); clear hK7 K7
  refine wp_seq_k ?_; intro K8 hK8
  refine wlit ?_
  refine wl_v (x_loadA (cs := [_, _, _]) Try.underlying26 rfl ts_26 (tmP rfl rfl) (rangeB hS.ok 2 rfl rfl)) ?_
  refine wl_v (x_loadA (cs := [_, _, _]) Try.underlying26 rfl ts_26 (tmP rfl rfl) (rangeB hS.ok 1 rfl rfl)) ?_
  refine wl_v (x_move (tmS rfl rfl)) ?_
  refine wl_v (x_len Try.underlying22 (tmS rfl rfl)) ?_
  refine wl_e rfl ?_; intro K hK
  refine ow_call Try.func83 rfl rfl (evs_cons (tmA rfl rfl) <| evs_cons (tmA rfl rfl) <| evs_cons (ev_cN 17) <| evs_cons (tmI rfl rfl) <| evs_nil) (pseudo_g a b 17 (datB a1 a2 a3 x).length _ h6 hla hlb (by omega) (by omega)) ?_
  rintro e w ⟨A2, m2, c2, hm2, rfl, hn, hk⟩
  refine ⟨_, rfl, ?_⟩
  subst hm2
  replace hS := hS.add hk hn -- +rowp
  clear hn hk
  refine hK _ _ ?_; clear hK K
  refine wl_v (x_move (tmS rfl rfl)) ?_
  refine wl_e rfl ?_; intro K hK
  refine ow_build hS Try.underlying126 tz_22 (bc_take (tmS rfl rfl) <| bc_take (tmS rfl rfl) <| bc_nil) rfl rfl (by kernel_rfl) ?_
  clear hS; intro g6_6 w hg6_6 hS
  refine hK _ _ ?_; clear hK K
  refine wl_e rfl ?_; intro K hK
  refine ow_call Try.func76 rfl rfl (evs_cons (tmS rfl rfl) <| evs_nil) (sum_right_rows_c 2 _ _ [(A2, psG a b 17 (datB a1 a2 a3 x).length, c2), (A3, datB a1 a2 a3 x, c3)] _ (viewB hS.ok 0 rfl) (seen_cons (viewR hS.ok 1 rfl) <| seen_cons (viewR hS.ok 2 rfl) seen_nil) (brows_cons (psG_bytes _ _ _ _) <| brows_cons hdb brows_nil) rfl (by omega) (by rw [joined_two, List.length_append]; omega)) ?_
  rintro e w ⟨rfl, hk⟩
  refine ⟨_, rfl, ?_⟩
  rw [rsum_two, ← hgs]
  replace hS := hS.kept hk
  clear hk
  refine hK _ _ ?_; clear hK K
  refine wl_v (x_assign (tmB rfl rfl)) ?_
  refine wl_nil ?_
  refine then_n (hK8 _ _ ?_); clear hK8 K8
  refine wp_ret ?_
  refine ret1 rfl (.tmp rfl (show _ = Value.bool _ from rfl)) ?_
  unfold udF
  rw [if_neg (by first | omega | (simp at hc1; omega))]; exact ⟨rfl, hS.kp⟩
set_option maxRecDepth 100000 in
set_option maxHeartbeats 8000000 in
theorem rudp_bytes_c (a1 a2 a3 : Nat) (L : Option Addr) (d : Nat) (x : List Nat) (w0 : World) (h1 : View w0 w0.heap.size L (x.map u8v)) (q1 : a1 < 65536) (q2 : a2 < 65536) (q3 : a3 < 65536) (hx : x.length ≤ 65527) :
    Calls Try.prog 75 #[.agg (datV a1 a2 a3 L x.length d).toArray] w0 fun e w' => ∃ A' n c', n = (datB a1 a2 a3 x).length ∧ e = .returned (.slice A' n c') ∧ New w0 w' (.row (.slice A' n c') 5 1 n ((datB a1 a2 a3 x).map u8v)) ∧ Kp [] w0 w' := by
  have hS := (St.sv w0).vcons rfl h1
  have hdl := datB_len a1 a2 a3 x
  have hjo : ∀ (G1 G2 G3 G4 : Option Addr) (j1 j2 j3 j4 : Nat), joined [(G1, be a1 2, j1), (G2, be a2 2, j2), (G3, be (8 + x.length) 2, j3), (G4, be a3 2, j4), (L, x, d)] = datB a1 a2 a3 x := by
    intro G1 G2 G3 G4 j1 j2 j3 j4
    simp only [joined, datB, List.map_cons, List.map_nil, List.flatten_cons, List.flatten_nil, List.append_nil, List.nil_append, List.append_assoc]
  refine ent (n := 25) Try.func75 rfl rfl ?_
  refine wp_seq_k ?_; intro K1 hK1
  refine wlit ?_
  refine wl_e rfl ?_; intro K hK
  refine ow_box hS (tmA rfl rfl) rfl ?_
  clear hS; intro g0_0 w hg0_0 hS
  refine hK _ _ ?_; clear hK K
  refine wl_v (x_assign ev_c) ?_
  refine wl_nil ?_
  refine then_n (hK1 _ _ ?_); clear hK1 K1
  refine wp_seq_k ?_; intro K2 hK2
  refine rg_startk 0 hS mixed_ ?_
  clear hS; intro w hS
  refine rg_take 0 rfl rfl (by kernel_rfl) (by kernel_rfl) (by kernel_rfl) (want_0) (fun w hok => x_fa 0 Try.underlying42 rfl rfl ts_27 (tmP rfl rfl)) ?_
  refine rg_take 1 rfl rfl (by kernel_rfl) (by kernel_rfl) (by kernel_rfl) (want_0) (fun w hok => x_load Try.underlying27 rfl (tmP rfl rfl) (cellB hok 0 rfl rfl)) ?_
  refine rg_take 2 rfl rfl (by kernel_rfl) (by kernel_rfl) (by kernel_rfl) (want_0) (fun w hok => x_convN Try.underlying27 Try.underlying24 (tmI rfl rfl) (fit_u64 (by omega))) ?_
  refine rg_take 4 rfl rfl (by kernel_rfl) (by kernel_rfl) (by kernel_rfl) (want_0) (fun w hok => x_fa 1 Try.underlying42 rfl rfl ts_27 (tmP rfl rfl)) ?_
  refine rg_take 5 rfl rfl (by kernel_rfl) (by kernel_rfl) (by kernel_rfl) (want_0) (fun w hok => x_load Try.underlying27 rfl (tmP rfl rfl) (cellB hok 0 rfl rfl)) ?_
  refine rg_take 6 rfl rfl (by kernel_rfl) (by kernel_rfl) (by kernel_rfl) (want_0) (fun w hok => x_convN Try.underlying27 Try.underlying24 (tmI rfl rfl) (fit_u64 (by omega))) ?_
  refine rg_take 8 rfl rfl (by kernel_rfl) (by kernel_rfl) (by kernel_rfl) (want_0) (fun w hok => x_fa 3 Try.underlying42 rfl rfl ts_22 (tmP rfl rfl)) ?_
  refine rg_take 9 rfl rfl (by kernel_rfl) (by kernel_rfl) (by kernel_rfl) (want_0) (fun w hok => x_load Try.underlying22 rfl (tmP rfl rfl) (cellB hok 0 rfl rfl)) ?_
  refine rg_take 10 rfl rfl (by kernel_rfl) (by kernel_rfl) (by kernel_rfl) (want_0) (fun w hok => x_len Try.underlying22 (tmS rfl rfl)) ?_
  refine rg_take 11 rfl rfl (by kernel_rfl) (by kernel_rfl) (by kernel_rfl) (want_0) (fun w hok => x_addN (ev_cN 8) (tmI rfl rfl) (fit_i64 (by omega))) ?_
  refine rg_take 12 rfl rfl (by kernel_rfl) (by kernel_rfl) (by kernel_rfl) (want_0) (fun w hok => x_convN Try.underlying3 Try.underlying24 (tmI rfl rfl) (fit_u64 (by omega))) ?_
  refine rg_take 14 rfl rfl (by kernel_rfl) (by kernel_rfl) (by kernel_rfl) (want_0) (fun w hok => x_fa 2 Try.underlying42 rfl rfl ts_27 (tmP rfl rfl)) ?_
  refine rg_take 15 rfl rfl (by kernel_rfl) (by kernel_rfl) (by kernel_rfl) (want_0) (fun w hok => x_load Try.underlying27 rfl (tmP rfl rfl) (cellB hok 0 rfl rfl)) ?_
  refine rg_take 16 rfl rfl (by kernel_rfl) (by kernel_rfl) (by kernel_rfl) (want_0) (fun w hok => x_convN Try.underlying27 Try.underlying24 (tmI rfl rfl) (fit_u64 (by omega))) ?_
  refine rg_take 18 rfl rfl (by kernel_rfl) (by kernel_rfl) (by kernel_rfl) (want_0) (fun w hok => x_fa 3 Try.underlying42 rfl rfl ts_22 (tmP rfl rfl)) ?_
  refine rg_take 19 rfl rfl (by kernel_rfl) (by kernel_rfl) (by kernel_rfl) (want_0) (fun w hok => x_load Try.underlying22 rfl (tmP rfl rfl) (cellB hok 0 rfl rfl)) ?_
  refine rg_step 3 rfl (by kernel_rfl) (want_0) (oks_drop hS 0 rfl) ?_; intro K hK
  refine ow_call Try.func73 rfl rfl (evs_cons (tmI rfl rfl) <| evs_cons (ev_cN 2) <| evs_nil) (rbytes_c a1 2 _ (by omega) (by omega)) ?_
  rintro e w ⟨ga, rfl, hn, hk⟩
  refine ⟨_, rfl, ?_⟩
  replace hS := hS.add hk hn -- +rowa
  clear hn hk
  refine hK _ _ ?_; clear hK K
  refine rg_step 7 rfl (by kernel_rfl) (want_0) (oks_drop hS 1 rfl) ?_; intro K hK
  refine ow_call Try.func73 rfl rfl (evs_cons (tmI rfl rfl) <| evs_cons (ev_cN 2) <| evs_nil) (rbytes_c a2 2 _ (by omega) (by omega)) ?_
  rintro e w ⟨gb, rfl, hn, hk⟩
  refine ⟨_, rfl, ?_⟩
  replace hS := hS.add hk hn -- +rowb
  clear hn hk
  refine hK _ _ ?_; clear hK K
  refine rg_step 13 rfl (by kernel_rfl) (want_0) (oks_drop hS 2 rfl) ?_; intro K hK
  refine ow_call Try.func73 rfl rfl (evs_cons (tmI rfl rfl) <| evs_cons (ev_cN 2) <| evs_nil) (rbytes_c (8 + x.length) 2 _ (by omega) (by omega)) ?_
  rintro e w ⟨gc, rfl, hn, hk⟩
  refine ⟨_, rfl, ?_⟩
  replace hS := hS.add hk hn -- +rowc
  clear hn hk
  refine hK _ _ ?_; clear hK K
  refine rg_step 17 rfl (by kernel_rfl) (want_0) (oks_drop hS 3 rfl) ?_; intro K hK
  refine ow_call Try.func73 rfl rfl (evs_cons (tmI rfl rfl) <| evs_cons (ev_cN 2) <| evs_nil) (rbytes_c a3 2 _ (by omega) (by omega)) ?_
  rintro e w ⟨gd, rfl, hn, hk⟩
  refine ⟨_, rfl, ?_⟩
  replace hS := hS.add hk hn -- +rowd
  clear hn hk
  refine hK _ _ ?_; clear hK K
  refine rg_step 20 rfl (by kernel_rfl) (want_0) (oks_drop hS 4 rfl) ?_; intro K hK
  refine ow_build hS Try.underlying126 tz_22 (bc_take (tmS rfl rfl) <| bc_take (tmS rfl rfl) <| bc_take (tmS rfl rfl) <| bc_take (tmS rfl rfl) <| bc_take (tmS rfl rfl) <| bc_nil) rfl rfl (by kernel_rfl) ?_
  clear hS; intro g1_20 w hg1_20 hS
  refine hK _ _ ?_; clear hK K
  refine rg_step 21 rfl (by kernel_rfl) (want_0) (oks_drop hS 5 rfl) ?_; intro K hK
  refine ow_call Try.func57 rfl rfl (evs_cons (tmS rfl rfl) <| evs_nil) (join_c 5 _ _ [(some ⟨ga, 0, none⟩, be a1 2, 2), (some ⟨gb, 0, none⟩, be a2 2, 2), (some ⟨gc, 0, none⟩, be (8 + x.length) 2, 2), (some ⟨gd, 0, none⟩, be a3 2, 2), (L, x, d)] _ (viewB hS.ok 0 rfl) (seen_cons (viewR hS.ok 4 rfl) <| seen_cons (viewR hS.ok 3 rfl) <| seen_cons (viewR hS.ok 2 rfl) <| seen_cons (viewR hS.ok 1 rfl) <| seen_cons (viewV hS.ok 6 rfl) seen_nil) rfl (by omega) (by rw [hjo, hdl]; omega)) ?_
  rintro e w ⟨A3, m3, c3, hm3, rfl, hn, hk⟩
  refine ⟨_, rfl, ?_⟩
  rw [hjo] at hn hm3
  replace hS := hS.add hk hn -- +rowe
  clear hn hk
  refine hK _ _ ?_; clear hK K
  refine rg_take 22 rfl rfl (by kernel_rfl) (by kernel_rfl) (by kernel_rfl) (want_0) (fun w hok => x_assign (tmS rfl rfl)) ?_
  refine rg_done (oks_drop hS 6 rfl) (by kernel_rfl) ?_
  refine then_n (hK2 _ _ ?_); clear hK2 K2
  refine wp_ret ?_
  refine ret1 rfl (.tmp rfl (show _ = Value.slice _ _ _ from rfl)) ?_
  exact ⟨_, _, _, hm3, rfl, hS.new 0 rfl rfl, hS.kp⟩
set_option maxRecDepth 100000 in
set_option maxHeartbeats 8000000 in
theorem rudp_sum_c (a1 a2 a3 : Nat) (L : Option Addr) (d : Nat) (x : List Nat) (a b : Ad) (w0 : World) (hv : View w0 w0.heap.size L (x.map u8v)) (hb : Bytes x) (h6 : a.six = b.six) (hla : adLim a) (hlb : adLim b) (hn4 : x.length ≤ 60000) (q1 : a1 < 65536) (q2 : a2 < 65536) (q3 : a3 < 65536) :
    Calls Try.prog 59 #[.agg (datV a1 a2 a3 L x.length d).toArray, .agg a.V.toArray, .agg b.V.toArray] w0 fun e w' => e = .returned (.int .u16 ((65535 - foldN (gS a b 17 (datB a1 a2 a3 x)) : Nat) : Int)) ∧ Kp [] w0 w' := by
  have hS := (St.sv w0).vcons rfl hv
  have hpl := psG_len (p := 17) (n := (datB a1 a2 a3 x).length) h6
  have hdl := datB_len a1 a2 a3 x
  have hgs := gS_joined a b 17 (datB a1 a2 a3 x) h6
  have hdb := datB_bytes a1 a2 a3 hb
  have hjb : Bytes (psG a b 17 (datB a1 a2 a3 x).length ++ datB a1 a2 a3 x) := (psG_bytes _ _ _ _).append hdb
  refine ent (n := 19) Try.func59 rfl rfl ?_
  refine wp_seq_k ?_; intro K1 hK1
  refine wlit ?_
  refine wl_e rfl ?_; intro K hK
  refine ow_box hS (tmA rfl rfl) rfl ?_
  clear hS; intro g0_0 w hg0_0 hS
  refine hK _ _ ?_; clear hK K
  refine wl_e rfl ?_; intro K hK
  refine ow_box hS (tmA rfl rfl) rfl ?_
  clear hS; intro g0_1 w hg0_1 hS
  refine hK _ _ ?_; clear hK K
  refine wl_e rfl ?_; intro K hK
  refine ow_box hS (tmA rfl rfl) rfl ?_
  clear hS; intro g0_2 w hg0_2 hS
  refine hK _ _ ?_; clear hK K
  refine wl_v (x_assign (ev_cN 0)) ?_
  refine wl_nil ?_
  refine then_n (hK1 _ _ ?_); clear hK1 K1
  refine wp_seq_k ?_; intro K2 hK2
  refine wlit ?_
  refine wl_v (x_loadA (cs := [_, _, _, _]) Try.underlying42 rfl ts_42 (tmP rfl rfl) (rangeB hS.ok 2 rfl rfl)) ?_
  refine wl_e rfl ?_; intro K hK
  refine ow_call Try.func75 rfl rfl (evs_cons (tmA rfl rfl) <| evs_nil) (rudp_bytes_c a1 a2 a3 L d x _ (viewV hS.ok 3 rfl) q1 q2 q3 (by omega)) ?_
  rintro e w ⟨A3, m3, c3, hm3, rfl, hn, hk⟩
  refine ⟨_, rfl, ?_⟩
  subst hm3
  replace hS := hS.add hk hn -- +rowb
  clear hn hk
  refine hK _ _ ?_; clear hK K
  refine wl_v (x_assign (tmS rfl rfl)) ?_
  refine wl_nil ?_
  refine then_n (hK2 _ _ ?_); clear hK2 K2
  refine wp_seq_k ?_; intro K3 hK3
  refine wlit ?_
  refine wl_v (x_loadA (cs := [_, _, _]) Try.underlying26 rfl ts_26 (tmP rfl rfl) (rangeB hS.ok 2 rfl rfl)) ?_
  refine wl_v (x_loadA (cs := [_, _, _]) Try.underlying26 rfl ts_26 (tmP rfl rfl) (rangeB hS.ok 1 rfl rfl)) ?_
  refine wl_v (x_move (tmS rfl rfl)) ?_
  refine wl_v (x_len Try.underlying22 (tmS rfl rfl)) ?_
  refine wl_e rfl ?_; intro K hK
  refine ow_call Try.func58 rfl rfl (evs_cons (tmA rfl rfl) <| evs_cons (tmA rfl rfl) <| evs_cons (ev_cN 17) <| evs_cons (tmI rfl rfl) <| evs_nil) (rpseudo_g a b 17 (datB a1 a2 a3 x).length _ h6 hla hlb (by omega) (by omega)) ?_
  rintro e w ⟨A2, m2, c2, hm2, rfl, hn, hk⟩
  refine ⟨_, rfl, ?_⟩
  subst hm2
  replace hS := hS.add hk hn -- +rowp
  clear hn hk
  refine hK _ _ ?_; clear hK K
  refine wl_v (x_move (tmS rfl rfl)) ?_
  refine wl_e rfl ?_; intro K hK
  refine ow_build hS Try.underlying126 tz_22 (bc_take (tmS rfl rfl) <| bc_take (tmS rfl rfl) <| bc_nil) rfl rfl (by kernel_rfl) ?_
  clear hS; intro g2_6 w hg2_6 hS
  refine hK _ _ ?_; clear hK K
  refine wl_e rfl ?_; intro K hK
  refine ow_call Try.func57 rfl rfl (evs_cons (tmS rfl rfl) <| evs_nil) (join_c 2 _ _ [(A2, psG a b 17 (datB a1 a2 a3 x).length, c2), (A3, datB a1 a2 a3 x, c3)] _ (viewB hS.ok 0 rfl) (seen_cons (viewR hS.ok 1 rfl) <| seen_cons (viewR hS.ok 2 rfl) seen_nil) rfl (by omega) (by rw [joined_two, List.length_append]; omega)) ?_
  rintro e w ⟨A4, m4, c4, hm4, rfl, hn, hk⟩
  refine ⟨_, rfl, ?_⟩
  rw [joined_two] at hn hm4
  subst hm4
  replace hS := hS.add hk hn -- +rowj
  clear hn hk
  refine hK _ _ ?_; clear hK K
  refine wl_e rfl ?_; intro K hK
  refine ow_call Try.func56 rfl rfl (evs_cons (tmS rfl rfl) <| evs_nil) (rsum_of_c _ _ _ _ _ (viewR hS.ok 0 rfl) rfl hjb (by rw [List.length_append]; omega)) ?_
  rintro e w ⟨rfl, hk⟩
  refine ⟨_, rfl, ?_⟩
  rw [hgs]
  replace hS := hS.kept hk
  clear hk
  refine hK _ _ ?_; clear hK K
  refine wl_v (x_assign (tmI rfl rfl)) ?_
  refine wl_nil ?_
  refine then_n (hK3 _ _ ?_); clear hK3 K3
  refine wp_ret ?_
  refine ret1 rfl (.tmp rfl (show _ = Value.int _ _ from rfl)) ?_
  exact ⟨rfl, hS.kp⟩
set_option maxRecDepth 100000 in
set_option maxHeartbeats 8000000 in
theorem rudp_fine_c (a1 a2 a3 : Nat) (L : Option Addr) (k d : Nat) (x : List Nat) (a b : Ad) (w0 : World) (hv : View w0 w0.heap.size L (x.map u8v)) (hk0 : k = x.length) (hb : Bytes x) (h6 : a.six = b.six) (hla : adLim a) (hlb : adLim b) (hn4 : x.length ≤ 60000) (q1 : a1 < 65536) (q2 : a2 < 65536) (q3 : a3 < 65536) :
    Calls Try.prog 41 #[.agg (datV a1 a2 a3 L k d).toArray, .agg a.V.toArray, .agg b.V.toArray] w0 fun e w' => e = .returned (.bool (udF a1 a2 a3 x a b)) ∧ Kp [] w0 w' := by
  subst hk0
  have hS := (St.sv w0).vcons rfl hv
  have hfb := foldN_bd (gS a b 17 (datB a1 a2 a3 x))
  refine ent (n := 18) Try.func41 rfl rfl ?_
  refine wp_seq_k ?_; intro K1 hK1
  refine wlit ?_
  refine wl_e rfl ?_; intro K hK
  refine ow_box hS (tmA rfl rfl) rfl ?_
  clear hS; intro g0_0 w hg0_0 hS
  refine hK _ _ ?_; clear hK K
  refine wl_e rfl ?_; intro K hK
  refine ow_box hS (tmA rfl rfl) rfl ?_
  clear hS; intro g0_1 w hg0_1 hS
  refine hK _ _ ?_; clear hK K
  refine wl_e rfl ?_; intro K hK
  refine ow_box hS (tmA rfl rfl) rfl ?_
  clear hS; intro g0_2 w hg0_2 hS
  refine hK _ _ ?_; clear hK K
  refine wl_v (x_assign ev_c) ?_
  refine wl_nil ?_
  refine then_n (hK1 _ _ ?_); clear hK1 K1
  refine wp_seq_k ?_; intro K2 hK2
  refine wp_seq_k ?_; intro K3 hK3
  refine wlit ?_
  refine wl_v (x_fa 2 Try.underlying42 rfl rfl ts_27 (tmP rfl rfl)) ?_
  refine wl_v (x_load Try.underlying27 rfl (tmP rfl rfl) (cellB hS.ok 2 rfl rfl)) ?_
  refine wl_v (x_eql (tmI rfl rfl) (ev_cN 0)) ?_
  refine wl_nil ?_
  refine then_n (hK3 _ _ ?_); clear hK3 K3
  refine cnd (tm rfl) (fun hc0 => ?_) (fun hc0 => ?_)
  · skip
    try simp only [nrm] at hc0
    refine wp_seq_k ?_; intro K4 hK4
    refine wlit ?_
    refine wl_v (x_fa 0 Try.underlying26 rfl rfl ts_4 (tmP rfl rfl)) ?_
    refine wl_v (x_load Try.underlying4 rfl (tmP rfl rfl) (cellB hS.ok 1 rfl rfl)) ?_
    refine wl_v (x_not (tmB rfl rfl)) ?_
    refine wl_v (x_assign (tmB rfl rfl)) ?_
    refine wl_nil ?_
    refine then_n (hK4 _ _ ?_); clear hK4 K4
    refine wp_ret ?_
    refine then_r ?_
    refine ret1 rfl (.tmp rfl (show _ = Value.bool _ from rfl)) ?_
    unfold udF
    first
      | (rw [if_pos (by first | omega | (simp at hc0; omega))]; exact ⟨rfl, hS.kp⟩)
      | (rw [if_neg (by first | omega | (simp at hc0; omega))]
         refine ⟨ret_bool (decide_eq_decide.2 ?_), hS.kp⟩
         omega)
  try simp only [nrm] at hc0
  refine wp_skip ?_
  refine then_n (hK2 _ _ ?_); clear hK2 K2
  refine wp_seq_k ?_; intro K5 hK5
  refine wlit ?_
  refine wl_v (x_loadA (cs := [_, _, _, _]) Try.underlying42 rfl ts_42 (tmP rfl rfl) (rangeB hS.ok 2 rfl rfl)) ?_
  refine wl_v (x_loadA (cs := [_, _, _]) Try.underlying26 rfl ts_26 (tmP rfl rfl) (rangeB hS.ok 1 rfl rfl)) ?_
  refine wl_v (x_loadA (cs := [_, _, _]) Try.underlying26 rfl ts_26 (tmP rfl rfl) (rangeB hS.ok 0 rfl rfl)) ?_
  refine wl_e rfl ?_; intro K hK
  refine ow_call Try.func59 rfl rfl (evs_cons (tmA rfl rfl) <| evs_cons (tmA rfl rfl) <| evs_cons (tmA rfl rfl) <| evs_nil) (rudp_sum_c a1 a2 a3 L d x a b _ (viewV hS.ok 3 rfl) hb h6 hla hlb hn4 q1 q2 q3) ?_
  rintro e w ⟨rfl, hk⟩
  refine ⟨_, rfl, ?_⟩
  replace hS := hS.kept hk
  clear hk
  refine hK _ _ ?_; clear hK K
  refine wl_v (x_eql (tmI rfl rfl) (ev_cN 0)) ?_
  refine wl_v (x_assign (tmB rfl rfl)) ?_
  refine wl_nil ?_
  refine then_n (hK5 _ _ ?_); clear hK5 K5
  refine wp_ret ?_
  refine ret1 rfl (.tmp rfl (show _ = Value.bool _ from rfl)) ?_
  unfold udF
  first
    | (rw [if_pos (by first | omega | (simp at hc0; omega))]; exact ⟨rfl, hS.kp⟩)
    | (rw [if_neg (by first | omega | (simp at hc0; omega))]
       refine ⟨ret_bool (decide_eq_decide.2 ?_), hS.kp⟩
       omega)
end Go.Proofs.Ytcobjneobdihkaa
/- packet's reasons of errors and their names, by contract. Conditions: the table of names reads as it was laid. -/
namespace Go.Proofs.Ytcobjneobdihkaa
open Go.RowKit
def pkOf (e : Int) : Int := if e = 0 then 0 else if e = 20 then 1 else if e = 22 then 3 else if e = 24 then 11 else if e = 25 then 12 else if e = 26 then 10 else if e = 28 then 13 else 2
set_option maxRecDepth 100000 in
set_option maxHeartbeats 4000000 in
theorem of_c (e : Int) (w0 : World) : Calls Try.prog 62 #[.int .i64 e] w0 fun x w' => x = .returned (.int .i64 (pkOf e)) ∧ Kp [] w0 w' := by
  have hS := St.sv w0
  refine ent (n := 18) Try.func62 rfl rfl ?_
  refine wp_seq_k ?_; intro K1 hK1
  refine wlit ?_
  refine wl_v (x_assign (ev_cN 0)) ?_
  refine wl_nil ?_
  refine then_n (hK1 _ _ ?_); clear hK1 K1
  refine wp_seq_k ?_; intro K2 hK2
  refine wp_seq_k ?_; intro K3 hK3
  refine wlit ?_
  refine wl_v (x_move (tmI rfl rfl)) ?_
  refine wl_nil ?_
  refine then_n (hK3 _ _ ?_); clear hK3 K3
  refine wp_block ?_
  refine wp_seq_k ?_; intro K4 hK4
  refine wlit ?_
  refine wl_v (x_eql (tmI rfl rfl) (ev_cN 0)) ?_
  refine wl_v (x_assign (tmB rfl rfl)) ?_
  refine wl_nil ?_
  refine then_n (hK4 _ _ ?_); clear hK4 K4
  refine cnd (tm rfl) (fun hc0 => ?_) (fun hc0 => ?_)
  · skip
    try simp only [nrm] at hc0
    refine wp_seq_k ?_; intro K5 hK5
    refine wlit ?_
    refine wl_v (x_assign (ev_cN 0)) ?_
    refine wl_nil ?_
    refine then_n (hK5 _ _ ?_); clear hK5 K5
    refine wp_ret ?_
    refine inb_r ?_
    refine then_r ?_
    refine ret1 rfl (.tmp rfl (show _ = Value.int _ _ from rfl)) ?_
    refine ⟨congrArg (fun z : Int => Ending.returned (.int .i64 z)) ?_, hS.kp⟩
    unfold pkOf
    (repeat' split) <;> omega
  try simp only [nrm] at hc0
  refine wp_seq_k ?_; intro K6 hK6
  refine wlit ?_
  refine wl_v (x_eql (tmI rfl rfl) (ev_cN 20)) ?_
  refine wl_v (x_assign (tmB rfl rfl)) ?_
  refine wl_nil ?_
  refine then_n (hK6 _ _ ?_); clear hK6 K6
  refine cnd (tm rfl) (fun hc1 => ?_) (fun hc1 => ?_)
  · skip
    try simp only [nrm] at hc1
    refine wp_seq_k ?_; intro K7 hK7
    refine wlit ?_
    refine wl_v (x_assign (ev_cN 1)) ?_
    refine wl_nil ?_
    refine then_n (hK7 _ _ ?_); clear hK7 K7
    refine wp_ret ?_
    refine inb_r ?_
    refine then_r ?_
    refine ret1 rfl (.tmp rfl (show _ = Value.int _ _ from rfl)) ?_
    refine ⟨congrArg (fun z : Int => Ending.returned (.int .i64 z)) ?_, hS.kp⟩
    unfold pkOf
    (repeat' split) <;> omega
  try simp only [nrm] at hc1
  refine wp_seq_k ?_; intro K8 hK8
  refine wlit ?_
  refine wl_v (x_eql (tmI rfl rfl) (ev_cN 22)) ?_
  refine wl_v (x_assign (tmB rfl rfl)) ?_
  refine wl_nil ?_
  refine then_n (hK8 _ _ ?_); clear hK8 K8
  refine cnd (tm rfl) (fun hc2 => ?_) (fun hc2 => ?_)
  · skip
    try simp only [nrm] at hc2
    refine wp_seq_k ?_; intro K9 hK9
    refine wlit ?_
    refine wl_v (x_assign (ev_cN 3)) ?_
    refine wl_nil ?_
    refine then_n (hK9 _ _ ?_); clear hK9 K9
    refine wp_ret ?_
    refine inb_r ?_
    refine then_r ?_
    refine ret1 rfl (.tmp rfl (show _ = Value.int _ _ from rfl)) ?_
    refine ⟨congrArg (fun z : Int => Ending.returned (.int .i64 z)) ?_, hS.kp⟩
    unfold pkOf
    (repeat' split) <;> omega
  try simp only [nrm] at hc2
  refine wp_seq_k ?_; intro K10 hK10
  refine wlit ?_
  refine wl_v (x_eql (tmI rfl rfl) (ev_cN 26)) ?_
  refine wl_v (x_assign (tmB rfl rfl)) ?_
  refine wl_nil ?_
  refine then_n (hK10 _ _ ?_); clear hK10 K10
  refine cnd (tm rfl) (fun hc3 => ?_) (fun hc3 => ?_)
  · skip
    try simp only [nrm] at hc3
    refine wp_seq_k ?_; intro K11 hK11
    refine wlit ?_
    refine wl_v (x_assign (ev_cN 10)) ?_
    refine wl_nil ?_
    refine then_n (hK11 _ _ ?_); clear hK11 K11
    refine wp_ret ?_
    refine inb_r ?_
    refine then_r ?_
    refine ret1 rfl (.tmp rfl (show _ = Value.int _ _ from rfl)) ?_
    refine ⟨congrArg (fun z : Int => Ending.returned (.int .i64 z)) ?_, hS.kp⟩
    unfold pkOf
    (repeat' split) <;> omega
  try simp only [nrm] at hc3
  refine wp_seq_k ?_; intro K12 hK12
  refine wlit ?_
  refine wl_v (x_eql (tmI rfl rfl) (ev_cN 24)) ?_
  refine wl_v (x_assign (tmB rfl rfl)) ?_
  refine wl_nil ?_
  refine then_n (hK12 _ _ ?_); clear hK12 K12
  refine cnd (tm rfl) (fun hc4 => ?_) (fun hc4 => ?_)
  · skip
    try simp only [nrm] at hc4
    refine wp_seq_k ?_; intro K13 hK13
    refine wlit ?_
    refine wl_v (x_assign (ev_cN 11)) ?_
    refine wl_nil ?_
    refine then_n (hK13 _ _ ?_); clear hK13 K13
    refine wp_ret ?_
    refine inb_r ?_
    refine then_r ?_
    refine ret1 rfl (.tmp rfl (show _ = Value.int _ _ from rfl)) ?_
    refine ⟨congrArg (fun z : Int => Ending.returned (.int .i64 z)) ?_, hS.kp⟩
    unfold pkOf
    (repeat' split) <;> omega
  try simp only [nrm] at hc4
  refine wp_seq_k ?_; intro K14 hK14
  refine wlit ?_
  refine wl_v (x_eql (tmI rfl rfl) (ev_cN 25)) ?_
  refine wl_v (x_assign (tmB rfl rfl)) ?_
  refine wl_nil ?_
  refine then_n (hK14 _ _ ?_); clear hK14 K14
  refine cnd (tm rfl) (fun hc5 => ?_) (fun hc5 => ?_)
  · skip
    try simp only [nrm] at hc5
    refine wp_seq_k ?_; intro K15 hK15
    refine wlit ?_
    refine wl_v (x_assign (ev_cN 12)) ?_
    refine wl_nil ?_
    refine then_n (hK15 _ _ ?_); clear hK15 K15
    refine wp_ret ?_
    refine inb_r ?_
    refine then_r ?_
    refine ret1 rfl (.tmp rfl (show _ = Value.int _ _ from rfl)) ?_
    refine ⟨congrArg (fun z : Int => Ending.returned (.int .i64 z)) ?_, hS.kp⟩
    unfold pkOf
    (repeat' split) <;> omega
  try simp only [nrm] at hc5
  refine wp_seq_k ?_; intro K16 hK16
  refine wlit ?_
  refine wl_v (x_eql (tmI rfl rfl) (ev_cN 28)) ?_
  refine wl_v (x_assign (tmB rfl rfl)) ?_
  refine wl_nil ?_
  refine then_n (hK16 _ _ ?_); clear hK16 K16
  refine cnd (tm rfl) (fun hc6 => ?_) (fun hc6 => ?_)
  · skip
    try simp only [nrm] at hc6
    refine wp_seq_k ?_; intro K17 hK17
    refine wlit ?_
    refine wl_v (x_assign (ev_cN 13)) ?_
    refine wl_nil ?_
    refine then_n (hK17 _ _ ?_); clear hK17 K17
    refine wp_ret ?_
    refine inb_r ?_
    refine then_r ?_
    refine ret1 rfl (.tmp rfl (show _ = Value.int _ _ from rfl)) ?_
    refine ⟨congrArg (fun z : Int => Ending.returned (.int .i64 z)) ?_, hS.kp⟩
    unfold pkOf
    (repeat' split) <;> omega
  try simp only [nrm] at hc6
  refine wp_skip ?_
  refine inb_n ?_
  refine then_n (hK2 _ _ ?_); clear hK2 K2
  refine wp_seq_k ?_; intro K18 hK18
  refine wlit ?_
  refine wl_v (x_assign (ev_cN 2)) ?_
  refine wl_nil ?_
  refine then_n (hK18 _ _ ?_); clear hK18 K18
  refine wp_ret ?_
  refine ret1 rfl (.tmp rfl (show _ = Value.int _ _ from rfl)) ?_
  refine ⟨congrArg (fun z : Int => Ending.returned (.int .i64 z)) ?_, hS.kp⟩
  unfold pkOf
  (repeat' split) <;> omega
set_option maxRecDepth 100000 in
set_option maxHeartbeats 4000000 in
theorem rof_c (e : Int) (w0 : World) : Calls Try.prog 37 #[.int .i64 e] w0 fun x w' => x = .returned (.int .i64 (pkOf e)) ∧ Kp [] w0 w' := by
  have hS := St.sv w0
  refine ent (n := 18) Try.func37 rfl rfl ?_
  refine wp_seq_k ?_; intro K1 hK1
  refine wlit ?_
  refine wl_v (x_assign (ev_cN 0)) ?_
  refine wl_nil ?_
  refine then_n (hK1 _ _ ?_); clear hK1 K1
  refine wp_seq_k ?_; intro K2 hK2
  refine wp_seq_k ?_; intro K3 hK3
  refine wlit ?_
  refine wl_v (x_move (tmI rfl rfl)) ?_
  refine wl_nil ?_
  refine then_n (hK3 _ _ ?_); clear hK3 K3
  refine wp_block ?_
  refine wp_seq_k ?_; intro K4 hK4
  refine wlit ?_
  refine wl_v (x_eql (tmI rfl rfl) (ev_cN 0)) ?_
  refine wl_v (x_assign (tmB rfl rfl)) ?_
  refine wl_nil ?_
  refine then_n (hK4 _ _ ?_); clear hK4 K4
  refine cnd (tm rfl) (fun hc0 => ?_) (fun hc0 => ?_)
  · skip
    try simp only [nrm] at hc0
    refine wp_seq_k ?_; intro K5 hK5
    refine wlit ?_
    refine wl_v (x_assign (ev_cN 0)) ?_
    refine wl_nil ?_
    refine then_n (hK5 _ _ ?_); clear hK5 K5
    refine wp_ret ?_
    refine inb_r ?_
    refine then_r ?_
    refine ret1 rfl (.tmp rfl (show _ = Value.int _ _ from rfl)) ?_
    refine ⟨congrArg (fun z : Int => Ending.returned (.int .i64 z)) ?_, hS.kp⟩
    unfold pkOf
    (repeat' split) <;> omega
  try simp only [nrm] at hc0
  refine wp_seq_k ?_; intro K6 hK6
  refine wlit ?_
  refine wl_v (x_eql (tmI rfl rfl) (ev_cN 20)) ?_
  refine wl_v (x_assign (tmB rfl rfl)) ?_
  refine wl_nil ?_
  refine then_n (hK6 _ _ ?_); clear hK6 K6
  refine cnd (tm rfl) (fun hc1 => ?_) (fun hc1 => ?_)
  · skip
    try simp only [nrm] at hc1
    refine wp_seq_k ?_; intro K7 hK7
    refine wlit ?_
    refine wl_v (x_assign (ev_cN 1)) ?_
    refine wl_nil ?_
    refine then_n (hK7 _ _ ?_); clear hK7 K7
    refine wp_ret ?_
    refine inb_r ?_
    refine then_r ?_
    refine ret1 rfl (.tmp rfl (show _ = Value.int _ _ from rfl)) ?_
    refine ⟨congrArg (fun z : Int => Ending.returned (.int .i64 z)) ?_, hS.kp⟩
    unfold pkOf
    (repeat' split) <;> omega
  try simp only [nrm] at hc1
  refine wp_seq_k ?_; intro K8 hK8
  refine wlit ?_
  refine wl_v (x_eql (tmI rfl rfl) (ev_cN 22)) ?_
  refine wl_v (x_assign (tmB rfl rfl)) ?_
  refine wl_nil ?_
  refine then_n (hK8 _ _ ?_); clear hK8 K8
  refine cnd (tm rfl) (fun hc2 => ?_) (fun hc2 => ?_)
  · skip
    try simp only [nrm] at hc2
    refine wp_seq_k ?_; intro K9 hK9
    refine wlit ?_
    refine wl_v (x_assign (ev_cN 3)) ?_
    refine wl_nil ?_
    refine then_n (hK9 _ _ ?_); clear hK9 K9
    refine wp_ret ?_
    refine inb_r ?_
    refine then_r ?_
    refine ret1 rfl (.tmp rfl (show _ = Value.int _ _ from rfl)) ?_
    refine ⟨congrArg (fun z : Int => Ending.returned (.int .i64 z)) ?_, hS.kp⟩
    unfold pkOf
    (repeat' split) <;> omega
  try simp only [nrm] at hc2
  refine wp_seq_k ?_; intro K10 hK10
  refine wlit ?_
  refine wl_v (x_eql (tmI rfl rfl) (ev_cN 24)) ?_
  refine wl_v (x_assign (tmB rfl rfl)) ?_
  refine wl_nil ?_
  refine then_n (hK10 _ _ ?_); clear hK10 K10
  refine cnd (tm rfl) (fun hc3 => ?_) (fun hc3 => ?_)
  · skip
    try simp only [nrm] at hc3
    refine wp_seq_k ?_; intro K11 hK11
    refine wlit ?_
    refine wl_v (x_assign (ev_cN 11)) ?_
    refine wl_nil ?_
    refine then_n (hK11 _ _ ?_); clear hK11 K11
    refine wp_ret ?_
    refine inb_r ?_
    refine then_r ?_
    refine ret1 rfl (.tmp rfl (show _ = Value.int _ _ from rfl)) ?_
    refine ⟨congrArg (fun z : Int => Ending.returned (.int .i64 z)) ?_, hS.kp⟩
    unfold pkOf
    (repeat' split) <;> omega
  try simp only [nrm] at hc3
  refine wp_seq_k ?_; intro K12 hK12
  refine wlit ?_
  refine wl_v (x_eql (tmI rfl rfl) (ev_cN 25)) ?_
  refine wl_v (x_assign (tmB rfl rfl)) ?_
  refine wl_nil ?_
  refine then_n (hK12 _ _ ?_); clear hK12 K12
  refine cnd (tm rfl) (fun hc4 => ?_) (fun hc4 => ?_)
  · skip
    try simp only [nrm] at hc4
    refine wp_seq_k ?_; intro K13 hK13
    refine wlit ?_
    refine wl_v (x_assign (ev_cN 12)) ?_
    refine wl_nil ?_
    refine then_n (hK13 _ _ ?_); clear hK13 K13
    refine wp_ret ?_
    refine inb_r ?_
    refine then_r ?_
    refine ret1 rfl (.tmp rfl (show _ = Value.int _ _ from rfl)) ?_
    refine ⟨congrArg (fun z : Int => Ending.returned (.int .i64 z)) ?_, hS.kp⟩
    unfold pkOf
    (repeat' split) <;> omega
  try simp only [nrm] at hc4
  refine wp_seq_k ?_; intro K14 hK14
  refine wlit ?_
  refine wl_v (x_eql (tmI rfl rfl) (ev_cN 26)) ?_
  refine wl_v (x_assign (tmB rfl rfl)) ?_
  refine wl_nil ?_
  refine then_n (hK14 _ _ ?_); clear hK14 K14
  refine cnd (tm rfl) (fun hc5 => ?_) (fun hc5 => ?_)
  · skip
    try simp only [nrm] at hc5
    refine wp_seq_k ?_; intro K15 hK15
    refine wlit ?_
    refine wl_v (x_assign (ev_cN 10)) ?_
    refine wl_nil ?_
    refine then_n (hK15 _ _ ?_); clear hK15 K15
    refine wp_ret ?_
    refine inb_r ?_
    refine then_r ?_
    refine ret1 rfl (.tmp rfl (show _ = Value.int _ _ from rfl)) ?_
    refine ⟨congrArg (fun z : Int => Ending.returned (.int .i64 z)) ?_, hS.kp⟩
    unfold pkOf
    (repeat' split) <;> omega
  try simp only [nrm] at hc5
  refine wp_seq_k ?_; intro K16 hK16
  refine wlit ?_
  refine wl_v (x_eql (tmI rfl rfl) (ev_cN 28)) ?_
  refine wl_v (x_assign (tmB rfl rfl)) ?_
  refine wl_nil ?_
  refine then_n (hK16 _ _ ?_); clear hK16 K16
  refine cnd (tm rfl) (fun hc6 => ?_) (fun hc6 => ?_)
  · skip
    try simp only [nrm] at hc6
    refine wp_seq_k ?_; intro K17 hK17
    refine wlit ?_
    refine wl_v (x_assign (ev_cN 13)) ?_
    refine wl_nil ?_
    refine then_n (hK17 _ _ ?_); clear hK17 K17
    refine wp_ret ?_
    refine inb_r ?_
    refine then_r ?_
    refine ret1 rfl (.tmp rfl (show _ = Value.int _ _ from rfl)) ?_
    refine ⟨congrArg (fun z : Int => Ending.returned (.int .i64 z)) ?_, hS.kp⟩
    unfold pkOf
    (repeat' split) <;> omega
  try simp only [nrm] at hc6
  refine wp_skip ?_
  refine inb_n ?_
  refine then_n (hK2 _ _ ?_); clear hK2 K2
  refine wp_seq_k ?_; intro K18 hK18
  refine wlit ?_
  refine wl_v (x_assign (ev_cN 2)) ?_
  refine wl_nil ?_
  refine then_n (hK18 _ _ ?_); clear hK18 K18
  refine wp_ret ?_
  refine ret1 rfl (.tmp rfl (show _ = Value.int _ _ from rfl)) ?_
  refine ⟨congrArg (fun z : Int => Ending.returned (.int .i64 z)) ?_, hS.kp⟩
  unfold pkOf
  (repeat' split) <;> omega
end Go.Proofs.Ytcobjneobdihkaa
/- Proved: TcpStamps returns true for every segment, and changes no memory that was there. Conditions: none. -/
namespace Go.Proofs.Ytcobjneobdihkaa
open Go.ChangeShapes Go.WideShapes Go.ChangeAt Go.RowKit
structure RSeg where
  srcPort : Nat
  dstPort : Nat
  seq : Nat
  ack : Nat
  flags : Nat
  window : Nat
  sum : Nat
  urgent : Nat
  options : Sl Nat
  load : Sl Nat
def RSeg.V (s : RSeg) : List Value := [.int .u16 (s.srcPort : Int), .int .u16 (s.dstPort : Int), .int .u32 (s.seq : Int), .int .u32 (s.ack : Int), .int .u8 (s.flags : Int), .int .u16 (s.window : Int), .int .u16 (s.sum : Int), .int .u16 (s.urgent : Int), .slice s.options.a s.options.l.length s.options.c, .slice s.load.a s.load.l.length s.load.c]
theorem RSeg.len (s : RSeg) : s.V.length = 10 := rfl
def RSeg.ok (w : World) (s : RSeg) : Prop := s.srcPort < 65536 ∧ s.dstPort < 65536 ∧ s.seq < 4294967296 ∧ s.ack < 4294967296 ∧ s.flags < 256 ∧ s.window < 65536 ∧ s.sum < 65536 ∧ s.urgent < 65536 ∧ okB w s.options ∧ okB w s.load
instance : Inhabited RSeg := ⟨⟨0, 0, 0, 0, 0, 0, 0, 0, default, default⟩⟩
theorem stampsF_le (l : List Nat) : ∀ f p q, stampsF l f p = some q → q + 8 ≤ l.length := by
  intro f
  induction f with
  | zero => intro p q h; simp [stampsF] at h
  | succ f ih =>
    intro p q h
    simp only [stampsF] at h
    split at h
    · rename_i hp
      split at h
      · exact ih _ _ h
      · split at h
        · simp at h
        · rename_i h1
          split at h
          · split at h
            · simp at h
              omega
            · simp at h
          · exact ih _ _ h
    · simp at h
theorem stampsL_le {l : List Nat} {q : Nat} (h : stampsL l 0 = some q) : q + 8 ≤ l.length := stampsF_le l _ _ _ h
theorem getN_drop0 (l : List Nat) (q k : Nat) : getN (l.drop q) 0 k = getN l q k := by simp [getN]
theorem getN_drop4 (l : List Nat) (q k : Nat) : getN (l.drop q) (0 + 4) k = getN l (q + 4) k := by simp [getN]
set_option maxRecDepth 100000 in
set_option maxHeartbeats 4000000 in
theorem stamps_none_c (n : Nat) (A : Option Addr) (c : Nat) (l : List Nat) (w0 : World) (hv : View w0 w0.heap.size A (l.map u8v)) (hl : l.length = n) (hb : Bytes l) (hn4 : n ≤ 900000) (h : stampsL l 0 = none) :
    Calls Try.prog 24 #[.slice A n c] w0 fun e w' => e = .returned (.tuple #[.int .i64 0, .bool false]) ∧ Kp [] w0 w' := by
  have h2 := stamps_c n A c l w0 hv hl hb hn4
  rw [h] at h2
  exact h2
set_option maxRecDepth 100000 in
set_option maxHeartbeats 4000000 in
theorem stamps_some_c (n : Nat) (A : Option Addr) (c : Nat) (l : List Nat) (q : Nat) (w0 : World) (hv : View w0 w0.heap.size A (l.map u8v)) (hl : l.length = n) (hb : Bytes l) (hn4 : n ≤ 900000) (h : stampsL l 0 = some q) :
    Calls Try.prog 24 #[.slice A n c] w0 fun e w' => e = .returned (.tuple #[.int .i64 (q : Int), .bool true]) ∧ Kp [] w0 w' := by
  have h2 := stamps_c n A c l w0 hv hl hb hn4
  rw [h] at h2
  exact h2

set_option maxRecDepth 100000 in
set_option maxHeartbeats 4000000 in
theorem stamp_none_c (a1 a2 a3 a4 a5 a6 a7 a8 : Nat) (O : Option Addr) (m c : Nat) (L : Option Addr) (k d : Nat) (o : List Nat) (w0 : World) (hv : View w0 w0.heap.size O (o.map u8v)) (hl : o.length = m) (hb : Bytes o) (hn4 : m ≤ 900000) (h : stampsL o 0 = none) :
    Calls Try.prog 10 #[.agg (segV a1 a2 a3 a4 a5 a6 a7 a8 O m c L k d).toArray] w0 fun e w' => e = .returned (.tuple #[.int .u32 0, .int .u32 0, .bool false]) ∧ Kp [] w0 w' := by
  have hS := (St.sv w0).vcons rfl hv
  refine ent (n := 24) Try.func10 rfl rfl ?_
  refine wp_seq_k ?_; intro K1 hK1
  refine wlit ?_
  refine wl_e rfl ?_; intro K hK
  refine ow_box hS (tmA rfl rfl) rfl ?_
  clear hS; intro g0_0 w hg0_0 hS
  refine hK _ _ ?_; clear hK K
  refine wl_v (x_assign (ev_cN 0)) ?_
  refine wl_v (x_assign (ev_cN 0)) ?_
  refine wl_v (x_assign ev_c) ?_
  refine wl_nil ?_
  refine then_n (hK1 _ _ ?_); clear hK1 K1
  refine wp_seq_k ?_; intro K2 hK2
  refine wlit ?_
  refine wl_v (x_fa 8 Try.underlying49 rfl rfl ts_22 (tmP rfl rfl)) ?_
  refine wl_v (x_load Try.underlying22 rfl (tmP rfl rfl) (cellB hS.ok 0 rfl rfl)) ?_
  refine wl_e rfl ?_; intro K hK
  refine ow_call Try.func24 rfl rfl (evs_cons (tmS rfl rfl) <| evs_nil) (stamps_none_c m O c o _ (viewV hS.ok 1 rfl) hl hb hn4 h) ?_
  rintro e w ⟨rfl, hk⟩
  refine ⟨_, rfl, ?_⟩
  replace hS := hS.kept hk
  clear hk
  refine hK _ _ ?_; clear hK K
  refine wl_v (x_move (tmT rfl rfl)) ?_
  refine wl_v (x_ext (tmT rfl rfl) rfl) ?_
  refine wl_v (x_ext (tmT rfl rfl) rfl) ?_
  refine wl_v (x_assign (tmI rfl rfl)) ?_
  refine wl_v (x_assign (tmB rfl rfl)) ?_
  refine wl_nil ?_
  refine then_n (hK2 _ _ ?_); clear hK2 K2
  refine wp_seq_k ?_; intro K3 hK3
  refine wp_seq_k ?_; intro K4 hK4
  refine wlit ?_
  refine wl_v (x_move (tmB rfl rfl)) ?_
  refine wl_v (x_not (tmB rfl rfl)) ?_
  refine wl_nil ?_
  refine then_n (hK4 _ _ ?_); clear hK4 K4
  refine cnds (tm rfl) (fun hc0 => ?_) (fun hc0 => ?_)
  · exfalso
    simp at hc0
  try simp only [nrm] at hc0
  refine wp_seq_k ?_; intro K5 hK5
  refine wlit ?_
  refine wl_v (x_assign (ev_cN 0)) ?_
  refine wl_v (x_assign (ev_cN 0)) ?_
  refine wl_v (x_assign ev_c) ?_
  refine wl_nil ?_
  refine then_n (hK5 _ _ ?_); clear hK5 K5
  refine wp_ret ?_
  refine then_r ?_
  refine ret3 rfl (.tmp rfl (show _ = Value.int _ _ from rfl)) (.tmp rfl (show _ = Value.int _ _ from rfl)) (.tmp rfl (show _ = Value.bool _ from rfl)) ?_
  exact ⟨rfl, hS.kp⟩
set_option maxRecDepth 100000 in
set_option maxHeartbeats 4000000 in
theorem stamp_some_c (a1 a2 a3 a4 a5 a6 a7 a8 : Nat) (O : Option Addr) (m c : Nat) (L : Option Addr) (k d : Nat) (o : List Nat) (q : Nat) (w0 : World) (hv : View w0 w0.heap.size O (o.map u8v)) (hl : o.length = m) (hmc : m ≤ c) (hb : Bytes o) (hn4 : m ≤ 900000) (h : stampsL o 0 = some q) :
    Calls Try.prog 10 #[.agg (segV a1 a2 a3 a4 a5 a6 a7 a8 O m c L k d).toArray] w0 fun e w' => e = .returned (.tuple #[.int .u32 ((getN o q 4 : Nat) : Int), .int .u32 ((getN o (q + 4) 4 : Nat) : Int), .bool true]) ∧ Kp [] w0 w' := by
  have hS := (St.sv w0).vcons rfl hv
  have hq := stampsL_le h
  have hl2 : (o.drop q).length = m - q := by rw [List.length_drop, hl]
  have hb2 : Bytes (o.drop q) := hb.drop q
  refine ent (n := 24) Try.func10 rfl rfl ?_
  refine wp_seq_k ?_; intro K1 hK1
  refine wlit ?_
  refine wl_e rfl ?_; intro K hK
  refine ow_box hS (tmA rfl rfl) rfl ?_
  clear hS; intro g0_0 w hg0_0 hS
  refine hK _ _ ?_; clear hK K
  refine wl_v (x_assign (ev_cN 0)) ?_
  refine wl_v (x_assign (ev_cN 0)) ?_
  refine wl_v (x_assign ev_c) ?_
  refine wl_nil ?_
  refine then_n (hK1 _ _ ?_); clear hK1 K1
  refine wp_seq_k ?_; intro K2 hK2
  refine wlit ?_
  refine wl_v (x_fa 8 Try.underlying49 rfl rfl ts_22 (tmP rfl rfl)) ?_
  refine wl_v (x_load Try.underlying22 rfl (tmP rfl rfl) (cellB hS.ok 0 rfl rfl)) ?_
  refine wl_e rfl ?_; intro K hK
  refine ow_call Try.func24 rfl rfl (evs_cons (tmS rfl rfl) <| evs_nil) (stamps_some_c m O c o q _ (viewV hS.ok 1 rfl) hl hb hn4 h) ?_
  rintro e w ⟨rfl, hk⟩
  refine ⟨_, rfl, ?_⟩
  replace hS := hS.kept hk
  clear hk
  refine hK _ _ ?_; clear hK K
  refine wl_v (x_move (tmT rfl rfl)) ?_
  refine wl_v (x_ext (tmT rfl rfl) rfl) ?_
  refine wl_v (x_ext (tmT rfl rfl) rfl) ?_
  refine wl_v (x_assign (tmI rfl rfl)) ?_
  refine wl_v (x_assign (tmB rfl rfl)) ?_
  refine wl_nil ?_
  refine then_n (hK2 _ _ ?_); clear hK2 K2
  refine wp_seq_k ?_; intro K3 hK3
  refine wp_seq_k ?_; intro K4 hK4
  refine wlit ?_
  refine wl_v (x_move (tmB rfl rfl)) ?_
  refine wl_v (x_not (tmB rfl rfl)) ?_
  refine wl_nil ?_
  refine then_n (hK4 _ _ ?_); clear hK4 K4
  refine cnd (tm rfl) (fun hc0 => ?_) (fun hc0 => ?_)
  · exfalso
    simp at hc0
  try simp only [nrm] at hc0
  refine wp_skip ?_
  refine then_n (hK3 _ _ ?_); clear hK3 K3
  refine wp_seq_k ?_; intro K5 hK5
  refine wlit ?_
  refine wl_v (x_fa 8 Try.underlying49 rfl rfl ts_22 (tmP rfl rfl)) ?_
  refine wl_v (x_load Try.underlying22 rfl (tmP rfl rfl) (cellB hS.ok 0 rfl rfl)) ?_
  refine wl_v (x_move (tmI rfl rfl)) ?_
  refine wl_v (x_sliceL Try.underlying22 ts_5 (tmS rfl rfl) (tmI rfl rfl) (by omega)) ?_
  replace hS := hS.dropb 1 q rfl (by omega : o.length ≤ c)
  refine wl_e rfl ?_; intro K hK
  refine ow_call Try.func14 rfl rfl (evs_cons (tmS rfl rfl) <| evs_nil) (read_c (m - q) _ (c - q) (o.drop q) _ (viewV hS.ok 0 rfl) hl2 (by omega)) ?_
  rintro e w ⟨gr, A0, rfl, hS2⟩
  refine ⟨_, rfl, ?_⟩
  replace hS := hS.adds hS2 rfl -- +gr,rowb
  clear hS2
  have hA : Off A0 0 (m - q) A0 := off_zero
  have hcp : m - q - 0 ≤ m - q := by omega
  refine hK _ _ ?_; clear hK K
  refine wl_v (x_assign (tmP rfl rfl)) ?_
  refine wl_nil ?_
  refine then_n (hK5 _ _ ?_); clear hK5 K5
  refine wp_seq_k ?_; intro K6 hK6
  refine wlit ?_
  refine wl_v (x_move (tmP rfl rfl)) ?_
  refine wl_e rfl ?_; intro K hK
  refine ow_call Try.func25 rfl rfl (evs_cons (tmP rfl rfl) <| evs_nil) (long_c gr A0 _ _ (m - q) _ (o.drop q) false _ _ (hS.enter [0] [1] rfl rfl) hA (by omega) hcp hl2 hb2) ?_
  rintro e w ⟨A1, c1, rfl, hS2, hA, hcp⟩
  refine ⟨_, rfl, ?_⟩
  replace hS := hS.turn 0 rfl rfl hS2 rfl
  clear hS2
  try replace hS := St.nm (M' := [_, .row _ _ _ _ _, .vw _ _, .blk _ _ [_, _, _, _, _, _, _, _, _, _], .vw _ _]) hS rfl
  refine hK _ _ ?_; clear hK K
  refine wl_v (x_move (tmP rfl rfl)) ?_
  refine wl_e rfl ?_; intro K hK
  refine ow_call Try.func25 rfl rfl (evs_cons (tmP rfl rfl) <| evs_nil) (long_c gr A0 _ _ (m - q) _ (o.drop q) false _ _ (hS.enter [0] [1] rfl rfl) hA (by omega) hcp hl2 hb2) ?_
  rintro e w ⟨A1, c1, rfl, hS2, hA, hcp⟩
  refine ⟨_, rfl, ?_⟩
  replace hS := hS.turn 0 rfl rfl hS2 rfl
  clear hS2
  try replace hS := St.nm (M' := [_, .row _ _ _ _ _, .vw _ _, .blk _ _ [_, _, _, _, _, _, _, _, _, _], .vw _ _]) hS rfl
  refine hK _ _ ?_; clear hK K
  refine wl_v (x_assign (tmI rfl rfl)) ?_
  refine wl_v (x_assign (tmI rfl rfl)) ?_
  refine wl_v (x_assign ev_c) ?_
  refine wl_nil ?_
  refine then_n (hK6 _ _ ?_); clear hK6 K6
  refine wp_ret ?_
  refine ret3 rfl (.tmp rfl (show _ = Value.int _ _ from rfl)) (.tmp rfl (show _ = Value.int _ _ from rfl)) (.tmp rfl (show _ = Value.bool _ from rfl)) ?_
  refine ⟨?_, hS.kp⟩
  rw [getN_drop0, getN_drop4]
namespace TcpStamps
end TcpStamps
end Go.Proofs.Ytcobjneobdihkaa
/- steer: options of a segment by both sides' Parse, with the room. Conditions: none but bounds. -/
namespace Go.Proofs.Ytcobjneobdihkaa
open Go.ChangeShapes Go.WideShapes Go.ChangeAt Go.RowKit
set_option maxRecDepth 100000 in
set_option maxHeartbeats 4000000 in
theorem rtcp_parse_k (n : Nat) (A : Option Addr) (c : Nat) (l : List Nat) (w0 : World) (hv : View w0 w0.heap.size A (l.map u8v)) (hl : l.length = n) (hc : n ≤ c) (hb : Bytes l) (hn4 : n ≤ 1000000)
    (sz : Nat) (hsz : sz = nth l 12 / 16 * 4) (h1 : 20 ≤ sz) (h2 : nth l 12 % 16 = 0) (h3 : sz ≤ n) :
    Calls Try.prog 19 #[.slice A n c] w0 fun e w' => ∃ O co L cl, e = .returned (.tuple #[.agg (segV (getN l 0 2) (getN l 2 2) (getN l 4 4) (getN l 8 4) (getN l 13 1) (getN l 14 2) (getN l 16 2) (getN l 18 2) O (sz - 20) co L (n - sz) cl).toArray, .int .i64 0]) ∧
      NewV w0 w' O (((l.drop 20).take (sz - 20)).map u8v) ∧ NewV w0 w' L ((l.drop sz).map u8v) ∧ sz - 20 ≤ co ∧ Kp [] w0 w' := by
  have hS := (St.sv w0).vcons rfl hv
  have hqb : l.getD 12 0 < 256 := nth_lt hb 12
  have hz : l.getD 12 0 / 16 * 4 = sz := hsz.symm
  have h2' : l.getD 12 0 % 16 = 0 := h2
  obtain ⟨b4, o4, rfl⟩ := view_some hv (by rw [List.length_map]; omega)
  have g0 := getN_lt hb 0 2
  have g2 := getN_lt hb 2 2
  have g4 := getN_lt hb 4 4
  have g8 := getN_lt hb 8 4
  have g14 := getN_lt hb 14 2
  have g16 := getN_lt hb 16 2
  have g18 := getN_lt hb 18 2
  have e13 : getN l 13 1 = l.getD 13 0 := getN_one (by omega)
  refine ent (n := 69) Try.func19 rfl rfl ?_
  refine wp_seq_k ?_; intro K1 hK1
  refine wlit ?_
  refine wl_e rfl ?_; intro K hK
  refine ow_alloc hS tz_40 rfl ?_
  clear hS; intro g0_0 w hg0_0 hS
  refine hK _ _ ?_; clear hK K
  refine wl_v (x_assign (ev_cN 0)) ?_
  refine wl_nil ?_
  refine then_n (hK1 _ _ ?_); clear hK1 K1
  refine wp_seq_k ?_; intro K2 hK2
  refine wp_seq_k ?_; intro K3 hK3
  refine wlit ?_
  refine wl_v (x_move (tmS rfl rfl)) ?_
  refine wl_v (x_len Try.underlying22 (tmS rfl rfl)) ?_
  refine wl_v (x_lss (tmI rfl rfl) (ev_cN 20)) ?_
  refine wl_nil ?_
  refine then_n (hK3 _ _ ?_); clear hK3 K3
  refine cnd (tm rfl) (fun hc0 => ?_) (fun hc0 => ?_)
  · exfalso
    simp at hc0
    omega
  try simp only [nrm] at hc0
  refine wp_skip ?_
  refine then_n (hK2 _ _ ?_); clear hK2 K2
  refine wp_seq_k ?_; intro K4 hK4
  refine wlit ?_
  refine wl_v (x_move (tmS rfl rfl)) ?_
  refine wl_v (x_ixs1 Try.underlying22 ts_5 (tmS rfl rfl) (ev_cN 12) (by omega)) ?_
  refine wl_v (x_load Try.underlying5 rfl (tmP rfl rfl) (cellV hS.ok 1 rfl (getm (by omega)))) ?_
  refine wl_v (x_quoN (tmI rfl rfl) (ev_cN 16) (by omega) (fit_u8 (by omega))) ?_
  refine wl_v (x_convN Try.underlying5 Try.underlying3 (tmI rfl rfl) (fit_i64 (by omega))) ?_
  refine wl_v (x_mulN (tmI rfl rfl) (ev_cN 4) (fit_i64 (by omega))) ?_
  refine wl_v (x_assign (tmI rfl (congrArg (fun q : Nat => Value.int .i64 (q : Int)) hz))) ?_
  refine wl_nil ?_
  refine then_n (hK4 _ _ ?_); clear hK4 K4
  refine wp_seq_k ?_; intro K5 hK5
  refine wp_seq_k ?_; intro K6 hK6
  refine wlit ?_
  refine wl_v (x_move (tmI rfl rfl)) ?_
  refine wl_v (x_lss (tmI rfl rfl) (ev_cN 20)) ?_
  refine wl_v (x_move (tmB rfl rfl)) ?_
  refine gs_wl (tm (t := 18) rfl) (fun hg4_2 => ?_) (fun hg4_2 => ?_)
  · have hg4_2' := hg4_2; (try simp only [nrm] at hg4_2'); try (exfalso; first | with_reducible exact absurd hg4_2 Bool.false_ne_true | with_reducible exact absurd hg4_2.symm Bool.false_ne_true | omega | (simp at hg4_2; done))
  have hg4_2' := hg4_2; (try simp only [nrm] at hg4_2')
  refine wl_gv (want_y rfl rfl rfl rfl (by rw [hg4_2]; rfl)) (x_move (tmS rfl rfl)) ?_
  refine wl_gv (want_y rfl rfl rfl rfl (by rw [hg4_2]; rfl)) (x_ixs1 Try.underlying22 ts_5 (tmS rfl rfl) (ev_cN 12) (by omega)) ?_
  refine wl_gv (want_y rfl rfl rfl rfl (by rw [hg4_2]; rfl)) (x_load Try.underlying5 rfl (tmP rfl rfl) (cellV hS.ok 1 rfl (getm (by omega)))) ?_
  refine wl_gv (want_y rfl rfl rfl rfl (by rw [hg4_2]; rfl)) (x_remN (tmI rfl rfl) (ev_cN 16) (by omega)) ?_
  refine wl_gv (want_y rfl rfl rfl rfl (by rw [hg4_2]; rfl)) (x_neq (tmI rfl rfl) (ev_cN 0)) ?_
  refine wl_v (x_pickF (tmB rfl rfl) hg4_2 (tmB rfl rfl)) ?_
  refine wl_nil ?_
  refine then_n (hK6 _ _ ?_); clear hK6 K6
  refine cnd (tm rfl) (fun hc1 => ?_) (fun hc1 => ?_)
  · exfalso
    simp only [nrm] at hc1
    omega
  try simp only [nrm] at hc1
  refine wp_skip ?_
  refine then_n (hK5 _ _ ?_); clear hK5 K5
  refine wp_seq_k ?_; intro K9 hK9
  refine wp_seq_k ?_; intro K10 hK10
  refine wlit ?_
  refine wl_v (x_move (tmI rfl rfl)) ?_
  refine wl_v (x_move (tmS rfl rfl)) ?_
  refine wl_v (x_len Try.underlying22 (tmS rfl rfl)) ?_
  refine wl_v (x_gtr (tmI rfl rfl) (tmI rfl rfl)) ?_
  refine wl_nil ?_
  refine then_n (hK10 _ _ ?_); clear hK10 K10
  refine cnd (tm rfl) (fun hc2 => ?_) (fun hc2 => ?_)
  · exfalso
    simp at hc2
    omega
  try simp only [nrm] at hc2
  refine wp_skip ?_
  refine then_n (hK9 _ _ ?_); clear hK9 K9
  refine wp_seq_k ?_; intro K11 hK11
  refine cutc [5, 31, 32, 33, 34, 35, 36, 37, 38, 39, 40, 41, 42, 43, 44, 45, 46, 47, 48, 49, 50, 51, 52, 53, 54, 55] (fun g w => ∃ (gq : Nat), g 5 = .pointer (some ⟨gq, 0, none⟩) ∧ St [] w0 [.blk gq 40 (segV (getN l 0 2) (getN l 2 2) (getN l 4 4) (getN l 8 4) (l.getD 13 0) (getN l 14 2) (getN l 16 2) (getN l 18 2) none 0 0 none 0 0), .blk g0_0 40 (segV 0 0 0 0 0 0 0 0 none 0 0 none 0 0), .vw (some ⟨b4, o4, none⟩) (l.map u8v)] w) ?_ ?_
  · skip
    refine rg_startk 0 hS mixed_ ?_
    clear hS; intro w hS
    refine rg_take 0 rfl rfl (by kernel_rfl) (by kernel_rfl) (by kernel_rfl) (want_0) (fun w hok => x_move (tmS rfl rfl)) ?_
    refine rg_take 3 rfl rfl (by kernel_rfl) (by kernel_rfl) (by kernel_rfl) (want_0) (fun w hok => x_move (tmS rfl rfl)) ?_
    refine rg_take 6 rfl rfl (by kernel_rfl) (by kernel_rfl) (by kernel_rfl) (want_0) (fun w hok => x_move (tmS rfl rfl)) ?_
    refine rg_take 9 rfl rfl (by kernel_rfl) (by kernel_rfl) (by kernel_rfl) (want_0) (fun w hok => x_move (tmS rfl rfl)) ?_
    refine rg_take 12 rfl rfl (by kernel_rfl) (by kernel_rfl) (by kernel_rfl) (want_0) (fun w hok => x_move (tmS rfl rfl)) ?_
    refine rg_take 13 rfl rfl (by kernel_rfl) (by kernel_rfl) (by kernel_rfl) (want_0) (fun w hok => x_ixs1 Try.underlying22 ts_5 (tmS rfl rfl) (ev_cN 13) (by omega)) ?_
    refine rg_take 14 rfl rfl (by kernel_rfl) (by kernel_rfl) (by kernel_rfl) (want_0) (fun w hok => x_load Try.underlying5 rfl (tmP rfl rfl) (cellV hok 1 rfl (getm (by omega)))) ?_
    refine rg_take 15 rfl rfl (by kernel_rfl) (by kernel_rfl) (by kernel_rfl) (want_0) (fun w hok => x_move (tmS rfl rfl)) ?_
    refine rg_take 18 rfl rfl (by kernel_rfl) (by kernel_rfl) (by kernel_rfl) (want_0) (fun w hok => x_move (tmS rfl rfl)) ?_
    refine rg_take 21 rfl rfl (by kernel_rfl) (by kernel_rfl) (by kernel_rfl) (want_0) (fun w hok => x_move (tmS rfl rfl)) ?_
    refine rg_step2 1 25 rfl rfl (by kernel_rfl) (want_0) (want_0) (oks_drop hS 0 rfl) ?_ ?_
    · intro K hK
      refine ow_call Try.func17 rfl rfl (evs_cons (tmS rfl rfl) <| evs_cons (ev_cN 0) <| evs_cons (ev_cN 2) <| evs_nil) (get_c n _ c l _ _ _ (viewV hS.ok 1 rfl) hl hc hn4 hb (by omega) (by omega)) ?_
      rintro e w ⟨rfl, hk⟩
      refine ⟨_, rfl, ?_⟩
      replace hS := hS.kept hk
      clear hk
      refine hK _ _ ?_; clear hK K
      refine rg_take 2 rfl rfl (by kernel_rfl) (by kernel_rfl) (by kernel_rfl) (want_0) (fun w hok => x_convN Try.underlying24 Try.underlying27 (tmI rfl rfl) (fit_u16 (by omega))) ?_
      refine rg_step2 4 25 rfl rfl (by kernel_rfl) (want_0) (want_0) (oks_drop hS 0 rfl) ?_ ?_
      · intro K hK
        refine ow_call Try.func17 rfl rfl (evs_cons (tmS rfl rfl) <| evs_cons (ev_cN 2) <| evs_cons (ev_cN 2) <| evs_nil) (get_c n _ c l _ _ _ (viewV hS.ok 1 rfl) hl hc hn4 hb (by omega) (by omega)) ?_
        rintro e w ⟨rfl, hk⟩
        refine ⟨_, rfl, ?_⟩
        replace hS := hS.kept hk
        clear hk
        refine hK _ _ ?_; clear hK K
        refine rg_take 5 rfl rfl (by kernel_rfl) (by kernel_rfl) (by kernel_rfl) (want_0) (fun w hok => x_convN Try.underlying24 Try.underlying27 (tmI rfl rfl) (fit_u16 (by omega))) ?_
        refine rg_step2 7 25 rfl rfl (by kernel_rfl) (want_0) (want_0) (oks_drop hS 0 rfl) ?_ ?_
        · intro K hK
          refine ow_call Try.func17 rfl rfl (evs_cons (tmS rfl rfl) <| evs_cons (ev_cN 4) <| evs_cons (ev_cN 4) <| evs_nil) (get_c n _ c l _ _ _ (viewV hS.ok 1 rfl) hl hc hn4 hb (by omega) (by omega)) ?_
          rintro e w ⟨rfl, hk⟩
          refine ⟨_, rfl, ?_⟩
          replace hS := hS.kept hk
          clear hk
          refine hK _ _ ?_; clear hK K
          refine rg_take 8 rfl rfl (by kernel_rfl) (by kernel_rfl) (by kernel_rfl) (want_0) (fun w hok => x_convN Try.underlying24 Try.underlying30 (tmI rfl rfl) (fit_u32 (by omega))) ?_
          refine rg_step2 10 25 rfl rfl (by kernel_rfl) (want_0) (want_0) (oks_drop hS 0 rfl) ?_ ?_
          · intro K hK
            refine ow_call Try.func17 rfl rfl (evs_cons (tmS rfl rfl) <| evs_cons (ev_cN 8) <| evs_cons (ev_cN 4) <| evs_nil) (get_c n _ c l _ _ _ (viewV hS.ok 1 rfl) hl hc hn4 hb (by omega) (by omega)) ?_
            rintro e w ⟨rfl, hk⟩
            refine ⟨_, rfl, ?_⟩
            replace hS := hS.kept hk
            clear hk
            refine hK _ _ ?_; clear hK K
            refine rg_take 11 rfl rfl (by kernel_rfl) (by kernel_rfl) (by kernel_rfl) (want_0) (fun w hok => x_convN Try.underlying24 Try.underlying30 (tmI rfl rfl) (fit_u32 (by omega))) ?_
            refine rg_step2 16 25 rfl rfl (by kernel_rfl) (want_0) (want_0) (oks_drop hS 0 rfl) ?_ ?_
            · intro K hK
              refine ow_call Try.func17 rfl rfl (evs_cons (tmS rfl rfl) <| evs_cons (ev_cN 14) <| evs_cons (ev_cN 2) <| evs_nil) (get_c n _ c l _ _ _ (viewV hS.ok 1 rfl) hl hc hn4 hb (by omega) (by omega)) ?_
              rintro e w ⟨rfl, hk⟩
              refine ⟨_, rfl, ?_⟩
              replace hS := hS.kept hk
              clear hk
              refine hK _ _ ?_; clear hK K
              refine rg_take 17 rfl rfl (by kernel_rfl) (by kernel_rfl) (by kernel_rfl) (want_0) (fun w hok => x_convN Try.underlying24 Try.underlying27 (tmI rfl rfl) (fit_u16 (by omega))) ?_
              refine rg_step2 19 25 rfl rfl (by kernel_rfl) (want_0) (want_0) (oks_drop hS 0 rfl) ?_ ?_
              · intro K hK
                refine ow_call Try.func17 rfl rfl (evs_cons (tmS rfl rfl) <| evs_cons (ev_cN 16) <| evs_cons (ev_cN 2) <| evs_nil) (get_c n _ c l _ _ _ (viewV hS.ok 1 rfl) hl hc hn4 hb (by omega) (by omega)) ?_
                rintro e w ⟨rfl, hk⟩
                refine ⟨_, rfl, ?_⟩
                replace hS := hS.kept hk
                clear hk
                refine hK _ _ ?_; clear hK K
                refine rg_take 20 rfl rfl (by kernel_rfl) (by kernel_rfl) (by kernel_rfl) (want_0) (fun w hok => x_convN Try.underlying24 Try.underlying27 (tmI rfl rfl) (fit_u16 (by omega))) ?_
                refine rg_step2 22 25 rfl rfl (by kernel_rfl) (want_0) (want_0) (oks_drop hS 0 rfl) ?_ ?_
                · intro K hK
                  refine ow_call Try.func17 rfl rfl (evs_cons (tmS rfl rfl) <| evs_cons (ev_cN 18) <| evs_cons (ev_cN 2) <| evs_nil) (get_c n _ c l _ _ _ (viewV hS.ok 1 rfl) hl hc hn4 hb (by omega) (by omega)) ?_
                  rintro e w ⟨rfl, hk⟩
                  refine ⟨_, rfl, ?_⟩
                  replace hS := hS.kept hk
                  clear hk
                  refine hK _ _ ?_; clear hK K
                  refine rg_take 23 rfl rfl (by kernel_rfl) (by kernel_rfl) (by kernel_rfl) (want_0) (fun w hok => x_convN Try.underlying24 Try.underlying27 (tmI rfl rfl) (fit_u16 (by omega))) ?_
                  refine rg_take 24 rfl rfl (by kernel_rfl) (by kernel_rfl) (by kernel_rfl) (want_0) (fun w hok => x_build (bc_take (tmI rfl rfl) <| bc_take (tmI rfl rfl) <| bc_take (tmI rfl rfl) <| bc_take (tmI rfl rfl) <| bc_take (tmI rfl rfl) <| bc_take (tmI rfl rfl) <| bc_take (tmI rfl rfl) <| bc_take (tmI rfl rfl) <| bc_skip (.slice none 0 0) <| bc_skip (.slice none 0 0) <| bc_nil) (by kernel_rfl)) ?_
                  refine rg_step 25 rfl (by kernel_rfl) (want_0) (oks_drop hS 0 rfl) ?_; intro K hK
                  refine ow_alloc hS tz_40 rfl ?_
                  clear hS; intro g8_25 w hg8_25 hS
                  refine hK _ _ ?_; clear hK K
                  refine rg_step 26 rfl (by kernel_rfl) (want_0) (oks_drop hS 1 rfl) ?_; intro K hK
                  refine ow_storeA hS 0 rfl ts_40 (tmP rfl rfl) (tmA rfl rfl) rfl rfl rfl ?_
                  clear hS; intro w hS
                  try replace hS := St.nm (M' := [.blk _ _ [_, _, _, _, _, _, _, _, _, _], .blk _ _ [_, _, _, _, _, _, _, _, _, _], .vw _ _]) hS rfl
                  refine hK _ _ ?_; clear hK K
                  refine rg_done (oks_drop hS 1 rfl) (by kernel_rfl) ?_
                  exact then_n ⟨_, rfl, (by repeat (first | exact agree_self | exact agree_refl | refine agree_upd rfl ?_ | refine agree_mix rfl ?_)), g8_25, (by first | rfl | go_num | exact congrArg (Value.int _) (by first | omega | (simp; done) | (simp; omega))), hS⟩
                · intro K hK
                  refine ow_alloc hS tz_40 rfl ?_
                  clear hS; intro g8_25 w hg8_25 hS
                  refine hK _ _ ?_; clear hK K
                  refine rg_step 22 rfl (by kernel_rfl) (want_0) (oks_drop hS 1 rfl) ?_; intro K hK
                  refine ow_call Try.func17 rfl rfl (evs_cons (tmS rfl rfl) <| evs_cons (ev_cN 18) <| evs_cons (ev_cN 2) <| evs_nil) (get_c n _ c l _ _ _ (viewV hS.ok 2 rfl) hl hc hn4 hb (by omega) (by omega)) ?_
                  rintro e w ⟨rfl, hk⟩
                  refine ⟨_, rfl, ?_⟩
                  replace hS := hS.kept hk
                  clear hk
                  refine hK _ _ ?_; clear hK K
                  refine rg_take 23 rfl rfl (by kernel_rfl) (by kernel_rfl) (by kernel_rfl) (want_0) (fun w hok => x_convN Try.underlying24 Try.underlying27 (tmI rfl rfl) (fit_u16 (by omega))) ?_
                  refine rg_take 24 rfl rfl (by kernel_rfl) (by kernel_rfl) (by kernel_rfl) (want_0) (fun w hok => x_build (bc_take (tmI rfl rfl) <| bc_take (tmI rfl rfl) <| bc_take (tmI rfl rfl) <| bc_take (tmI rfl rfl) <| bc_take (tmI rfl rfl) <| bc_take (tmI rfl rfl) <| bc_take (tmI rfl rfl) <| bc_take (tmI rfl rfl) <| bc_skip (.slice none 0 0) <| bc_skip (.slice none 0 0) <| bc_nil) (by kernel_rfl)) ?_
                  refine rg_step 26 rfl (by kernel_rfl) (want_0) (oks_drop hS 1 rfl) ?_; intro K hK
                  refine ow_storeA hS 0 rfl ts_40 (tmP rfl rfl) (tmA rfl rfl) rfl rfl rfl ?_
                  clear hS; intro w hS
                  try replace hS := St.nm (M' := [.blk _ _ [_, _, _, _, _, _, _, _, _, _], .blk _ _ [_, _, _, _, _, _, _, _, _, _], .vw _ _]) hS rfl
                  refine hK _ _ ?_; clear hK K
                  refine rg_done (oks_drop hS 1 rfl) (by kernel_rfl) ?_
                  exact then_n ⟨_, rfl, (by repeat (first | exact agree_self | exact agree_refl | refine agree_upd rfl ?_ | refine agree_mix rfl ?_)), g8_25, (by first | rfl | go_num | exact congrArg (Value.int _) (by first | omega | (simp; done) | (simp; omega))), hS⟩
              · intro K hK
                refine ow_alloc hS tz_40 rfl ?_
                clear hS; intro g8_25 w hg8_25 hS
                refine hK _ _ ?_; clear hK K
                refine rg_step 19 rfl (by kernel_rfl) (want_0) (oks_drop hS 1 rfl) ?_; intro K hK
                refine ow_call Try.func17 rfl rfl (evs_cons (tmS rfl rfl) <| evs_cons (ev_cN 16) <| evs_cons (ev_cN 2) <| evs_nil) (get_c n _ c l _ _ _ (viewV hS.ok 2 rfl) hl hc hn4 hb (by omega) (by omega)) ?_
                rintro e w ⟨rfl, hk⟩
                refine ⟨_, rfl, ?_⟩
                replace hS := hS.kept hk
                clear hk
                refine hK _ _ ?_; clear hK K
                refine rg_take 20 rfl rfl (by kernel_rfl) (by kernel_rfl) (by kernel_rfl) (want_0) (fun w hok => x_convN Try.underlying24 Try.underlying27 (tmI rfl rfl) (fit_u16 (by omega))) ?_
                refine rg_step 22 rfl (by kernel_rfl) (want_0) (oks_drop hS 1 rfl) ?_; intro K hK
                refine ow_call Try.func17 rfl rfl (evs_cons (tmS rfl rfl) <| evs_cons (ev_cN 18) <| evs_cons (ev_cN 2) <| evs_nil) (get_c n _ c l _ _ _ (viewV hS.ok 2 rfl) hl hc hn4 hb (by omega) (by omega)) ?_
                rintro e w ⟨rfl, hk⟩
                refine ⟨_, rfl, ?_⟩
                replace hS := hS.kept hk
                clear hk
                refine hK _ _ ?_; clear hK K
                refine rg_take 23 rfl rfl (by kernel_rfl) (by kernel_rfl) (by kernel_rfl) (want_0) (fun w hok => x_convN Try.underlying24 Try.underlying27 (tmI rfl rfl) (fit_u16 (by omega))) ?_
                refine rg_take 24 rfl rfl (by kernel_rfl) (by kernel_rfl) (by kernel_rfl) (want_0) (fun w hok => x_build (bc_take (tmI rfl rfl) <| bc_take (tmI rfl rfl) <| bc_take (tmI rfl rfl) <| bc_take (tmI rfl rfl) <| bc_take (tmI rfl rfl) <| bc_take (tmI rfl rfl) <| bc_take (tmI rfl rfl) <| bc_take (tmI rfl rfl) <| bc_skip (.slice none 0 0) <| bc_skip (.slice none 0 0) <| bc_nil) (by kernel_rfl)) ?_
                refine rg_step 26 rfl (by kernel_rfl) (want_0) (oks_drop hS 1 rfl) ?_; intro K hK
                refine ow_storeA hS 0 rfl ts_40 (tmP rfl rfl) (tmA rfl rfl) rfl rfl rfl ?_
                clear hS; intro w hS
                try replace hS := St.nm (M' := [.blk _ _ [_, _, _, _, _, _, _, _, _, _], .blk _ _ [_, _, _, _, _, _, _, _, _, _], .vw _ _]) hS rfl
                refine hK _ _ ?_; clear hK K
                refine rg_done (oks_drop hS 1 rfl) (by kernel_rfl) ?_
                exact then_n ⟨_, rfl, (by repeat (first | exact agree_self | exact agree_refl | refine agree_upd rfl ?_ | refine agree_mix rfl ?_)), g8_25, (by first | rfl | go_num | exact congrArg (Value.int _) (by first | omega | (simp; done) | (simp; omega))), hS⟩
            · intro K hK
              refine ow_alloc hS tz_40 rfl ?_
              clear hS; intro g8_25 w hg8_25 hS
              refine hK _ _ ?_; clear hK K
              refine rg_step 16 rfl (by kernel_rfl) (want_0) (oks_drop hS 1 rfl) ?_; intro K hK
              refine ow_call Try.func17 rfl rfl (evs_cons (tmS rfl rfl) <| evs_cons (ev_cN 14) <| evs_cons (ev_cN 2) <| evs_nil) (get_c n _ c l _ _ _ (viewV hS.ok 2 rfl) hl hc hn4 hb (by omega) (by omega)) ?_
              rintro e w ⟨rfl, hk⟩
              refine ⟨_, rfl, ?_⟩
              replace hS := hS.kept hk
              clear hk
              refine hK _ _ ?_; clear hK K
              refine rg_take 17 rfl rfl (by kernel_rfl) (by kernel_rfl) (by kernel_rfl) (want_0) (fun w hok => x_convN Try.underlying24 Try.underlying27 (tmI rfl rfl) (fit_u16 (by omega))) ?_
              refine rg_step 19 rfl (by kernel_rfl) (want_0) (oks_drop hS 1 rfl) ?_; intro K hK
              refine ow_call Try.func17 rfl rfl (evs_cons (tmS rfl rfl) <| evs_cons (ev_cN 16) <| evs_cons (ev_cN 2) <| evs_nil) (get_c n _ c l _ _ _ (viewV hS.ok 2 rfl) hl hc hn4 hb (by omega) (by omega)) ?_
              rintro e w ⟨rfl, hk⟩
              refine ⟨_, rfl, ?_⟩
              replace hS := hS.kept hk
              clear hk
              refine hK _ _ ?_; clear hK K
              refine rg_take 20 rfl rfl (by kernel_rfl) (by kernel_rfl) (by kernel_rfl) (want_0) (fun w hok => x_convN Try.underlying24 Try.underlying27 (tmI rfl rfl) (fit_u16 (by omega))) ?_
              refine rg_step 22 rfl (by kernel_rfl) (want_0) (oks_drop hS 1 rfl) ?_; intro K hK
              refine ow_call Try.func17 rfl rfl (evs_cons (tmS rfl rfl) <| evs_cons (ev_cN 18) <| evs_cons (ev_cN 2) <| evs_nil) (get_c n _ c l _ _ _ (viewV hS.ok 2 rfl) hl hc hn4 hb (by omega) (by omega)) ?_
              rintro e w ⟨rfl, hk⟩
              refine ⟨_, rfl, ?_⟩
              replace hS := hS.kept hk
              clear hk
              refine hK _ _ ?_; clear hK K
              refine rg_take 23 rfl rfl (by kernel_rfl) (by kernel_rfl) (by kernel_rfl) (want_0) (fun w hok => x_convN Try.underlying24 Try.underlying27 (tmI rfl rfl) (fit_u16 (by omega))) ?_
              refine rg_take 24 rfl rfl (by kernel_rfl) (by kernel_rfl) (by kernel_rfl) (want_0) (fun w hok => x_build (bc_take (tmI rfl rfl) <| bc_take (tmI rfl rfl) <| bc_take (tmI rfl rfl) <| bc_take (tmI rfl rfl) <| bc_take (tmI rfl rfl) <| bc_take (tmI rfl rfl) <| bc_take (tmI rfl rfl) <| bc_take (tmI rfl rfl) <| bc_skip (.slice none 0 0) <| bc_skip (.slice none 0 0) <| bc_nil) (by kernel_rfl)) ?_
              refine rg_step 26 rfl (by kernel_rfl) (want_0) (oks_drop hS 1 rfl) ?_; intro K hK
              refine ow_storeA hS 0 rfl ts_40 (tmP rfl rfl) (tmA rfl rfl) rfl rfl rfl ?_
              clear hS; intro w hS
              try replace hS := St.nm (M' := [.blk _ _ [_, _, _, _, _, _, _, _, _, _], .blk _ _ [_, _, _, _, _, _, _, _, _, _], .vw _ _]) hS rfl
              refine hK _ _ ?_; clear hK K
              refine rg_done (oks_drop hS 1 rfl) (by kernel_rfl) ?_
              exact then_n ⟨_, rfl, (by repeat (first | exact agree_self | exact agree_refl | refine agree_upd rfl ?_ | refine agree_mix rfl ?_)), g8_25, (by first | rfl | go_num | exact congrArg (Value.int _) (by first | omega | (simp; done) | (simp; omega))), hS⟩
          · intro K hK
            refine ow_alloc hS tz_40 rfl ?_
            clear hS; intro g8_25 w hg8_25 hS
            refine hK _ _ ?_; clear hK K
            refine rg_step 10 rfl (by kernel_rfl) (want_0) (oks_drop hS 1 rfl) ?_; intro K hK
            refine ow_call Try.func17 rfl rfl (evs_cons (tmS rfl rfl) <| evs_cons (ev_cN 8) <| evs_cons (ev_cN 4) <| evs_nil) (get_c n _ c l _ _ _ (viewV hS.ok 2 rfl) hl hc hn4 hb (by omega) (by omega)) ?_
            rintro e w ⟨rfl, hk⟩
            refine ⟨_, rfl, ?_⟩
            replace hS := hS.kept hk
            clear hk
            refine hK _ _ ?_; clear hK K
            refine rg_take 11 rfl rfl (by kernel_rfl) (by kernel_rfl) (by kernel_rfl) (want_0) (fun w hok => x_convN Try.underlying24 Try.underlying30 (tmI rfl rfl) (fit_u32 (by omega))) ?_
            refine rg_step 16 rfl (by kernel_rfl) (want_0) (oks_drop hS 1 rfl) ?_; intro K hK
            refine ow_call Try.func17 rfl rfl (evs_cons (tmS rfl rfl) <| evs_cons (ev_cN 14) <| evs_cons (ev_cN 2) <| evs_nil) (get_c n _ c l _ _ _ (viewV hS.ok 2 rfl) hl hc hn4 hb (by omega) (by omega)) ?_
            rintro e w ⟨rfl, hk⟩
            refine ⟨_, rfl, ?_⟩
            replace hS := hS.kept hk
            clear hk
            refine hK _ _ ?_; clear hK K
            refine rg_take 17 rfl rfl (by kernel_rfl) (by kernel_rfl) (by kernel_rfl) (want_0) (fun w hok => x_convN Try.underlying24 Try.underlying27 (tmI rfl rfl) (fit_u16 (by omega))) ?_
            refine rg_step 19 rfl (by kernel_rfl) (want_0) (oks_drop hS 1 rfl) ?_; intro K hK
            refine ow_call Try.func17 rfl rfl (evs_cons (tmS rfl rfl) <| evs_cons (ev_cN 16) <| evs_cons (ev_cN 2) <| evs_nil) (get_c n _ c l _ _ _ (viewV hS.ok 2 rfl) hl hc hn4 hb (by omega) (by omega)) ?_
            rintro e w ⟨rfl, hk⟩
            refine ⟨_, rfl, ?_⟩
            replace hS := hS.kept hk
            clear hk
            refine hK _ _ ?_; clear hK K
            refine rg_take 20 rfl rfl (by kernel_rfl) (by kernel_rfl) (by kernel_rfl) (want_0) (fun w hok => x_convN Try.underlying24 Try.underlying27 (tmI rfl rfl) (fit_u16 (by omega))) ?_
            refine rg_step 22 rfl (by kernel_rfl) (want_0) (oks_drop hS 1 rfl) ?_; intro K hK
            refine ow_call Try.func17 rfl rfl (evs_cons (tmS rfl rfl) <| evs_cons (ev_cN 18) <| evs_cons (ev_cN 2) <| evs_nil) (get_c n _ c l _ _ _ (viewV hS.ok 2 rfl) hl hc hn4 hb (by omega) (by omega)) ?_
            rintro e w ⟨rfl, hk⟩
            refine ⟨_, rfl, ?_⟩
            replace hS := hS.kept hk
            clear hk
            refine hK _ _ ?_; clear hK K
            refine rg_take 23 rfl rfl (by kernel_rfl) (by kernel_rfl) (by kernel_rfl) (want_0) (fun w hok => x_convN Try.underlying24 Try.underlying27 (tmI rfl rfl) (fit_u16 (by omega))) ?_
            refine rg_take 24 rfl rfl (by kernel_rfl) (by kernel_rfl) (by kernel_rfl) (want_0) (fun w hok => x_build (bc_take (tmI rfl rfl) <| bc_take (tmI rfl rfl) <| bc_take (tmI rfl rfl) <| bc_take (tmI rfl rfl) <| bc_take (tmI rfl rfl) <| bc_take (tmI rfl rfl) <| bc_take (tmI rfl rfl) <| bc_take (tmI rfl rfl) <| bc_skip (.slice none 0 0) <| bc_skip (.slice none 0 0) <| bc_nil) (by kernel_rfl)) ?_
            refine rg_step 26 rfl (by kernel_rfl) (want_0) (oks_drop hS 1 rfl) ?_; intro K hK
            refine ow_storeA hS 0 rfl ts_40 (tmP rfl rfl) (tmA rfl rfl) rfl rfl rfl ?_
            clear hS; intro w hS
            try replace hS := St.nm (M' := [.blk _ _ [_, _, _, _, _, _, _, _, _, _], .blk _ _ [_, _, _, _, _, _, _, _, _, _], .vw _ _]) hS rfl
            refine hK _ _ ?_; clear hK K
            refine rg_done (oks_drop hS 1 rfl) (by kernel_rfl) ?_
            exact then_n ⟨_, rfl, (by repeat (first | exact agree_self | exact agree_refl | refine agree_upd rfl ?_ | refine agree_mix rfl ?_)), g8_25, (by first | rfl | go_num | exact congrArg (Value.int _) (by first | omega | (simp; done) | (simp; omega))), hS⟩
        · intro K hK
          refine ow_alloc hS tz_40 rfl ?_
          clear hS; intro g8_25 w hg8_25 hS
          refine hK _ _ ?_; clear hK K
          refine rg_step 7 rfl (by kernel_rfl) (want_0) (oks_drop hS 1 rfl) ?_; intro K hK
          refine ow_call Try.func17 rfl rfl (evs_cons (tmS rfl rfl) <| evs_cons (ev_cN 4) <| evs_cons (ev_cN 4) <| evs_nil) (get_c n _ c l _ _ _ (viewV hS.ok 2 rfl) hl hc hn4 hb (by omega) (by omega)) ?_
          rintro e w ⟨rfl, hk⟩
          refine ⟨_, rfl, ?_⟩
          replace hS := hS.kept hk
          clear hk
          refine hK _ _ ?_; clear hK K
          refine rg_take 8 rfl rfl (by kernel_rfl) (by kernel_rfl) (by kernel_rfl) (want_0) (fun w hok => x_convN Try.underlying24 Try.underlying30 (tmI rfl rfl) (fit_u32 (by omega))) ?_
          refine rg_step 10 rfl (by kernel_rfl) (want_0) (oks_drop hS 1 rfl) ?_; intro K hK
          refine ow_call Try.func17 rfl rfl (evs_cons (tmS rfl rfl) <| evs_cons (ev_cN 8) <| evs_cons (ev_cN 4) <| evs_nil) (get_c n _ c l _ _ _ (viewV hS.ok 2 rfl) hl hc hn4 hb (by omega) (by omega)) ?_
          rintro e w ⟨rfl, hk⟩
          refine ⟨_, rfl, ?_⟩
          replace hS := hS.kept hk
          clear hk
          refine hK _ _ ?_; clear hK K
          refine rg_take 11 rfl rfl (by kernel_rfl) (by kernel_rfl) (by kernel_rfl) (want_0) (fun w hok => x_convN Try.underlying24 Try.underlying30 (tmI rfl rfl) (fit_u32 (by omega))) ?_
          refine rg_step 16 rfl (by kernel_rfl) (want_0) (oks_drop hS 1 rfl) ?_; intro K hK
          refine ow_call Try.func17 rfl rfl (evs_cons (tmS rfl rfl) <| evs_cons (ev_cN 14) <| evs_cons (ev_cN 2) <| evs_nil) (get_c n _ c l _ _ _ (viewV hS.ok 2 rfl) hl hc hn4 hb (by omega) (by omega)) ?_
          rintro e w ⟨rfl, hk⟩
          refine ⟨_, rfl, ?_⟩
          replace hS := hS.kept hk
          clear hk
          refine hK _ _ ?_; clear hK K
          refine rg_take 17 rfl rfl (by kernel_rfl) (by kernel_rfl) (by kernel_rfl) (want_0) (fun w hok => x_convN Try.underlying24 Try.underlying27 (tmI rfl rfl) (fit_u16 (by omega))) ?_
          refine rg_step 19 rfl (by kernel_rfl) (want_0) (oks_drop hS 1 rfl) ?_; intro K hK
          refine ow_call Try.func17 rfl rfl (evs_cons (tmS rfl rfl) <| evs_cons (ev_cN 16) <| evs_cons (ev_cN 2) <| evs_nil) (get_c n _ c l _ _ _ (viewV hS.ok 2 rfl) hl hc hn4 hb (by omega) (by omega)) ?_
          rintro e w ⟨rfl, hk⟩
          refine ⟨_, rfl, ?_⟩
          replace hS := hS.kept hk
          clear hk
          refine hK _ _ ?_; clear hK K
          refine rg_take 20 rfl rfl (by kernel_rfl) (by kernel_rfl) (by kernel_rfl) (want_0) (fun w hok => x_convN Try.underlying24 Try.underlying27 (tmI rfl rfl) (fit_u16 (by omega))) ?_
          refine rg_step 22 rfl (by kernel_rfl) (want_0) (oks_drop hS 1 rfl) ?_; intro K hK
          refine ow_call Try.func17 rfl rfl (evs_cons (tmS rfl rfl) <| evs_cons (ev_cN 18) <| evs_cons (ev_cN 2) <| evs_nil) (get_c n _ c l _ _ _ (viewV hS.ok 2 rfl) hl hc hn4 hb (by omega) (by omega)) ?_
          rintro e w ⟨rfl, hk⟩
          refine ⟨_, rfl, ?_⟩
          replace hS := hS.kept hk
          clear hk
          refine hK _ _ ?_; clear hK K
          refine rg_take 23 rfl rfl (by kernel_rfl) (by kernel_rfl) (by kernel_rfl) (want_0) (fun w hok => x_convN Try.underlying24 Try.underlying27 (tmI rfl rfl) (fit_u16 (by omega))) ?_
          refine rg_take 24 rfl rfl (by kernel_rfl) (by kernel_rfl) (by kernel_rfl) (want_0) (fun w hok => x_build (bc_take (tmI rfl rfl) <| bc_take (tmI rfl rfl) <| bc_take (tmI rfl rfl) <| bc_take (tmI rfl rfl) <| bc_take (tmI rfl rfl) <| bc_take (tmI rfl rfl) <| bc_take (tmI rfl rfl) <| bc_take (tmI rfl rfl) <| bc_skip (.slice none 0 0) <| bc_skip (.slice none 0 0) <| bc_nil) (by kernel_rfl)) ?_
          refine rg_step 26 rfl (by kernel_rfl) (want_0) (oks_drop hS 1 rfl) ?_; intro K hK
          refine ow_storeA hS 0 rfl ts_40 (tmP rfl rfl) (tmA rfl rfl) rfl rfl rfl ?_
          clear hS; intro w hS
          try replace hS := St.nm (M' := [.blk _ _ [_, _, _, _, _, _, _, _, _, _], .blk _ _ [_, _, _, _, _, _, _, _, _, _], .vw _ _]) hS rfl
          refine hK _ _ ?_; clear hK K
          refine rg_done (oks_drop hS 1 rfl) (by kernel_rfl) ?_
          exact then_n ⟨_, rfl, (by repeat (first | exact agree_self | exact agree_refl | refine agree_upd rfl ?_ | refine agree_mix rfl ?_)), g8_25, (by first | rfl | go_num | exact congrArg (Value.int _) (by first | omega | (simp; done) | (simp; omega))), hS⟩
      · intro K hK
        refine ow_alloc hS tz_40 rfl ?_
        clear hS; intro g8_25 w hg8_25 hS
        refine hK _ _ ?_; clear hK K
        refine rg_step 4 rfl (by kernel_rfl) (want_0) (oks_drop hS 1 rfl) ?_; intro K hK
        refine ow_call Try.func17 rfl rfl (evs_cons (tmS rfl rfl) <| evs_cons (ev_cN 2) <| evs_cons (ev_cN 2) <| evs_nil) (get_c n _ c l _ _ _ (viewV hS.ok 2 rfl) hl hc hn4 hb (by omega) (by omega)) ?_
        rintro e w ⟨rfl, hk⟩
        refine ⟨_, rfl, ?_⟩
        replace hS := hS.kept hk
        clear hk
        refine hK _ _ ?_; clear hK K
        refine rg_take 5 rfl rfl (by kernel_rfl) (by kernel_rfl) (by kernel_rfl) (want_0) (fun w hok => x_convN Try.underlying24 Try.underlying27 (tmI rfl rfl) (fit_u16 (by omega))) ?_
        refine rg_step 7 rfl (by kernel_rfl) (want_0) (oks_drop hS 1 rfl) ?_; intro K hK
        refine ow_call Try.func17 rfl rfl (evs_cons (tmS rfl rfl) <| evs_cons (ev_cN 4) <| evs_cons (ev_cN 4) <| evs_nil) (get_c n _ c l _ _ _ (viewV hS.ok 2 rfl) hl hc hn4 hb (by omega) (by omega)) ?_
        rintro e w ⟨rfl, hk⟩
        refine ⟨_, rfl, ?_⟩
        replace hS := hS.kept hk
        clear hk
        refine hK _ _ ?_; clear hK K
        refine rg_take 8 rfl rfl (by kernel_rfl) (by kernel_rfl) (by kernel_rfl) (want_0) (fun w hok => x_convN Try.underlying24 Try.underlying30 (tmI rfl rfl) (fit_u32 (by omega))) ?_
        refine rg_step 10 rfl (by kernel_rfl) (want_0) (oks_drop hS 1 rfl) ?_; intro K hK
        refine ow_call Try.func17 rfl rfl (evs_cons (tmS rfl rfl) <| evs_cons (ev_cN 8) <| evs_cons (ev_cN 4) <| evs_nil) (get_c n _ c l _ _ _ (viewV hS.ok 2 rfl) hl hc hn4 hb (by omega) (by omega)) ?_
        rintro e w ⟨rfl, hk⟩
        refine ⟨_, rfl, ?_⟩
        replace hS := hS.kept hk
        clear hk
        refine hK _ _ ?_; clear hK K
        refine rg_take 11 rfl rfl (by kernel_rfl) (by kernel_rfl) (by kernel_rfl) (want_0) (fun w hok => x_convN Try.underlying24 Try.underlying30 (tmI rfl rfl) (fit_u32 (by omega))) ?_
        refine rg_step 16 rfl (by kernel_rfl) (want_0) (oks_drop hS 1 rfl) ?_; intro K hK
        refine ow_call Try.func17 rfl rfl (evs_cons (tmS rfl rfl) <| evs_cons (ev_cN 14) <| evs_cons (ev_cN 2) <| evs_nil) (get_c n _ c l _ _ _ (viewV hS.ok 2 rfl) hl hc hn4 hb (by omega) (by omega)) ?_
        rintro e w ⟨rfl, hk⟩
        refine ⟨_, rfl, ?_⟩
        replace hS := hS.kept hk
        clear hk
        refine hK _ _ ?_; clear hK K
        refine rg_take 17 rfl rfl (by kernel_rfl) (by kernel_rfl) (by kernel_rfl) (want_0) (fun w hok => x_convN Try.underlying24 Try.underlying27 (tmI rfl rfl) (fit_u16 (by omega))) ?_
        refine rg_step 19 rfl (by kernel_rfl) (want_0) (oks_drop hS 1 rfl) ?_; intro K hK
        refine ow_call Try.func17 rfl rfl (evs_cons (tmS rfl rfl) <| evs_cons (ev_cN 16) <| evs_cons (ev_cN 2) <| evs_nil) (get_c n _ c l _ _ _ (viewV hS.ok 2 rfl) hl hc hn4 hb (by omega) (by omega)) ?_
        rintro e w ⟨rfl, hk⟩
        refine ⟨_, rfl, ?_⟩
        replace hS := hS.kept hk
        clear hk
        refine hK _ _ ?_; clear hK K
        refine rg_take 20 rfl rfl (by kernel_rfl) (by kernel_rfl) (by kernel_rfl) (want_0) (fun w hok => x_convN Try.underlying24 Try.underlying27 (tmI rfl rfl) (fit_u16 (by omega))) ?_
        refine rg_step 22 rfl (by kernel_rfl) (want_0) (oks_drop hS 1 rfl) ?_; intro K hK
        refine ow_call Try.func17 rfl rfl (evs_cons (tmS rfl rfl) <| evs_cons (ev_cN 18) <| evs_cons (ev_cN 2) <| evs_nil) (get_c n _ c l _ _ _ (viewV hS.ok 2 rfl) hl hc hn4 hb (by omega) (by omega)) ?_
        rintro e w ⟨rfl, hk⟩
        refine ⟨_, rfl, ?_⟩
        replace hS := hS.kept hk
        clear hk
        refine hK _ _ ?_; clear hK K
        refine rg_take 23 rfl rfl (by kernel_rfl) (by kernel_rfl) (by kernel_rfl) (want_0) (fun w hok => x_convN Try.underlying24 Try.underlying27 (tmI rfl rfl) (fit_u16 (by omega))) ?_
        refine rg_take 24 rfl rfl (by kernel_rfl) (by kernel_rfl) (by kernel_rfl) (want_0) (fun w hok => x_build (bc_take (tmI rfl rfl) <| bc_take (tmI rfl rfl) <| bc_take (tmI rfl rfl) <| bc_take (tmI rfl rfl) <| bc_take (tmI rfl rfl) <| bc_take (tmI rfl rfl) <| bc_take (tmI rfl rfl) <| bc_take (tmI rfl rfl) <| bc_skip (.slice none 0 0) <| bc_skip (.slice none 0 0) <| bc_nil) (by kernel_rfl)) ?_
        refine rg_step 26 rfl (by kernel_rfl) (want_0) (oks_drop hS 1 rfl) ?_; intro K hK
        refine ow_storeA hS 0 rfl ts_40 (tmP rfl rfl) (tmA rfl rfl) rfl rfl rfl ?_
        clear hS; intro w hS
        try replace hS := St.nm (M' := [.blk _ _ [_, _, _, _, _, _, _, _, _, _], .blk _ _ [_, _, _, _, _, _, _, _, _, _], .vw _ _]) hS rfl
        refine hK _ _ ?_; clear hK K
        refine rg_done (oks_drop hS 1 rfl) (by kernel_rfl) ?_
        exact then_n ⟨_, rfl, (by repeat (first | exact agree_self | exact agree_refl | refine agree_upd rfl ?_ | refine agree_mix rfl ?_)), g8_25, (by first | rfl | go_num | exact congrArg (Value.int _) (by first | omega | (simp; done) | (simp; omega))), hS⟩
    · intro K hK
      refine ow_alloc hS tz_40 rfl ?_
      clear hS; intro g8_25 w hg8_25 hS
      refine hK _ _ ?_; clear hK K
      refine rg_step 1 rfl (by kernel_rfl) (want_0) (oks_drop hS 1 rfl) ?_; intro K hK
      refine ow_call Try.func17 rfl rfl (evs_cons (tmS rfl rfl) <| evs_cons (ev_cN 0) <| evs_cons (ev_cN 2) <| evs_nil) (get_c n _ c l _ _ _ (viewV hS.ok 2 rfl) hl hc hn4 hb (by omega) (by omega)) ?_
      rintro e w ⟨rfl, hk⟩
      refine ⟨_, rfl, ?_⟩
      replace hS := hS.kept hk
      clear hk
      refine hK _ _ ?_; clear hK K
      refine rg_take 2 rfl rfl (by kernel_rfl) (by kernel_rfl) (by kernel_rfl) (want_0) (fun w hok => x_convN Try.underlying24 Try.underlying27 (tmI rfl rfl) (fit_u16 (by omega))) ?_
      refine rg_step 4 rfl (by kernel_rfl) (want_0) (oks_drop hS 1 rfl) ?_; intro K hK
      refine ow_call Try.func17 rfl rfl (evs_cons (tmS rfl rfl) <| evs_cons (ev_cN 2) <| evs_cons (ev_cN 2) <| evs_nil) (get_c n _ c l _ _ _ (viewV hS.ok 2 rfl) hl hc hn4 hb (by omega) (by omega)) ?_
      rintro e w ⟨rfl, hk⟩
      refine ⟨_, rfl, ?_⟩
      replace hS := hS.kept hk
      clear hk
      refine hK _ _ ?_; clear hK K
      refine rg_take 5 rfl rfl (by kernel_rfl) (by kernel_rfl) (by kernel_rfl) (want_0) (fun w hok => x_convN Try.underlying24 Try.underlying27 (tmI rfl rfl) (fit_u16 (by omega))) ?_
      refine rg_step 7 rfl (by kernel_rfl) (want_0) (oks_drop hS 1 rfl) ?_; intro K hK
      refine ow_call Try.func17 rfl rfl (evs_cons (tmS rfl rfl) <| evs_cons (ev_cN 4) <| evs_cons (ev_cN 4) <| evs_nil) (get_c n _ c l _ _ _ (viewV hS.ok 2 rfl) hl hc hn4 hb (by omega) (by omega)) ?_
      rintro e w ⟨rfl, hk⟩
      refine ⟨_, rfl, ?_⟩
      replace hS := hS.kept hk
      clear hk
      refine hK _ _ ?_; clear hK K
      refine rg_take 8 rfl rfl (by kernel_rfl) (by kernel_rfl) (by kernel_rfl) (want_0) (fun w hok => x_convN Try.underlying24 Try.underlying30 (tmI rfl rfl) (fit_u32 (by omega))) ?_
      refine rg_step 10 rfl (by kernel_rfl) (want_0) (oks_drop hS 1 rfl) ?_; intro K hK
      refine ow_call Try.func17 rfl rfl (evs_cons (tmS rfl rfl) <| evs_cons (ev_cN 8) <| evs_cons (ev_cN 4) <| evs_nil) (get_c n _ c l _ _ _ (viewV hS.ok 2 rfl) hl hc hn4 hb (by omega) (by omega)) ?_
      rintro e w ⟨rfl, hk⟩
      refine ⟨_, rfl, ?_⟩
      replace hS := hS.kept hk
      clear hk
      refine hK _ _ ?_; clear hK K
      refine rg_take 11 rfl rfl (by kernel_rfl) (by kernel_rfl) (by kernel_rfl) (want_0) (fun w hok => x_convN Try.underlying24 Try.underlying30 (tmI rfl rfl) (fit_u32 (by omega))) ?_
      refine rg_step 16 rfl (by kernel_rfl) (want_0) (oks_drop hS 1 rfl) ?_; intro K hK
      refine ow_call Try.func17 rfl rfl (evs_cons (tmS rfl rfl) <| evs_cons (ev_cN 14) <| evs_cons (ev_cN 2) <| evs_nil) (get_c n _ c l _ _ _ (viewV hS.ok 2 rfl) hl hc hn4 hb (by omega) (by omega)) ?_
      rintro e w ⟨rfl, hk⟩
      refine ⟨_, rfl, ?_⟩
      replace hS := hS.kept hk
      clear hk
      refine hK _ _ ?_; clear hK K
      refine rg_take 17 rfl rfl (by kernel_rfl) (by kernel_rfl) (by kernel_rfl) (want_0) (fun w hok => x_convN Try.underlying24 Try.underlying27 (tmI rfl rfl) (fit_u16 (by omega))) ?_
      refine rg_step 19 rfl (by kernel_rfl) (want_0) (oks_drop hS 1 rfl) ?_; intro K hK
      refine ow_call Try.func17 rfl rfl (evs_cons (tmS rfl rfl) <| evs_cons (ev_cN 16) <| evs_cons (ev_cN 2) <| evs_nil) (get_c n _ c l _ _ _ (viewV hS.ok 2 rfl) hl hc hn4 hb (by omega) (by omega)) ?_
      rintro e w ⟨rfl, hk⟩
      refine ⟨_, rfl, ?_⟩
      replace hS := hS.kept hk
      clear hk
      refine hK _ _ ?_; clear hK K
      refine rg_take 20 rfl rfl (by kernel_rfl) (by kernel_rfl) (by kernel_rfl) (want_0) (fun w hok => x_convN Try.underlying24 Try.underlying27 (tmI rfl rfl) (fit_u16 (by omega))) ?_
      refine rg_step 22 rfl (by kernel_rfl) (want_0) (oks_drop hS 1 rfl) ?_; intro K hK
      refine ow_call Try.func17 rfl rfl (evs_cons (tmS rfl rfl) <| evs_cons (ev_cN 18) <| evs_cons (ev_cN 2) <| evs_nil) (get_c n _ c l _ _ _ (viewV hS.ok 2 rfl) hl hc hn4 hb (by omega) (by omega)) ?_
      rintro e w ⟨rfl, hk⟩
      refine ⟨_, rfl, ?_⟩
      replace hS := hS.kept hk
      clear hk
      refine hK _ _ ?_; clear hK K
      refine rg_take 23 rfl rfl (by kernel_rfl) (by kernel_rfl) (by kernel_rfl) (want_0) (fun w hok => x_convN Try.underlying24 Try.underlying27 (tmI rfl rfl) (fit_u16 (by omega))) ?_
      refine rg_take 24 rfl rfl (by kernel_rfl) (by kernel_rfl) (by kernel_rfl) (want_0) (fun w hok => x_build (bc_take (tmI rfl rfl) <| bc_take (tmI rfl rfl) <| bc_take (tmI rfl rfl) <| bc_take (tmI rfl rfl) <| bc_take (tmI rfl rfl) <| bc_take (tmI rfl rfl) <| bc_take (tmI rfl rfl) <| bc_take (tmI rfl rfl) <| bc_skip (.slice none 0 0) <| bc_skip (.slice none 0 0) <| bc_nil) (by kernel_rfl)) ?_
      refine rg_step 26 rfl (by kernel_rfl) (want_0) (oks_drop hS 1 rfl) ?_; intro K hK
      refine ow_storeA hS 0 rfl ts_40 (tmP rfl rfl) (tmA rfl rfl) rfl rfl rfl ?_
      clear hS; intro w hS
      try replace hS := St.nm (M' := [.blk _ _ [_, _, _, _, _, _, _, _, _, _], .blk _ _ [_, _, _, _, _, _, _, _, _, _], .vw _ _]) hS rfl
      refine hK _ _ ?_; clear hK K
      refine rg_done (oks_drop hS 1 rfl) (by kernel_rfl) ?_
      exact then_n ⟨_, rfl, (by repeat (first | exact agree_self | exact agree_refl | refine agree_upd rfl ?_ | refine agree_mix rfl ?_)), g8_25, (by first | rfl | go_num | exact congrArg (Value.int _) (by first | omega | (simp; done) | (simp; omega))), hS⟩
  · clear hS; intro g w hI
    obtain ⟨gq, hs5, hS⟩ := hI
    refine fr_knowQ (d := 5) hs5 ?_; clear hs5
    refine then_n (hK11 _ _ ?_); clear hK11 K11
    refine wp_seq_k ?_; intro K13 hK13
    refine wlit ?_
    refine wl_e rfl ?_; intro K hK
    refine ow_build0 hS Try.underlying22 tz_5 rfl rfl ?_
    clear hS; intro g9_0 w hg9_0 hS
    refine hK _ _ ?_; clear hK K
    refine wl_v (x_move (tmS rfl rfl)) ?_
    refine wl_v (x_move (tmI rfl rfl)) ?_
    refine wl_v (x_sliceLH Try.underlying22 ts_5 (tmS rfl rfl) (ev_cN 20) (tmI rfl rfl) (by omega)) ?_
    replace hS := hS.cutb 3 20 (sz - 20) rfl (by omega : l.length ≤ c)
    refine wl_e rfl ?_; intro K hK
    refine ow_appendV hS 1 rfl (viewV hS.ok 0 rfl) Try.underlying22 tz_5 rfl (tmS rfl rfl) (tmS rfl rfl) (by first | exact u8v_one _ | (intro u hu; simp at hu; first | (rcases hu with rfl | rfl <;> rfl) | (obtain ⟨_, _, rfl⟩ := hu; rfl))) ⟨by decide, by first | rfl | (simp; done) | (simp; omega)⟩ (by simp only [maxLen]; omega) (by omega) ?_; clear hS; intro g9_4 cg9_4 w hAg9_4 hCg9_4 hS
    refine hK _ _ ?_; clear hK K
    refine wl_v (x_fa 8 Try.underlying40 rfl rfl ts_22 (tmP rfl rfl)) ?_
    refine wl_e rfl ?_; intro K hK
    refine ow_store hS 2 rfl ts_22 (tmP rfl rfl) (tmS rfl rfl) rfl rfl ?_
    clear hS; intro w hS
    try replace hS := St.nm (M' := [.vw _ _, .row _ _ _ _ _, .blk _ _ [_, _, _, _, _, _, _, _, _, _], .blk _ _ [_, _, _, _, _, _, _, _, _, _], .vw _ _]) hS rfl
    refine hK _ _ ?_; clear hK K
    refine wl_nil ?_
    simp only [List.nil_append, Nat.zero_add] at hS
    refine then_n (hK13 _ _ ?_); clear hK13 K13
    refine wp_seq_k ?_; intro K14 hK14
    refine wlit ?_
    refine wl_e rfl ?_; intro K hK
    refine ow_build0 hS Try.underlying22 tz_5 rfl rfl ?_
    clear hS; intro g10_0 w hg10_0 hS
    refine hK _ _ ?_; clear hK K
    refine wl_v (x_move (tmS rfl rfl)) ?_
    refine wl_v (x_move (tmI rfl rfl)) ?_
    refine wl_v (x_sliceL Try.underlying22 ts_5 (tmS rfl rfl) (tmI rfl rfl) (by omega)) ?_
    replace hS := hS.dropb 5 sz rfl (by omega : l.length ≤ c)
    refine wl_e rfl ?_; intro K hK
    refine ow_appendV hS 1 rfl (viewV hS.ok 0 rfl) Try.underlying22 tz_5 rfl (tmS rfl rfl) (tmS rfl rfl) (by first | exact u8v_one _ | (intro u hu; simp at hu; first | (rcases hu with rfl | rfl <;> rfl) | (obtain ⟨_, _, rfl⟩ := hu; rfl))) ⟨by decide, by first | rfl | (simp; done) | (simp; omega)⟩ (by simp only [maxLen]; omega) (by omega) ?_; clear hS; intro g10_4 cg10_4 w hAg10_4 hCg10_4 hS
    refine hK _ _ ?_; clear hK K
    refine wl_v (x_fa 9 Try.underlying40 rfl rfl ts_22 (tmP rfl rfl)) ?_
    refine wl_e rfl ?_; intro K hK
    refine ow_store hS 4 rfl ts_22 (tmP rfl rfl) (tmS rfl rfl) rfl rfl ?_
    clear hS; intro w hS
    try replace hS := St.nm (M' := [.vw _ _, .row _ _ _ _ _, .vw _ _, .row _ _ _ _ _, .blk _ _ [_, _, _, _, _, _, _, _, _, _], .blk _ _ [_, _, _, _, _, _, _, _, _, _], .vw _ _]) hS rfl
    refine hK _ _ ?_; clear hK K
    refine wl_nil ?_
    simp only [List.nil_append, Nat.zero_add] at hS
    refine then_n (hK14 _ _ ?_); clear hK14 K14
    refine wp_seq_k ?_; intro K15 hK15
    refine wlit ?_
    refine wl_v (x_loadA (cs := [_, _, _, _, _, _, _, _, _, _]) Try.underlying40 rfl ts_40 (tmP rfl rfl) (rangeB hS.ok 4 rfl rfl)) ?_
    refine wl_e rfl ?_; intro K hK
    refine ow_storeA hS 5 rfl ts_40 (tmP rfl rfl) (tmA rfl rfl) rfl rfl rfl ?_
    clear hS; intro w hS
    try replace hS := St.nm (M' := [.vw _ _, .row _ _ _ _ _, .vw _ _, .row _ _ _ _ _, .blk _ _ [_, _, _, _, _, _, _, _, _, _], .blk _ _ [_, _, _, _, _, _, _, _, _, _], .vw _ _]) hS rfl
    refine hK _ _ ?_; clear hK K
    refine wl_v (x_assign (ev_cN 0)) ?_
    refine wl_nil ?_
    refine then_n (hK15 _ _ ?_); clear hK15 K15
    refine wp_ret ?_
    refine ret2 rfl (.cell rfl rfl (load_rowB (cs := [_, _, _, _, _, _, _, _, _, _]) hS.ok 5 rfl Try.underlying40 rfl ts_40 rfl)) (.tmp rfl (show _ = Value.int _ _ from rfl)) ?_
    have hcp := row_cap (hS.rowOk 3 rfl) (by decide)
    refine ⟨g9_4, cg9_4, g10_4, cg10_4, by rw [e13]; rfl, hS.newv 3 rfl, hS.newv 1 rfl, by omega, hS.kp⟩
/-- What Parse says of the options. -/
def PTo (fn : Nat) (l : List Nat) (o : List Nat) (er : Nat) : Prop := ∀ (w : World) (A : Option Addr) (c : Nat), View w w.heap.size A (l.map u8v) → l.length ≤ c →
  Calls Try.prog fn #[.slice A l.length c] w fun e w' => ∃ (a1 a2 a3 a4 a5 a6 a7 a8 : Nat) (O : Option Addr) (co : Nat) (X : Option Addr) (k cx : Nat), e = .returned (.tuple #[.agg (segV a1 a2 a3 a4 a5 a6 a7 a8 O o.length co X k cx).toArray, .int .i64 (er : Int)]) ∧ o.length ≤ co ∧ NewV w w' O (o.map u8v) ∧ Kp [] w w'
/-- The stamp of a segment: the options, the error. -/
def stHas (o : List Nat) (er : Nat) : Bool := decide (er = 0) && (stampsL o 0).isSome
def stVal (o : List Nat) (er : Nat) : Nat := if er = 0 then (match stampsL o 0 with | some q => getN o q 4 | none => 0) else 0
theorem st_bad {o : List Nat} {er : Nat} (h : er ≠ 0) : stHas o er = false ∧ stVal o er = 0 := by
  unfold stHas stVal
  rw [if_neg h, decide_eq_false h]
  exact ⟨rfl, rfl⟩
theorem st_none {o : List Nat} {er : Nat} (h : stampsL o 0 = none) : stHas o er = false ∧ stVal o er = 0 := by
  unfold stHas stVal
  rw [h]
  exact ⟨by simp, by simp⟩
theorem st_some {o : List Nat} {er : Nat} {q : Nat} (h0 : er = 0) (h : stampsL o 0 = some q) : stHas o er = true ∧ stVal o er = getN o q 4 := by
  unfold stHas stVal
  rw [h, h0]
  exact ⟨rfl, rfl⟩
set_option maxRecDepth 100000 in
set_option maxHeartbeats 8000000 in
theorem stamp_c (x : List Nat) (o : List Nat) (er : Nat) (hob : Bytes o) (ho : o.length ≤ 3000) (hP : PTo 33 x o er) (m : Nat) (A : Option Addr) (c : Nat) (w0 : World) (hv : View w0 w0.heap.size A (x.map u8v)) (hm : x.length = m) (hc : m ≤ c) :
    Calls Try.prog 16 #[.slice A m c] w0 fun e w' => e = .returned (.tuple #[.int .u32 ((stVal o er : Nat) : Int), .bool (stHas o er)]) ∧ Kp [] w0 w' := by
  subst hm
  have hS := (St.sv w0).vcons rfl hv
  rcases hst : stampsL o 0 with _ | q
  · skip
    refine ent (n := 24) Try.func16 rfl rfl ?_
    refine wp_seq_k ?_; intro K1 hK1
    refine wlit ?_
    refine wl_v (x_assign (ev_cN 0)) ?_
    refine wl_v (x_assign ev_c) ?_
    refine wl_nil ?_
    refine then_n (hK1 _ _ ?_); clear hK1 K1
    refine wp_seq_k ?_; intro K2 hK2
    refine wlit ?_
    refine wl_v (x_move (tmS rfl rfl)) ?_
    refine wl_e rfl ?_; intro K hK
    refine ow_call Try.func33 rfl rfl (evs_cons (tmS rfl rfl) <| evs_nil) (hP _ A c (viewV hS.ok 0 rfl) hc) ?_
    rintro e w ⟨a1, a2, a3, a4, a5, a6, a7, a8, O, co, X, k, cx, rfl, hco, hn, hk⟩
    refine ⟨_, rfl, ?_⟩
    replace hS := hS.addn hk hn -- +vo
    clear hn hk
    refine hK _ _ ?_; clear hK K
    refine wl_v (x_move (tmT rfl rfl)) ?_
    refine wl_v (x_ext (tmT rfl rfl) rfl) ?_
    refine wl_v (x_ext (tmT rfl rfl) rfl) ?_
    refine wl_e rfl ?_; intro K hK
    refine ow_alloc hS tz_49 rfl ?_
    clear hS; intro g1_5 w hg1_5 hS
    refine hK _ _ ?_; clear hK K
    refine wl_e rfl ?_; intro K hK
    refine ow_storeA hS 0 rfl ts_49 (tmP rfl rfl) (tmA rfl rfl) rfl rfl rfl ?_
    clear hS; intro w hS
    try replace hS := St.nm (M' := [.blk _ _ [_, _, _, _, _, _, _, _, _, _], .vw _ _, .vw _ _]) hS rfl
    refine hK _ _ ?_; clear hK K
    refine wl_v (x_assign (tmI rfl rfl)) ?_
    refine wl_nil ?_
    refine then_n (hK2 _ _ ?_); clear hK2 K2
    refine wp_seq_k ?_; intro K3 hK3
    refine wp_seq_k ?_; intro K4 hK4
    refine wlit ?_
    refine wl_v (x_move (tmI rfl rfl)) ?_
    refine wl_v (x_neq (tmI rfl rfl) (ev_cN 0)) ?_
    refine wl_nil ?_
    refine then_n (hK4 _ _ ?_); clear hK4 K4
    refine cnd (tm rfl) (fun hc0 => ?_) (fun hc0 => ?_)
    · skip
      try simp only [nrm] at hc0
      refine wp_seq_k ?_; intro K5 hK5
      refine wlit ?_
      refine wl_v (x_assign (ev_cN 0)) ?_
      refine wl_v (x_assign ev_c) ?_
      refine wl_nil ?_
      refine then_n (hK5 _ _ ?_); clear hK5 K5
      refine wp_ret ?_
      refine then_r ?_
      refine ret2 rfl (.tmp rfl (show _ = Value.int _ _ from rfl)) (.tmp rfl (show _ = Value.bool _ from rfl)) ?_
      rw [(st_none hst).1, (st_none hst).2]
      exact ⟨rfl, hS.kp⟩
    try simp only [nrm] at hc0
    refine wp_skip ?_
    refine then_n (hK3 _ _ ?_); clear hK3 K3
    refine wp_seq_k ?_; intro K6 hK6
    refine wlit ?_
    refine wl_v (x_loadA (cs := [_, _, _, _, _, _, _, _, _, _]) Try.underlying49 rfl ts_49 (tmP rfl rfl) (rangeB hS.ok 0 rfl rfl)) ?_
    refine wl_e rfl ?_; intro K hK
    refine ow_call Try.func10 rfl rfl (evs_cons (tmA rfl rfl) <| evs_nil) (stamp_none_c a1 a2 a3 a4 a5 a6 a7 a8 O o.length co X k cx o _ (viewV hS.ok 1 rfl) rfl hob (by omega) hst) ?_
    rintro e w ⟨rfl, hk⟩
    refine ⟨_, rfl, ?_⟩
    replace hS := hS.kept hk
    clear hk
    refine hK _ _ ?_; clear hK K
    refine wl_v (x_move (tmT rfl rfl)) ?_
    refine wl_v (x_ext (tmT rfl rfl) rfl) ?_
    refine wl_v (x_ext (tmT rfl rfl) rfl) ?_
    refine wl_v (x_ext (tmT rfl rfl) rfl) ?_
    refine wl_v (x_assign (tmI rfl rfl)) ?_
    refine wl_v (x_assign (tmI rfl rfl)) ?_
    refine wl_v (x_assign (tmB rfl rfl)) ?_
    refine wl_nil ?_
    refine then_n (hK6 _ _ ?_); clear hK6 K6
    refine wp_seq_k ?_; intro K7 hK7
    refine wlit ?_
    refine wl_v (x_move (tmI rfl rfl)) ?_
    refine wl_v (x_move (tmB rfl rfl)) ?_
    refine wl_v (x_assign (tmI rfl rfl)) ?_
    refine wl_v (x_assign (tmB rfl rfl)) ?_
    refine wl_nil ?_
    refine then_n (hK7 _ _ ?_); clear hK7 K7
    refine wp_ret ?_
    refine ret2 rfl (.tmp rfl (show _ = Value.int _ _ from rfl)) (.tmp rfl (show _ = Value.bool _ from rfl)) ?_
    rw [(st_none hst).1, (st_none hst).2]
    exact ⟨rfl, hS.kp⟩
  · skip
    refine ent (n := 24) Try.func16 rfl rfl ?_
    refine wp_seq_k ?_; intro K1 hK1
    refine wlit ?_
    refine wl_v (x_assign (ev_cN 0)) ?_
    refine wl_v (x_assign ev_c) ?_
    refine wl_nil ?_
    refine then_n (hK1 _ _ ?_); clear hK1 K1
    refine wp_seq_k ?_; intro K2 hK2
    refine wlit ?_
    refine wl_v (x_move (tmS rfl rfl)) ?_
    refine wl_e rfl ?_; intro K hK
    refine ow_call Try.func33 rfl rfl (evs_cons (tmS rfl rfl) <| evs_nil) (hP _ A c (viewV hS.ok 0 rfl) hc) ?_
    rintro e w ⟨a1, a2, a3, a4, a5, a6, a7, a8, O, co, X, k, cx, rfl, hco, hn, hk⟩
    refine ⟨_, rfl, ?_⟩
    replace hS := hS.addn hk hn -- +vo
    clear hn hk
    refine hK _ _ ?_; clear hK K
    refine wl_v (x_move (tmT rfl rfl)) ?_
    refine wl_v (x_ext (tmT rfl rfl) rfl) ?_
    refine wl_v (x_ext (tmT rfl rfl) rfl) ?_
    refine wl_e rfl ?_; intro K hK
    refine ow_alloc hS tz_49 rfl ?_
    clear hS; intro g1_5 w hg1_5 hS
    refine hK _ _ ?_; clear hK K
    refine wl_e rfl ?_; intro K hK
    refine ow_storeA hS 0 rfl ts_49 (tmP rfl rfl) (tmA rfl rfl) rfl rfl rfl ?_
    clear hS; intro w hS
    try replace hS := St.nm (M' := [.blk _ _ [_, _, _, _, _, _, _, _, _, _], .vw _ _, .vw _ _]) hS rfl
    refine hK _ _ ?_; clear hK K
    refine wl_v (x_assign (tmI rfl rfl)) ?_
    refine wl_nil ?_
    refine then_n (hK2 _ _ ?_); clear hK2 K2
    refine wp_seq_k ?_; intro K3 hK3
    refine wp_seq_k ?_; intro K4 hK4
    refine wlit ?_
    refine wl_v (x_move (tmI rfl rfl)) ?_
    refine wl_v (x_neq (tmI rfl rfl) (ev_cN 0)) ?_
    refine wl_nil ?_
    refine then_n (hK4 _ _ ?_); clear hK4 K4
    refine cnd (tm rfl) (fun hc0 => ?_) (fun hc0 => ?_)
    · skip
      try simp only [nrm] at hc0
      refine wp_seq_k ?_; intro K5 hK5
      refine wlit ?_
      refine wl_v (x_assign (ev_cN 0)) ?_
      refine wl_v (x_assign ev_c) ?_
      refine wl_nil ?_
      refine then_n (hK5 _ _ ?_); clear hK5 K5
      refine wp_ret ?_
      refine then_r ?_
      refine ret2 rfl (.tmp rfl (show _ = Value.int _ _ from rfl)) (.tmp rfl (show _ = Value.bool _ from rfl)) ?_
      first
        | (have h0 : er = 0 := by first | omega | (simp at hc0; omega)
           rw [(st_some h0 hst).1, (st_some h0 hst).2]
           exact ⟨rfl, hS.kp⟩)
        | (have h0 : er ≠ 0 := by first | omega | (simp at hc0; omega)
           rw [(st_bad h0).1, (st_bad h0).2]
           exact ⟨rfl, hS.kp⟩)
    try simp only [nrm] at hc0
    refine wp_skip ?_
    refine then_n (hK3 _ _ ?_); clear hK3 K3
    refine wp_seq_k ?_; intro K6 hK6
    refine wlit ?_
    refine wl_v (x_loadA (cs := [_, _, _, _, _, _, _, _, _, _]) Try.underlying49 rfl ts_49 (tmP rfl rfl) (rangeB hS.ok 0 rfl rfl)) ?_
    refine wl_e rfl ?_; intro K hK
    refine ow_call Try.func10 rfl rfl (evs_cons (tmA rfl rfl) <| evs_nil) (stamp_some_c a1 a2 a3 a4 a5 a6 a7 a8 O o.length co X k cx o q _ (viewV hS.ok 1 rfl) rfl hco hob (by omega) hst) ?_
    rintro e w ⟨rfl, hk⟩
    refine ⟨_, rfl, ?_⟩
    replace hS := hS.kept hk
    clear hk
    refine hK _ _ ?_; clear hK K
    refine wl_v (x_move (tmT rfl rfl)) ?_
    refine wl_v (x_ext (tmT rfl rfl) rfl) ?_
    refine wl_v (x_ext (tmT rfl rfl) rfl) ?_
    refine wl_v (x_ext (tmT rfl rfl) rfl) ?_
    refine wl_v (x_assign (tmI rfl rfl)) ?_
    refine wl_v (x_assign (tmI rfl rfl)) ?_
    refine wl_v (x_assign (tmB rfl rfl)) ?_
    refine wl_nil ?_
    refine then_n (hK6 _ _ ?_); clear hK6 K6
    refine wp_seq_k ?_; intro K7 hK7
    refine wlit ?_
    refine wl_v (x_move (tmI rfl rfl)) ?_
    refine wl_v (x_move (tmB rfl rfl)) ?_
    refine wl_v (x_assign (tmI rfl rfl)) ?_
    refine wl_v (x_assign (tmB rfl rfl)) ?_
    refine wl_nil ?_
    refine then_n (hK7 _ _ ?_); clear hK7 K7
    refine wp_ret ?_
    refine ret2 rfl (.tmp rfl (show _ = Value.int _ _ from rfl)) (.tmp rfl (show _ = Value.bool _ from rfl)) ?_
    first
      | (have h0 : er = 0 := by first | omega | (simp at hc0; omega)
         rw [(st_some h0 hst).1, (st_some h0 hst).2]
         exact ⟨rfl, hS.kp⟩)
      | (have h0 : er ≠ 0 := by first | omega | (simp at hc0; omega)
         rw [(st_bad h0).1, (st_bad h0).2]
         exact ⟨rfl, hS.kp⟩)
end Go.Proofs.Ytcobjneobdihkaa
/- What a packet is, as one structure; the parts' Parse of both sides at once. Conditions: none but bounds. -/
namespace Go.Proofs.Ytcobjneobdihkaa
open Go.ChangeAt Go.ChangeShapes Go.RowKit Go.WideShapes
structure Sg where
  t1 : Nat
  t2 : Nat
  t3 : Nat
  t4 : Nat
  t5 : Nat
  t6 : Nat
  t7 : Nat
  t8 : Nat
  o : List Nat
  x : List Nat
structure Dg where
  u1 : Nat
  u2 : Nat
  u3 : Nat
  x : List Nat
structure Mg where
  m1 : Nat
  m2 : Nat
  m3 : Nat
  m4 : Nat
  x : List Nat
def Sg.Z : Sg := ⟨0, 0, 0, 0, 0, 0, 0, 0, [], []⟩
def Dg.Z : Dg := ⟨0, 0, 0, []⟩
def Mg.Z : Mg := ⟨0, 0, 0, 0, []⟩
/-- Where the parts' bytes lie. -/
structure Pl where
  O : Option Addr
  co : Nat
  X : Option Addr
  cx : Nat
  U : Option Addr
  cu : Nat
  M : Option Addr
  cm : Nat
def Pl.Z : Pl := ⟨none, 0, none, 0, none, 0, none, 0⟩
structure Inf where
  six : Bool
  stay : Bool
  ttl : Nat
  s : Ad
  d : Ad
  sp : Nat
  dp : Nat
  pr : Nat
  T : Sg
  D : Dg
  I : Mg
def Inf.Z : Inf := ⟨false, false, 0, ⟨false, 0, 0⟩, ⟨false, 0, 0⟩, 0, 0, 0, Sg.Z, Dg.Z, Mg.Z⟩
def Inf.V (i : Inf) (p : Pl) : List Value := [.bool i.six, .bool i.stay, .int .u8 (i.ttl : Int), .bool i.s.six, .int .u64 (i.s.high : Int), .int .u64 (i.s.low : Int), .bool i.d.six, .int .u64 (i.d.high : Int), .int .u64 (i.d.low : Int), .int .u16 (i.sp : Int), .int .u16 (i.dp : Int), .int .u8 (i.pr : Int),
  .int .u16 (i.T.t1 : Int), .int .u16 (i.T.t2 : Int), .int .u32 (i.T.t3 : Int), .int .u32 (i.T.t4 : Int), .int .u8 (i.T.t5 : Int), .int .u16 (i.T.t6 : Int), .int .u16 (i.T.t7 : Int), .int .u16 (i.T.t8 : Int), .slice p.O i.T.o.length p.co, .slice p.X i.T.x.length p.cx,
  .int .u16 (i.D.u1 : Int), .int .u16 (i.D.u2 : Int), .int .u16 (i.D.u3 : Int), .slice p.U i.D.x.length p.cu,
  .int .u8 (i.I.m1 : Int), .int .u8 (i.I.m2 : Int), .int .u16 (i.I.m3 : Int), .int .u32 (i.I.m4 : Int), .slice p.M i.I.x.length p.cm]
def Sg.V (t : Sg) (O : Option Addr) (co : Nat) (X : Option Addr) (cx : Nat) : List Value := segV t.t1 t.t2 t.t3 t.t4 t.t5 t.t6 t.t7 t.t8 O t.o.length co X t.x.length cx
def Dg.V (t : Dg) (U : Option Addr) (cu : Nat) : List Value := datV t.u1 t.u2 t.u3 U t.x.length cu
def Mg.V (t : Mg) (U : Option Addr) (cu : Nat) : List Value := msgV t.m1 t.m2 t.m3 t.m4 U t.x.length cu
def Sg.ok (t : Sg) : Prop := Bytes t.o ∧ Bytes t.x ∧ t.o.length ≤ 3000 ∧ t.x.length ≤ 3000
def Dg.ok (t : Dg) : Prop := Bytes t.x ∧ t.x.length ≤ 3000 ∧ t.u1 < 65536 ∧ t.u2 < 65536 ∧ t.u3 < 65536
def Mg.ok (t : Mg) : Prop := Bytes t.x ∧ t.x.length ≤ 3000 ∧ t.m1 ≤ 255 ∧ t.m2 ≤ 255 ∧ t.m3 ≤ 65535 ∧ t.m4 ≤ 4294967295
theorem Sg.Z_ok : Sg.Z.ok := ⟨Bytes.nil, Bytes.nil, Nat.zero_le _, Nat.zero_le _⟩
theorem Dg.Z_ok : Dg.Z.ok := ⟨Bytes.nil, Nat.zero_le _, by decide, by decide, by decide⟩
theorem Mg.Z_ok : Mg.Z.ok := ⟨Bytes.nil, Nat.zero_le _, by decide, by decide, by decide, by decide⟩
/-- Parse of TCP. -/
def PT (fn : Nat) (l : List Nat) (t : Sg) (er : Nat) : Prop := ∀ (w : World) (A : Option Addr) (c : Nat), View w w.heap.size A (l.map u8v) → l.length ≤ c →
  Calls Try.prog fn #[.slice A l.length c] w fun e w' => ∃ (O : Option Addr) (co : Nat) (X : Option Addr) (cx : Nat), e = .returned (.tuple #[.agg (t.V O co X cx).toArray, .int .i64 (er : Int)]) ∧ t.o.length ≤ co ∧ NewV w w' O (t.o.map u8v) ∧ NewV w w' X (t.x.map u8v) ∧ Kp [] w w'
/-- The options of a segment, if its header is whole. -/
def topts (x : List Nat) : Option (List Nat) := if 20 ≤ nth x 12 / 16 * 4 ∧ nth x 12 % 16 = 0 ∧ nth x 12 / 16 * 4 ≤ x.length then some ((x.drop 20).take (nth x 12 / 16 * 4 - 20)) else none
theorem nth_take {l : List Nat} {k i : Nat} (h : i < k) : nth (l.take k) i = nth l i := by
  unfold nth
  rw [List.getD_eq_getElem?_getD, List.getD_eq_getElem?_getD, List.getElem?_take, if_pos h]
theorem topts_mono {x : List Nat} {k : Nat} {o : List Nat} (h : topts (x.take k) = some o) : topts x = some o := by
  unfold topts at h
  split at h
  · rename_i hc
    obtain ⟨c1, c2, c3⟩ := hc
    rw [List.length_take] at c3
    have hn12 : nth (x.take k) 12 = nth x 12 := nth_take (by omega)
    rw [hn12] at c1 c2 c3 h
    unfold topts
    rw [if_pos ⟨c1, c2, by omega⟩]
    rw [List.drop_take, List.take_take, Nat.min_eq_left (by omega)] at h
    exact h
  · cases h
def TcpX (x : List Nat) (t : Sg) : Prop := topts x = some t.o ∧ t.t1 = getN x 0 2 ∧ t.t2 = getN x 2 2 ∧ 20 ≤ x.length
def UdpX (x : List Nat) (t : Dg) : Prop := 8 ≤ x.length ∧ t.u1 = getN x 0 2 ∧ t.u2 = getN x 2 2
theorem pt_ex (l : List Nat) (hb : Bytes l) (hn : l.length ≤ 3000) : ∃ t er, t.ok ∧ er < 100 ∧ (er = 0 → TcpX l t) ∧ (er ≠ 0 → topts l = none) ∧ PT 33 l t er ∧ PT 19 l t er := by
  obtain ⟨sz, hsz⟩ : ∃ sz, sz = nth l 12 / 16 * 4 := ⟨_, rfl⟩
  by_cases hg : 20 ≤ sz ∧ nth l 12 % 16 = 0 ∧ sz ≤ l.length
  · obtain ⟨h1, h2, h3⟩ := hg
    have lo : ((l.drop 20).take (sz - 20)).length = sz - 20 := by rw [List.length_take, List.length_drop]; omega
    have lx : (l.drop sz).length = l.length - sz := List.length_drop
    refine ⟨⟨getN l 0 2, getN l 2 2, getN l 4 4, getN l 8 4, getN l 13 1, getN l 14 2, getN l 16 2, getN l 18 2, (l.drop 20).take (sz - 20), l.drop sz⟩, 0, ⟨(hb.drop _).take _, hb.drop _, by show ((l.drop 20).take (sz - 20)).length ≤ _; omega, by show (l.drop sz).length ≤ _; omega⟩, by omega, fun _ => ⟨by unfold topts; rw [← hsz, if_pos ⟨h1, h2, h3⟩], rfl, rfl, by omega⟩, fun h => absurd rfl h, fun w A c hv hc => ?_, fun w A c hv hc => ?_⟩
    · refine Calls.mono (tcp_parse_c l.length A c l w hv rfl hb (by omega) sz hsz h1 h2 h3) fun e w' ⟨O, L, e1, e2, e3, e4⟩ => ⟨O, sz - 20, L, l.length - sz, ?_, by show ((l.drop 20).take (sz - 20)).length ≤ _; omega, e2, e3, e4⟩
      unfold Sg.V
      dsimp only
      rw [lo, lx]
      exact e1
    · refine Calls.mono (rtcp_parse_k l.length A c l w hv rfl hc hb (by omega) sz hsz h1 h2 h3) fun e w' ⟨O, co, L, cl, e1, e2, e3, e5, e4⟩ => ⟨O, co, L, cl, ?_, by show ((l.drop 20).take (sz - 20)).length ≤ _; omega, e2, e3, e4⟩
      unfold Sg.V
      dsimp only
      rw [lo, lx]
      exact e1
  · obtain ⟨er, her, h⟩ : ∃ er, er < 100 ∧ ((l.length < 20 ∧ er = 20) ∨ (20 ≤ l.length ∧ (sz < 20 ∨ nth l 12 % 16 ≠ 0) ∧ er = 21) ∨ (20 ≤ l.length ∧ 20 ≤ sz ∧ nth l 12 % 16 = 0 ∧ l.length < sz ∧ er = 20)) := by
      by_cases a1 : l.length < 20
      · exact ⟨20, by omega, .inl ⟨a1, rfl⟩⟩
      · by_cases a2 : sz < 20 ∨ nth l 12 % 16 ≠ 0
        · exact ⟨21, by omega, .inr (.inl ⟨by omega, a2, rfl⟩)⟩
        · exact ⟨20, by omega, .inr (.inr ⟨by omega, by omega, by omega, by omega, rfl⟩)⟩
    refine ⟨Sg.Z, er, Sg.Z_ok, her, fun h0 => absurd h0 (by omega), fun _ => by unfold topts; rw [← hsz, if_neg hg], fun w A c hv hc => ?_, fun w A c hv hc => ?_⟩
    · exact Calls.mono (tcp_parse_bad l.length A c l w hv rfl hb (by omega) sz er hsz h) fun e w' ⟨e1, e2⟩ => ⟨none, 0, none, 0, e1, Nat.zero_le _, newV_nil w w', newV_nil w w', e2⟩
    · exact Calls.mono (rtcp_parse_bad l.length A c l w hv rfl hb (by omega) sz er hsz h) fun e w' ⟨e1, e2⟩ => ⟨none, 0, none, 0, e1, Nat.zero_le _, newV_nil w w', newV_nil w w', e2⟩
/-- Parse of UDP. -/
def PU (fn : Nat) (l : List Nat) (t : Dg) (er : Nat) : Prop := ∀ (w : World) (A : Option Addr) (c : Nat), View w w.heap.size A (l.map u8v) → l.length ≤ c →
  Calls Try.prog fn #[.slice A l.length c] w fun e w' => ∃ (U : Option Addr) (cu : Nat), e = .returned (.tuple #[.agg (t.V U cu).toArray, .int .i64 (er : Int)]) ∧ NewV w w' U (t.x.map u8v) ∧ Kp [] w w'
theorem pu_ex (l : List Nat) (hb : Bytes l) (hn : l.length ≤ 3000) : ∃ t er, t.ok ∧ er < 100 ∧ (er = 0 → UdpX l t) ∧ PU 79 l t er ∧ PU 40 l t er := by
  obtain ⟨sz, hsz⟩ : ∃ sz, sz = getN l 4 2 := ⟨_, rfl⟩
  have b0 := getN_lt hb 0 2
  have b2 := getN_lt hb 2 2
  have b6 := getN_lt hb 6 2
  by_cases hg : 8 ≤ l.length ∧ 8 ≤ sz ∧ sz ≤ l.length
  · obtain ⟨h0, h1, h3⟩ := hg
    have lx : ((l.drop 8).take (sz - 8)).length = sz - 8 := by rw [List.length_take, List.length_drop]; omega
    refine ⟨⟨getN l 0 2, getN l 2 2, getN l 6 2, (l.drop 8).take (sz - 8)⟩, 0, ⟨(hb.drop _).take _, by show ((l.drop 8).take (sz - 8)).length ≤ _; omega, b0, b2, b6⟩, by omega, fun _ => ⟨h0, rfl, rfl⟩, fun w A c hv hc => ?_, fun w A c hv hc => ?_⟩
    · refine Calls.mono (udp_parse_c l.length A c l w hv rfl hb (by omega) sz hsz h0 h1 h3) fun e w' ⟨L, e1, e2, e3⟩ => ⟨L, sz - 8, ?_, e2, e3⟩
      unfold Dg.V
      dsimp only
      rw [lx]
      exact e1
    · refine Calls.mono (rudp_parse_c l.length A c l w hv rfl hc hb (by omega) sz hsz h0 h1 h3) fun e w' ⟨L, cu, e1, e2, e3⟩ => ⟨L, cu, ?_, e2, e3⟩
      unfold Dg.V
      dsimp only
      rw [lx]
      exact e1
  · obtain ⟨er, her, h⟩ : ∃ er, er < 100 ∧ ((l.length < 8 ∧ er = 20) ∨ (8 ≤ l.length ∧ sz < 8 ∧ er = 21) ∨ (8 ≤ l.length ∧ 8 ≤ sz ∧ l.length < sz ∧ er = 20)) := by
      by_cases a1 : l.length < 8
      · exact ⟨20, by omega, .inl ⟨a1, rfl⟩⟩
      · by_cases a2 : sz < 8
        · exact ⟨21, by omega, .inr (.inl ⟨by omega, a2, rfl⟩)⟩
        · exact ⟨20, by omega, .inr (.inr ⟨by omega, by omega, by omega, rfl⟩)⟩
    refine ⟨Dg.Z, er, Dg.Z_ok, her, fun h0 => absurd h0 (by omega), fun w A c hv hc => ?_, fun w A c hv hc => ?_⟩
    · exact Calls.mono (udp_parse_bad l.length A c l w hv rfl hc hb (by omega) sz er hsz h) fun e w' ⟨e1, e2⟩ => ⟨none, 0, e1, newV_nil w w', e2⟩
    · exact Calls.mono (rudp_parse_bad l.length A c l w hv rfl hc hb (by omega) sz er hsz h) fun e w' ⟨e1, e2⟩ => ⟨none, 0, e1, newV_nil w w', e2⟩
/-- Parse of ICMP: the program's error, the reference's truth. -/
def PM (l : List Nat) (t : Mg) (er : Nat) : Prop := ∀ (w : World) (A : Option Addr) (c : Nat), View w w.heap.size A (l.map u8v) → l.length ≤ c →
  Calls Try.prog 81 #[.slice A l.length c] w fun e w' => ∃ (U : Option Addr) (cu : Nat), e = .returned (.tuple #[.agg (t.V U cu).toArray, .int .i64 (er : Int)]) ∧ NewV w w' U (t.x.map u8v) ∧ Kp [] w w'
def PMr (l : List Nat) (t : Mg) (er : Nat) : Prop := ∀ (w : World) (A : Option Addr) (c : Nat), View w w.heap.size A (l.map u8v) → l.length ≤ c →
  Calls Try.prog 42 #[.slice A l.length c] w fun e w' => ∃ (U : Option Addr) (cu : Nat), e = .returned (.tuple #[.agg (t.V U cu).toArray, .bool (decide (er = 0))]) ∧ NewV w w' U (t.x.map u8v) ∧ Kp [] w w'
theorem pm_ex (l : List Nat) (hb : Bytes l) (hn : l.length ≤ 3000) : ∃ t er, t.ok ∧ (er = 0 ∨ er = 20) ∧ PM l t er ∧ PMr l t er := by
  have b0 := getN_lt hb 0 1
  have b1 := getN_lt hb 1 1
  have b2 := getN_lt hb 2 2
  have b4 := getN_lt hb 4 4
  by_cases h8 : 8 ≤ l.length
  · have lx : (l.drop 8).length = l.length - 8 := List.length_drop
    refine ⟨⟨getN l 0 1, getN l 1 1, getN l 2 2, getN l 4 4, l.drop 8⟩, 0, ⟨hb.drop _, by show (l.drop 8).length ≤ _; omega, by show getN l 0 1 ≤ _; omega, by show getN l 1 1 ≤ _; omega, by show getN l 2 2 ≤ _; omega, by show getN l 4 4 ≤ _; omega⟩, .inl rfl, fun w A c hv hc => ?_, fun w A c hv hc => ?_⟩
    · refine Calls.mono (icmp_parse_c l.length A c l w hv rfl hb (by omega) h8) fun e w' ⟨L, e1, e2, e3⟩ => ⟨L, l.length - 8, ?_, e2, e3⟩
      unfold Mg.V
      dsimp only
      rw [lx]
      exact e1
    · refine Calls.mono (ricmp_parse_c l.length A c l w hv rfl hc hb (by omega) h8) fun e w' ⟨L, cu, e1, e2, e3⟩ => ⟨L, cu, ?_, e2, e3⟩
      unfold Mg.V
      dsimp only
      rw [lx]
      exact e1
  · refine ⟨Mg.Z, 20, Mg.Z_ok, .inr rfl, fun w A c hv hc => ?_, fun w A c hv hc => ?_⟩
    · exact Calls.mono (icmp_parse_short l.length A c w (by omega)) fun e w' ⟨e1, e2⟩ => ⟨none, 0, e1, newV_nil w w', e2⟩
    · exact Calls.mono (ricmp_parse_short l.length A c w (by omega)) fun e w' ⟨e1, e2⟩ => ⟨none, 0, e1, newV_nil w w', e2⟩
/-- What lies there is new since the world w. -/
def NewB (w : World) (A : Option Addr) (l : List Nat) : Prop := ∀ b, (Ent.vw A (l.map u8v)).blk? = some b → w.heap.size ≤ b
theorem NewB.nil {w : World} : NewB w none [] := fun b hb => by cases hb
theorem NewV.newb {F : List Nat} {w0 w w' : World} {M : List Ent} {A : Option Addr} {l : List Nat} (h : NewV w w' A (l.map u8v)) (hS : St F w0 M w) : NewB w0 A l := fun b hb => Nat.le_trans hS.kp.size (h.2 b hb)
def chk (e : Int) (right : Bool) : Int := if e = 0 ∧ right = false then 3 else pkOf e
set_option maxRecDepth 100000 in
set_option maxHeartbeats 4000000 in
theorem checked_c (e : Int) (right : Bool) (w0 : World) : Calls Try.prog 77 #[.int .i64 e, .bool right] w0 fun x w' => x = .returned (.int .i64 (chk e right)) ∧ Kp [] w0 w' := by
  have hS := St.sv w0
  refine ent (n := 13) Try.func77 rfl rfl ?_
  refine wp_seq_k ?_; intro K1 hK1
  refine wlit ?_
  refine wl_v (x_assign (ev_cN 0)) ?_
  refine wl_nil ?_
  refine then_n (hK1 _ _ ?_); clear hK1 K1
  refine wp_seq_k ?_; intro K2 hK2
  refine wp_seq_k ?_; intro K3 hK3
  refine wlit ?_
  refine wl_v (x_move (tmI rfl rfl)) ?_
  refine wl_v (x_eql (tmI rfl rfl) (ev_cN 0)) ?_
  refine wl_v (x_move (tmB rfl rfl)) ?_
  refine gs_wl (tm (t := 7) rfl) (fun hg1_2 => ?_) (fun hg1_2 => ?_)
  · have hg1_2' := hg1_2; (try simp only [nrm] at hg1_2')
    refine wl_gv (want_y rfl rfl rfl rfl (by rw [hg1_2]; rfl)) (x_move (tmB rfl rfl)) ?_
    refine wl_gv (want_y rfl rfl rfl rfl (by rw [hg1_2]; rfl)) (x_not (tmB rfl rfl)) ?_
    refine wl_v (x_pickT (tmB rfl rfl) hg1_2 (tmB rfl rfl)) ?_
    refine wl_nil ?_
    refine then_n (hK3 _ _ ?_); clear hK3 K3
    refine cnd (tm rfl) (fun hc0 => ?_) (fun hc0 => ?_)
    · skip
      try simp only [nrm] at hc0
      refine wp_seq_k ?_; intro K4 hK4
      refine wlit ?_
      refine wl_v (x_assign (ev_cN 3)) ?_
      refine wl_nil ?_
      refine then_n (hK4 _ _ ?_); clear hK4 K4
      refine wp_ret ?_
      refine then_r ?_
      refine ret1 rfl (.tmp rfl (show _ = Value.int _ _ from rfl)) ?_
      unfold chk
      rw [if_pos (by first | (refine ⟨by omega, ?_⟩; simpa using hc0) | (simp_all; done))]; exact ⟨rfl, hS.kp⟩
    try simp only [nrm] at hc0
    refine wp_skip ?_
    refine then_n (hK2 _ _ ?_); clear hK2 K2
    refine wp_seq_k ?_; intro K5 hK5
    refine wlit ?_
    refine wl_v (x_move (tmI rfl rfl)) ?_
    refine wl_e rfl ?_; intro K hK
    refine ow_call Try.func62 rfl rfl (evs_cons (tmI rfl rfl) <| evs_nil) (of_c e _) ?_
    rintro e w ⟨rfl, hk⟩
    refine ⟨_, rfl, ?_⟩
    replace hS := hS.kept hk
    clear hk
    refine hK _ _ ?_; clear hK K
    refine wl_v (x_assign (tmI rfl rfl)) ?_
    refine wl_nil ?_
    refine then_n (hK5 _ _ ?_); clear hK5 K5
    refine wp_ret ?_
    refine ret1 rfl (.tmp rfl (show _ = Value.int _ _ from rfl)) ?_
    unfold chk
    rw [if_neg (by first | omega | (simp_all; done) | (intro h; simp [h.2] at hc0; done))]; exact ⟨rfl, hS.kp⟩
  have hg1_2' := hg1_2; (try simp only [nrm] at hg1_2')
  refine wl_s rfl (want_n rfl rfl rfl rfl (by rw [hg1_2]; rfl)) ?_
  refine wl_s rfl (want_n rfl rfl rfl rfl (by rw [hg1_2]; rfl)) ?_
  refine wl_v (x_pickF (tmB rfl rfl) hg1_2 ev_c) ?_
  refine wl_nil ?_
  refine then_n (hK3 _ _ ?_); clear hK3 K3
  refine cnd_f (tmB rfl rfl) rfl ?_
  refine wp_skip ?_
  refine then_n (hK2 _ _ ?_); clear hK2 K2
  refine wp_seq_k ?_; intro K6 hK6
  refine wlit ?_
  refine wl_v (x_move (tmI rfl rfl)) ?_
  refine wl_e rfl ?_; intro K hK
  refine ow_call Try.func62 rfl rfl (evs_cons (tmI rfl rfl) <| evs_nil) (of_c e _) ?_
  rintro e w ⟨rfl, hk⟩
  refine ⟨_, rfl, ?_⟩
  replace hS := hS.kept hk
  clear hk
  refine hK _ _ ?_; clear hK K
  refine wl_v (x_assign (tmI rfl rfl)) ?_
  refine wl_nil ?_
  refine then_n (hK6 _ _ ?_); clear hK6 K6
  refine wp_ret ?_
  refine ret1 rfl (.tmp rfl (show _ = Value.int _ _ from rfl)) ?_
  unfold chk
  rw [if_neg (by first | omega | (simp_all; done) | (intro h; simp [h.2] at hc0; done))]; exact ⟨rfl, hS.kp⟩
set_option maxRecDepth 100000 in
set_option maxHeartbeats 8000000 in
theorem carryTCP_c (g : Nat) (i : Inf) (p : Pl) (L : Option Addr) (cl : Nat) (x : List Nat) (t : Sg) (er : Nat) (F : List Nat) (w0 : World)
    (hS : St F w0 [.blk g 53 (i.V p), .vw L (x.map u8v)] w0) (hc : x.length ≤ cl) (hb : Bytes x) (hx : x.length ≤ 3000) (h6 : i.s.six = i.d.six) (hls : adLim i.s) (hld : adLim i.d) (hP : PT 33 x t er) :
    Calls Try.prog 66 #[.pointer (some ⟨g, 0, none⟩), .slice L x.length cl] w0 fun e w' => ∃ O co X cx, e = .returned (.int .i64 (chk (er : Int) (decide (foldN (gS i.s i.d 6 x) = 65535)))) ∧ t.o.length ≤ co ∧ NewB w0 O t.o ∧ NewB w0 X t.x ∧
      St F w0 [.blk g 53 (Inf.V ⟨i.six, i.stay, i.ttl, i.s, i.d, t.t1, t.t2, i.pr, t, i.D, i.I⟩ ⟨O, co, X, cx, p.U, p.cu, p.M, p.cm⟩), .vw O (t.o.map u8v), .vw X (t.x.map u8v)] w' := by
  refine ent (n := 42) Try.func66 rfl rfl ?_
  refine wp_seq_k ?_; intro K1 hK1
  refine wlit ?_
  refine wl_v (x_assign (ev_cN 0)) ?_
  refine wl_nil ?_
  refine then_n (hK1 _ _ ?_); clear hK1 K1
  refine wp_seq_k ?_; intro K2 hK2
  refine wlit ?_
  refine wl_v (x_move (tmS rfl rfl)) ?_
  refine wl_e rfl ?_; intro K hK
  refine ow_call Try.func33 rfl rfl (evs_cons (tmS rfl rfl) <| evs_nil) (hP _ L cl (viewV hS.ok 1 rfl) hc) ?_
  rintro e w ⟨O, co, X, cx, rfl, hco, hn1, hn2, hk⟩
  refine ⟨_, rfl, ?_⟩
  have b1 := hn1.newb hS
  have b2 := hn2.newb hS
  replace hS := hS.addn2 hk hn1 hn2 -- +vo,vx
  clear hn1 hn2 hk
  refine hK _ _ ?_; clear hK K
  refine wl_v (x_move (tmT rfl rfl)) ?_
  refine wl_v (x_ext (tmT rfl rfl) rfl) ?_
  refine wl_v (x_ext (tmT rfl rfl) rfl) ?_
  refine wl_e rfl ?_; intro K hK
  refine ow_alloc hS tz_49 rfl ?_
  clear hS; intro g1_5 w hg1_5 hS
  refine hK _ _ ?_; clear hK K
  refine wl_e rfl ?_; intro K hK
  refine ow_storeA hS 0 rfl ts_49 (tmP rfl rfl) (tmA rfl rfl) rfl rfl rfl ?_
  clear hS; intro w hS
  try replace hS := St.nm (M' := [.blk _ _ [_, _, _, _, _, _, _, _, _, _], .vw _ _, .vw _ _, _, .vw _ _]) hS rfl
  refine hK _ _ ?_; clear hK K
  refine wl_v (x_assign (tmI rfl rfl)) ?_
  refine wl_nil ?_
  refine then_n (hK2 _ _ ?_); clear hK2 K2
  refine wp_seq_k ?_; intro K3 hK3
  refine wlit ?_
  refine wl_v (x_move (tmP rfl rfl)) ?_
  refine wl_v (x_loadA (cs := [_, _, _, _, _, _, _, _, _, _]) Try.underlying49 rfl ts_49 (tmP rfl rfl) (rangeB hS.ok 0 rfl rfl)) ?_
  refine wl_v (x_nil (A := none) (tmP rfl rfl)) ?_
  refine wl_v (x_fa 12 Try.underlying53 rfl rfl ts_49 (tmP rfl rfl)) ?_
  refine wl_e rfl ?_; intro K hK
  refine ow_storeA hS 3 rfl ts_49 (tmP rfl rfl) (tmA rfl rfl) rfl rfl rfl ?_
  clear hS; intro w hS
  refine hK _ _ ?_; clear hK K
  refine wl_nil ?_
  replace hS := hS.pick [3, 0, 1, 2, 4] rfl rfl
  replace hS : St F w0 [.blk g 53 (Inf.V ⟨i.six, i.stay, i.ttl, i.s, i.d, i.sp, i.dp, i.pr, t, i.D, i.I⟩ ⟨O, co, X, cx, p.U, p.cu, p.M, p.cm⟩), .blk g1_5 49 (t.V O co X cx), .vw O (t.o.map u8v), .vw X (t.x.map u8v), .vw L (x.map u8v)] w := hS
  try replace hS := St.nm (M' := [_, .blk _ _ [_, _, _, _, _, _, _, _, _, _], .vw _ _, .vw _ _, .vw _ _]) hS rfl
  refine then_n (hK3 _ _ ?_); clear hK3 K3
  refine wp_seq_k ?_; intro K4 hK4
  refine rg_startk 1 hS mixed_ ?_
  clear hS; intro w hS
  refine rg_take 0 rfl rfl (by kernel_rfl) (by kernel_rfl) (by kernel_rfl) (want_0) (fun w hok => x_move (tmP rfl rfl)) ?_
  refine rg_take 1 rfl rfl (by kernel_rfl) (by kernel_rfl) (by kernel_rfl) (want_0) (fun w hok => x_move (tmP rfl rfl)) ?_
  refine rg_take 2 rfl rfl (by kernel_rfl) (by kernel_rfl) (by kernel_rfl) (want_0) (fun w hok => x_fa 0 Try.underlying49 rfl rfl ts_27 (tmP rfl rfl)) ?_
  refine rg_take 3 rfl rfl (by kernel_rfl) (by kernel_rfl) (by kernel_rfl) (want_0) (fun w hok => x_load Try.underlying27 rfl (tmP rfl rfl) (cellB hok 0 rfl rfl)) ?_
  refine rg_take 4 rfl rfl (by kernel_rfl) (by kernel_rfl) (by kernel_rfl) (want_0) (fun w hok => x_fa 1 Try.underlying49 rfl rfl ts_27 (tmP rfl rfl)) ?_
  refine rg_take 5 rfl rfl (by kernel_rfl) (by kernel_rfl) (by kernel_rfl) (want_0) (fun w hok => x_load Try.underlying27 rfl (tmP rfl rfl) (cellB hok 0 rfl rfl)) ?_
  refine rg_take 6 rfl rfl (by kernel_rfl) (by kernel_rfl) (by kernel_rfl) (want_0) (fun w hok => x_nil (A := none) (tmP rfl rfl)) ?_
  refine rg_take 7 rfl rfl (by kernel_rfl) (by kernel_rfl) (by kernel_rfl) (want_0) (fun w hok => x_fa 3 Try.underlying53 rfl rfl ts_29 (tmP rfl rfl)) ?_
  refine rg_take 8 rfl rfl (by kernel_rfl) (by kernel_rfl) (by kernel_rfl) (want_0) (fun w hok => x_fa 6 Try.underlying29 rfl rfl ts_27 (tmP rfl rfl)) ?_
  refine rg_step 9 rfl (by kernel_rfl) (want_0) (oks_drop hS 1 rfl) ?_; intro K hK
  refine ow_store hS 0 rfl ts_27 (tmP rfl rfl) (tmI rfl rfl) rfl rfl ?_
  clear hS; intro w hS
  refine hK _ _ ?_; clear hK K
  refine rg_take 10 rfl rfl (by kernel_rfl) (by kernel_rfl) (by kernel_rfl) (want_0) (fun w hok => x_nil (A := none) (tmP rfl rfl)) ?_
  refine rg_take 11 rfl rfl (by kernel_rfl) (by kernel_rfl) (by kernel_rfl) (want_0) (fun w hok => x_fa 3 Try.underlying53 rfl rfl ts_29 (tmP rfl rfl)) ?_
  refine rg_take 12 rfl rfl (by kernel_rfl) (by kernel_rfl) (by kernel_rfl) (want_0) (fun w hok => x_fa 7 Try.underlying29 rfl rfl ts_27 (tmP rfl rfl)) ?_
  refine rg_step 13 rfl (by kernel_rfl) (want_0) (oks_drop hS 1 rfl) ?_; intro K hK
  refine ow_store hS 0 rfl ts_27 (tmP rfl rfl) (tmI rfl rfl) rfl rfl ?_
  clear hS; intro w hS
  refine hK _ _ ?_; clear hK K
  refine rg_done (oks_drop hS 1 rfl) (by kernel_rfl) ?_
  replace hS : St F w0 [.blk g 53 (Inf.V ⟨i.six, i.stay, i.ttl, i.s, i.d, t.t1, t.t2, i.pr, t, i.D, i.I⟩ ⟨O, co, X, cx, p.U, p.cu, p.M, p.cm⟩), .blk g1_5 49 (t.V O co X cx), .vw O (t.o.map u8v), .vw X (t.x.map u8v), .vw L (x.map u8v)] w := hS
  refine then_n (hK4 _ _ ?_); clear hK4 K4
  refine wp_seq_k ?_; intro K5 hK5
  refine rg_startk 0 hS mixed_ ?_
  clear hS; intro w hS
  refine rg_take 0 rfl rfl (by kernel_rfl) (by kernel_rfl) (by kernel_rfl) (want_0) (fun w hok => x_move (tmI rfl rfl)) ?_
  refine rg_take 1 rfl rfl (by kernel_rfl) (by kernel_rfl) (by kernel_rfl) (want_0) (fun w hok => x_move (tmS rfl rfl)) ?_
  refine rg_take 2 rfl rfl (by kernel_rfl) (by kernel_rfl) (by kernel_rfl) (want_0) (fun w hok => x_move (tmP rfl rfl)) ?_
  refine rg_take 3 rfl rfl (by kernel_rfl) (by kernel_rfl) (by kernel_rfl) (want_0) (fun w hok => x_nil (A := none) (tmP rfl rfl)) ?_
  refine rg_take 4 rfl rfl (by kernel_rfl) (by kernel_rfl) (by kernel_rfl) (want_0) (fun w hok => x_fa 3 Try.underlying53 rfl rfl ts_29 (tmP rfl rfl)) ?_
  refine rg_take 5 rfl rfl (by kernel_rfl) (by kernel_rfl) (by kernel_rfl) (want_0) (fun w hok => x_fa 0 Try.underlying29 rfl rfl ts_26 (tmP rfl rfl)) ?_
  refine rg_take 6 rfl rfl (by kernel_rfl) (by kernel_rfl) (by kernel_rfl) (want_0) (fun w hok => x_loadA (cs := [_, _, _]) Try.underlying26 rfl ts_26 (tmP rfl rfl) (rangeB hok 0 rfl rfl)) ?_
  refine rg_take 7 rfl rfl (by kernel_rfl) (by kernel_rfl) (by kernel_rfl) (want_0) (fun w hok => x_move (tmP rfl rfl)) ?_
  refine rg_take 8 rfl rfl (by kernel_rfl) (by kernel_rfl) (by kernel_rfl) (want_0) (fun w hok => x_nil (A := none) (tmP rfl rfl)) ?_
  refine rg_take 9 rfl rfl (by kernel_rfl) (by kernel_rfl) (by kernel_rfl) (want_0) (fun w hok => x_fa 3 Try.underlying53 rfl rfl ts_29 (tmP rfl rfl)) ?_
  refine rg_take 10 rfl rfl (by kernel_rfl) (by kernel_rfl) (by kernel_rfl) (want_0) (fun w hok => x_fa 3 Try.underlying29 rfl rfl ts_26 (tmP rfl rfl)) ?_
  refine rg_take 11 rfl rfl (by kernel_rfl) (by kernel_rfl) (by kernel_rfl) (want_0) (fun w hok => x_loadA (cs := [_, _, _]) Try.underlying26 rfl ts_26 (tmP rfl rfl) (rangeB hok 0 rfl rfl)) ?_
  refine rg_step 12 rfl (by kernel_rfl) (want_0) (oks_drop hS 0 rfl) ?_; intro K hK
  refine ow_call Try.func78 rfl rfl (evs_cons (tmS rfl rfl) <| evs_cons (tmA rfl rfl) <| evs_cons (tmA rfl rfl) <| evs_nil) (tcp_fine_c L cl x i.s i.d _ (viewV hS.ok 4 rfl) hb h6 hls hld (by omega)) ?_
  rintro e w ⟨rfl, hk⟩
  refine ⟨_, rfl, ?_⟩
  replace hS := hS.kept hk
  clear hk
  refine hK _ _ ?_; clear hK K
  refine rg_step 13 rfl (by kernel_rfl) (want_0) (oks_drop hS 0 rfl) ?_; intro K hK
  refine ow_call Try.func77 rfl rfl (evs_cons (tmI rfl rfl) <| evs_cons (tmB rfl rfl) <| evs_nil) (checked_c _ _ _) ?_
  rintro e w ⟨rfl, hk⟩
  refine ⟨_, rfl, ?_⟩
  replace hS := hS.kept hk
  clear hk
  refine hK _ _ ?_; clear hK K
  refine rg_take 14 rfl rfl (by kernel_rfl) (by kernel_rfl) (by kernel_rfl) (want_0) (fun w hok => x_assign (tmI rfl rfl)) ?_
  refine rg_done (oks_drop hS 0 rfl) (by kernel_rfl) ?_
  refine then_n (hK5 _ _ ?_); clear hK5 K5
  refine wp_ret ?_
  refine ret1 rfl (.tmp rfl (show _ = Value.int _ _ from rfl)) ?_
  exact ⟨O, co, X, cx, rfl, hco, b1, b2, hS.pick [0, 2, 3] rfl rfl⟩
set_option maxRecDepth 100000 in
set_option maxHeartbeats 8000000 in
theorem carryUDP_c (g : Nat) (i : Inf) (p : Pl) (L : Option Addr) (cl : Nat) (x : List Nat) (t : Dg) (er : Nat) (F : List Nat) (w0 : World)
    (hS : St F w0 [.blk g 53 (i.V p), .vw L (x.map u8v)] w0) (hc : x.length ≤ cl) (hx : x.length ≤ 3000) (h6 : i.s.six = i.d.six) (hls : adLim i.s) (hld : adLim i.d) (ht : t.ok) (hP : PU 79 x t er) :
    Calls Try.prog 67 #[.pointer (some ⟨g, 0, none⟩), .slice L x.length cl] w0 fun e w' => ∃ U cu, e = .returned (.int .i64 (chk (er : Int) (udF t.u1 t.u2 t.u3 t.x i.s i.d))) ∧ NewB w0 U t.x ∧
      St F w0 [.blk g 53 (Inf.V ⟨i.six, i.stay, i.ttl, i.s, i.d, t.u1, t.u2, i.pr, i.T, t, i.I⟩ ⟨p.O, p.co, p.X, p.cx, U, cu, p.M, p.cm⟩), .vw U (t.x.map u8v)] w' := by
  obtain ⟨k1, k2, k3, k4, k5⟩ := ht
  refine ent (n := 42) Try.func67 rfl rfl ?_
  refine wp_seq_k ?_; intro K1 hK1
  refine wlit ?_
  refine wl_v (x_assign (ev_cN 0)) ?_
  refine wl_nil ?_
  refine then_n (hK1 _ _ ?_); clear hK1 K1
  refine wp_seq_k ?_; intro K2 hK2
  refine wlit ?_
  refine wl_v (x_move (tmS rfl rfl)) ?_
  refine wl_e rfl ?_; intro K hK
  refine ow_call Try.func79 rfl rfl (evs_cons (tmS rfl rfl) <| evs_nil) (hP _ L cl (viewV hS.ok 1 rfl) hc) ?_
  rintro e w ⟨U, cu, rfl, hn1, hk⟩
  refine ⟨_, rfl, ?_⟩
  have b1 := hn1.newb hS
  replace hS := hS.addn hk hn1 -- +vu
  clear hn1 hk
  refine hK _ _ ?_; clear hK K
  refine wl_v (x_move (tmT rfl rfl)) ?_
  refine wl_v (x_ext (tmT rfl rfl) rfl) ?_
  refine wl_v (x_ext (tmT rfl rfl) rfl) ?_
  refine wl_e rfl ?_; intro K hK
  refine ow_alloc hS tz_50 rfl ?_
  clear hS; intro g1_5 w hg1_5 hS
  refine hK _ _ ?_; clear hK K
  refine wl_e rfl ?_; intro K hK
  refine ow_storeA hS 0 rfl ts_50 (tmP rfl rfl) (tmA rfl rfl) rfl rfl rfl ?_
  clear hS; intro w hS
  try replace hS := St.nm (M' := [.blk _ _ [_, _, _, _], .vw _ _, _, .vw _ _]) hS rfl
  refine hK _ _ ?_; clear hK K
  refine wl_v (x_assign (tmI rfl rfl)) ?_
  refine wl_nil ?_
  refine then_n (hK2 _ _ ?_); clear hK2 K2
  refine wp_seq_k ?_; intro K3 hK3
  refine wlit ?_
  refine wl_v (x_move (tmP rfl rfl)) ?_
  refine wl_v (x_loadA (cs := [_, _, _, _]) Try.underlying50 rfl ts_50 (tmP rfl rfl) (rangeB hS.ok 0 rfl rfl)) ?_
  refine wl_v (x_nil (A := none) (tmP rfl rfl)) ?_
  refine wl_v (x_fa 22 Try.underlying53 rfl rfl ts_50 (tmP rfl rfl)) ?_
  refine wl_e rfl ?_; intro K hK
  refine ow_storeA hS 2 rfl ts_50 (tmP rfl rfl) (tmA rfl rfl) rfl rfl rfl ?_
  clear hS; intro w hS
  refine hK _ _ ?_; clear hK K
  refine wl_nil ?_
  replace hS := hS.pick [2, 0, 1, 3] rfl rfl
  replace hS : St F w0 [.blk g 53 (Inf.V ⟨i.six, i.stay, i.ttl, i.s, i.d, i.sp, i.dp, i.pr, i.T, t, i.I⟩ ⟨p.O, p.co, p.X, p.cx, U, cu, p.M, p.cm⟩), .blk g1_5 50 (t.V U cu), .vw U (t.x.map u8v), .vw L (x.map u8v)] w := hS
  try replace hS := St.nm (M' := [_, .blk _ _ [_, _, _, _], .vw _ _, .vw _ _]) hS rfl
  refine then_n (hK3 _ _ ?_); clear hK3 K3
  refine wp_seq_k ?_; intro K4 hK4
  refine rg_startk 1 hS mixed_ ?_
  clear hS; intro w hS
  refine rg_take 0 rfl rfl (by kernel_rfl) (by kernel_rfl) (by kernel_rfl) (want_0) (fun w hok => x_move (tmP rfl rfl)) ?_
  refine rg_take 1 rfl rfl (by kernel_rfl) (by kernel_rfl) (by kernel_rfl) (want_0) (fun w hok => x_move (tmP rfl rfl)) ?_
  refine rg_take 2 rfl rfl (by kernel_rfl) (by kernel_rfl) (by kernel_rfl) (want_0) (fun w hok => x_fa 0 Try.underlying50 rfl rfl ts_27 (tmP rfl rfl)) ?_
  refine rg_take 3 rfl rfl (by kernel_rfl) (by kernel_rfl) (by kernel_rfl) (want_0) (fun w hok => x_load Try.underlying27 rfl (tmP rfl rfl) (cellB hok 0 rfl rfl)) ?_
  refine rg_take 4 rfl rfl (by kernel_rfl) (by kernel_rfl) (by kernel_rfl) (want_0) (fun w hok => x_fa 1 Try.underlying50 rfl rfl ts_27 (tmP rfl rfl)) ?_
  refine rg_take 5 rfl rfl (by kernel_rfl) (by kernel_rfl) (by kernel_rfl) (want_0) (fun w hok => x_load Try.underlying27 rfl (tmP rfl rfl) (cellB hok 0 rfl rfl)) ?_
  refine rg_take 6 rfl rfl (by kernel_rfl) (by kernel_rfl) (by kernel_rfl) (want_0) (fun w hok => x_nil (A := none) (tmP rfl rfl)) ?_
  refine rg_take 7 rfl rfl (by kernel_rfl) (by kernel_rfl) (by kernel_rfl) (want_0) (fun w hok => x_fa 3 Try.underlying53 rfl rfl ts_29 (tmP rfl rfl)) ?_
  refine rg_take 8 rfl rfl (by kernel_rfl) (by kernel_rfl) (by kernel_rfl) (want_0) (fun w hok => x_fa 6 Try.underlying29 rfl rfl ts_27 (tmP rfl rfl)) ?_
  refine rg_step 9 rfl (by kernel_rfl) (want_0) (oks_drop hS 1 rfl) ?_; intro K hK
  refine ow_store hS 0 rfl ts_27 (tmP rfl rfl) (tmI rfl rfl) rfl rfl ?_
  clear hS; intro w hS
  refine hK _ _ ?_; clear hK K
  refine rg_take 10 rfl rfl (by kernel_rfl) (by kernel_rfl) (by kernel_rfl) (want_0) (fun w hok => x_nil (A := none) (tmP rfl rfl)) ?_
  refine rg_take 11 rfl rfl (by kernel_rfl) (by kernel_rfl) (by kernel_rfl) (want_0) (fun w hok => x_fa 3 Try.underlying53 rfl rfl ts_29 (tmP rfl rfl)) ?_
  refine rg_take 12 rfl rfl (by kernel_rfl) (by kernel_rfl) (by kernel_rfl) (want_0) (fun w hok => x_fa 7 Try.underlying29 rfl rfl ts_27 (tmP rfl rfl)) ?_
  refine rg_step 13 rfl (by kernel_rfl) (want_0) (oks_drop hS 1 rfl) ?_; intro K hK
  refine ow_store hS 0 rfl ts_27 (tmP rfl rfl) (tmI rfl rfl) rfl rfl ?_
  clear hS; intro w hS
  refine hK _ _ ?_; clear hK K
  refine rg_done (oks_drop hS 1 rfl) (by kernel_rfl) ?_
  replace hS : St F w0 [.blk g 53 (Inf.V ⟨i.six, i.stay, i.ttl, i.s, i.d, t.u1, t.u2, i.pr, i.T, t, i.I⟩ ⟨p.O, p.co, p.X, p.cx, U, cu, p.M, p.cm⟩), .blk g1_5 50 (t.V U cu), .vw U (t.x.map u8v), .vw L (x.map u8v)] w := hS
  refine then_n (hK4 _ _ ?_); clear hK4 K4
  refine wp_seq_k ?_; intro K5 hK5
  refine rg_startk 0 hS mixed_ ?_
  clear hS; intro w hS
  refine rg_take 0 rfl rfl (by kernel_rfl) (by kernel_rfl) (by kernel_rfl) (want_0) (fun w hok => x_move (tmI rfl rfl)) ?_
  refine rg_take 1 rfl rfl (by kernel_rfl) (by kernel_rfl) (by kernel_rfl) (want_0) (fun w hok => x_loadA (cs := [_, _, _, _]) Try.underlying50 rfl ts_50 (tmP rfl rfl) (rangeB hok 1 rfl rfl)) ?_
  refine rg_take 2 rfl rfl (by kernel_rfl) (by kernel_rfl) (by kernel_rfl) (want_0) (fun w hok => x_move (tmP rfl rfl)) ?_
  refine rg_take 3 rfl rfl (by kernel_rfl) (by kernel_rfl) (by kernel_rfl) (want_0) (fun w hok => x_nil (A := none) (tmP rfl rfl)) ?_
  refine rg_take 4 rfl rfl (by kernel_rfl) (by kernel_rfl) (by kernel_rfl) (want_0) (fun w hok => x_fa 3 Try.underlying53 rfl rfl ts_29 (tmP rfl rfl)) ?_
  refine rg_take 5 rfl rfl (by kernel_rfl) (by kernel_rfl) (by kernel_rfl) (want_0) (fun w hok => x_fa 0 Try.underlying29 rfl rfl ts_26 (tmP rfl rfl)) ?_
  refine rg_take 6 rfl rfl (by kernel_rfl) (by kernel_rfl) (by kernel_rfl) (want_0) (fun w hok => x_loadA (cs := [_, _, _]) Try.underlying26 rfl ts_26 (tmP rfl rfl) (rangeB hok 0 rfl rfl)) ?_
  refine rg_take 7 rfl rfl (by kernel_rfl) (by kernel_rfl) (by kernel_rfl) (want_0) (fun w hok => x_move (tmP rfl rfl)) ?_
  refine rg_take 8 rfl rfl (by kernel_rfl) (by kernel_rfl) (by kernel_rfl) (want_0) (fun w hok => x_nil (A := none) (tmP rfl rfl)) ?_
  refine rg_take 9 rfl rfl (by kernel_rfl) (by kernel_rfl) (by kernel_rfl) (want_0) (fun w hok => x_fa 3 Try.underlying53 rfl rfl ts_29 (tmP rfl rfl)) ?_
  refine rg_take 10 rfl rfl (by kernel_rfl) (by kernel_rfl) (by kernel_rfl) (want_0) (fun w hok => x_fa 3 Try.underlying29 rfl rfl ts_26 (tmP rfl rfl)) ?_
  refine rg_take 11 rfl rfl (by kernel_rfl) (by kernel_rfl) (by kernel_rfl) (want_0) (fun w hok => x_loadA (cs := [_, _, _]) Try.underlying26 rfl ts_26 (tmP rfl rfl) (rangeB hok 0 rfl rfl)) ?_
  refine rg_step 12 rfl (by kernel_rfl) (want_0) (oks_drop hS 0 rfl) ?_; intro K hK
  refine ow_call Try.func80 rfl rfl (evs_cons (tmA rfl rfl) <| evs_cons (tmA rfl rfl) <| evs_cons (tmA rfl rfl) <| evs_nil) (udp_fine_c t.u1 t.u2 t.u3 U t.x.length cu t.x i.s i.d _ (viewV hS.ok 2 rfl) rfl k1 h6 hls hld (by omega) k3 k4 k5) ?_
  rintro e w ⟨rfl, hk⟩
  refine ⟨_, rfl, ?_⟩
  replace hS := hS.kept hk
  clear hk
  refine hK _ _ ?_; clear hK K
  refine rg_step 13 rfl (by kernel_rfl) (want_0) (oks_drop hS 0 rfl) ?_; intro K hK
  refine ow_call Try.func77 rfl rfl (evs_cons (tmI rfl rfl) <| evs_cons (tmB rfl rfl) <| evs_nil) (checked_c _ _ _) ?_
  rintro e w ⟨rfl, hk⟩
  refine ⟨_, rfl, ?_⟩
  replace hS := hS.kept hk
  clear hk
  refine hK _ _ ?_; clear hK K
  refine rg_take 14 rfl rfl (by kernel_rfl) (by kernel_rfl) (by kernel_rfl) (want_0) (fun w hok => x_assign (tmI rfl rfl)) ?_
  refine rg_done (oks_drop hS 0 rfl) (by kernel_rfl) ?_
  refine then_n (hK5 _ _ ?_); clear hK5 K5
  refine wp_ret ?_
  refine ret1 rfl (.tmp rfl (show _ = Value.int _ _ from rfl)) ?_
  exact ⟨U, cu, rfl, b1, hS.pick [0, 2] rfl rfl⟩
set_option maxRecDepth 100000 in
set_option maxHeartbeats 8000000 in
theorem carryICMP_c (g : Nat) (i : Inf) (p : Pl) (L : Option Addr) (cl : Nat) (x : List Nat) (t : Mg) (er : Nat) (F : List Nat) (w0 : World)
    (hS : St F w0 [.blk g 53 (i.V p), .vw L (x.map u8v)] w0) (hc : x.length ≤ cl) (hx : x.length ≤ 3000) (h6 : i.s.six = i.d.six) (hls : adLim i.s) (hld : adLim i.d) (ht : t.ok) (hP : PM x t er) :
    Calls Try.prog 68 #[.pointer (some ⟨g, 0, none⟩), .slice L x.length cl] w0 fun e w' => ∃ U cu, e = .returned (.int .i64 (chk (er : Int) (decide (foldN (icS t.m1 t.m2 t.m3 t.m4 t.x i.s i.d) = 65535)))) ∧ NewB w0 U t.x ∧
      St F w0 [.blk g 53 (Inf.V ⟨i.six, i.stay, i.ttl, i.s, i.d, i.sp, i.dp, i.pr, i.T, i.D, t⟩ ⟨p.O, p.co, p.X, p.cx, p.U, p.cu, U, cu⟩), .vw U (t.x.map u8v)] w' := by
  obtain ⟨k1, k2, k3, k4, k5, k6⟩ := ht
  refine ent (n := 30) Try.func68 rfl rfl ?_
  refine wp_seq_k ?_; intro K1 hK1
  refine wlit ?_
  refine wl_v (x_assign (ev_cN 0)) ?_
  refine wl_nil ?_
  refine then_n (hK1 _ _ ?_); clear hK1 K1
  refine wp_seq_k ?_; intro K2 hK2
  refine wlit ?_
  refine wl_v (x_move (tmS rfl rfl)) ?_
  refine wl_e rfl ?_; intro K hK
  refine ow_call Try.func81 rfl rfl (evs_cons (tmS rfl rfl) <| evs_nil) (hP _ L cl (viewV hS.ok 1 rfl) hc) ?_
  rintro e w ⟨U, cu, rfl, hn1, hk⟩
  refine ⟨_, rfl, ?_⟩
  have b1 := hn1.newb hS
  replace hS := hS.addn hk hn1 -- +vu
  clear hn1 hk
  refine hK _ _ ?_; clear hK K
  refine wl_v (x_move (tmT rfl rfl)) ?_
  refine wl_v (x_ext (tmT rfl rfl) rfl) ?_
  refine wl_v (x_ext (tmT rfl rfl) rfl) ?_
  refine wl_e rfl ?_; intro K hK
  refine ow_alloc hS tz_51 rfl ?_
  clear hS; intro g1_5 w hg1_5 hS
  refine hK _ _ ?_; clear hK K
  refine wl_e rfl ?_; intro K hK
  refine ow_storeA hS 0 rfl ts_51 (tmP rfl rfl) (tmA rfl rfl) rfl rfl rfl ?_
  clear hS; intro w hS
  try replace hS := St.nm (M' := [.blk _ _ [_, _, _, _, _], .vw _ _, _, .vw _ _]) hS rfl
  refine hK _ _ ?_; clear hK K
  refine wl_v (x_assign (tmI rfl rfl)) ?_
  refine wl_nil ?_
  refine then_n (hK2 _ _ ?_); clear hK2 K2
  refine wp_seq_k ?_; intro K3 hK3
  refine wlit ?_
  refine wl_v (x_move (tmP rfl rfl)) ?_
  refine wl_v (x_loadA (cs := [_, _, _, _, _]) Try.underlying51 rfl ts_51 (tmP rfl rfl) (rangeB hS.ok 0 rfl rfl)) ?_
  refine wl_v (x_nil (A := none) (tmP rfl rfl)) ?_
  refine wl_v (x_fa 26 Try.underlying53 rfl rfl ts_51 (tmP rfl rfl)) ?_
  refine wl_e rfl ?_; intro K hK
  refine ow_storeA hS 2 rfl ts_51 (tmP rfl rfl) (tmA rfl rfl) rfl rfl rfl ?_
  clear hS; intro w hS
  refine hK _ _ ?_; clear hK K
  refine wl_nil ?_
  replace hS := hS.pick [2, 0, 1, 3] rfl rfl
  replace hS : St F w0 [.blk g 53 (Inf.V ⟨i.six, i.stay, i.ttl, i.s, i.d, i.sp, i.dp, i.pr, i.T, i.D, t⟩ ⟨p.O, p.co, p.X, p.cx, p.U, p.cu, U, cu⟩), .blk g1_5 51 (t.V U cu), .vw U (t.x.map u8v), .vw L (x.map u8v)] w := hS
  try replace hS := St.nm (M' := [_, .blk _ _ [_, _, _, _, _], .vw _ _, .vw _ _]) hS rfl
  refine then_n (hK3 _ _ ?_); clear hK3 K3
  refine wp_seq_k ?_; intro K4 hK4
  refine rg_startk 0 hS mixed_ ?_
  clear hS; intro w hS
  refine rg_take 0 rfl rfl (by kernel_rfl) (by kernel_rfl) (by kernel_rfl) (want_0) (fun w hok => x_move (tmI rfl rfl)) ?_
  refine rg_take 1 rfl rfl (by kernel_rfl) (by kernel_rfl) (by kernel_rfl) (want_0) (fun w hok => x_loadA (cs := [_, _, _, _, _]) Try.underlying51 rfl ts_51 (tmP rfl rfl) (rangeB hok 1 rfl rfl)) ?_
  refine rg_take 2 rfl rfl (by kernel_rfl) (by kernel_rfl) (by kernel_rfl) (want_0) (fun w hok => x_move (tmP rfl rfl)) ?_
  refine rg_take 3 rfl rfl (by kernel_rfl) (by kernel_rfl) (by kernel_rfl) (want_0) (fun w hok => x_nil (A := none) (tmP rfl rfl)) ?_
  refine rg_take 4 rfl rfl (by kernel_rfl) (by kernel_rfl) (by kernel_rfl) (want_0) (fun w hok => x_fa 3 Try.underlying53 rfl rfl ts_29 (tmP rfl rfl)) ?_
  refine rg_take 5 rfl rfl (by kernel_rfl) (by kernel_rfl) (by kernel_rfl) (want_0) (fun w hok => x_fa 0 Try.underlying29 rfl rfl ts_26 (tmP rfl rfl)) ?_
  refine rg_take 6 rfl rfl (by kernel_rfl) (by kernel_rfl) (by kernel_rfl) (want_0) (fun w hok => x_loadA (cs := [_, _, _]) Try.underlying26 rfl ts_26 (tmP rfl rfl) (rangeB hok 0 rfl rfl)) ?_
  refine rg_take 7 rfl rfl (by kernel_rfl) (by kernel_rfl) (by kernel_rfl) (want_0) (fun w hok => x_move (tmP rfl rfl)) ?_
  refine rg_take 8 rfl rfl (by kernel_rfl) (by kernel_rfl) (by kernel_rfl) (want_0) (fun w hok => x_nil (A := none) (tmP rfl rfl)) ?_
  refine rg_take 9 rfl rfl (by kernel_rfl) (by kernel_rfl) (by kernel_rfl) (want_0) (fun w hok => x_fa 3 Try.underlying53 rfl rfl ts_29 (tmP rfl rfl)) ?_
  refine rg_take 10 rfl rfl (by kernel_rfl) (by kernel_rfl) (by kernel_rfl) (want_0) (fun w hok => x_fa 3 Try.underlying29 rfl rfl ts_26 (tmP rfl rfl)) ?_
  refine rg_take 11 rfl rfl (by kernel_rfl) (by kernel_rfl) (by kernel_rfl) (want_0) (fun w hok => x_loadA (cs := [_, _, _]) Try.underlying26 rfl ts_26 (tmP rfl rfl) (rangeB hok 0 rfl rfl)) ?_
  refine rg_step 12 rfl (by kernel_rfl) (want_0) (oks_drop hS 0 rfl) ?_; intro K hK
  refine ow_call Try.func82 rfl rfl (evs_cons (tmA rfl rfl) <| evs_cons (tmA rfl rfl) <| evs_cons (tmA rfl rfl) <| evs_nil) (icmp_fine_c t.m1 t.m2 t.m3 t.m4 U t.x.length cu t.x i.s i.d _ (viewV hS.ok 2 rfl) rfl k1 h6 hls hld (by omega) k3 k4 k5 k6) ?_
  rintro e w ⟨rfl, hk⟩
  refine ⟨_, rfl, ?_⟩
  replace hS := hS.kept hk
  clear hk
  refine hK _ _ ?_; clear hK K
  refine rg_step 13 rfl (by kernel_rfl) (want_0) (oks_drop hS 0 rfl) ?_; intro K hK
  refine ow_call Try.func77 rfl rfl (evs_cons (tmI rfl rfl) <| evs_cons (tmB rfl rfl) <| evs_nil) (checked_c _ _ _) ?_
  rintro e w ⟨rfl, hk⟩
  refine ⟨_, rfl, ?_⟩
  replace hS := hS.kept hk
  clear hk
  refine hK _ _ ?_; clear hK K
  refine rg_take 14 rfl rfl (by kernel_rfl) (by kernel_rfl) (by kernel_rfl) (want_0) (fun w hok => x_assign (tmI rfl rfl)) ?_
  refine rg_done (oks_drop hS 0 rfl) (by kernel_rfl) ?_
  refine then_n (hK4 _ _ ?_); clear hK4 K4
  refine wp_ret ?_
  refine ret1 rfl (.tmp rfl (show _ = Value.int _ _ from rfl)) ?_
  exact ⟨U, cu, rfl, b1, hS.pick [0, 2] rfl rfl⟩
end Go.Proofs.Ytcobjneobdihkaa
/- Calls of function values. Any program. -/
namespace Go.Proofs.Ytcobjneobdihkaa
open Go.RowKit
section
variable {P : Program} {n d : Nat} {f : Nat → Value} {w : World} {ty : TypeId} {pos : String} {aft : Array Edge} {gd : Option (Nat × Bool)} {Q : Exit → Act → World → Prop}
theorem ow_dyn {K : Act → World → Prop} {x : Operand} {fid : FuncId} {fn : Func} {c : Code} {xs : List Operand} {ats : Array TypeId} {vs : List Value} {R : Ending → World → Prop} (hx : (act n f).eval x = .func (.func fid) #[] #[]) (hf : P.funcs[fid]? = some fn) (hb : fn.body = some c) (hn : (fn.name == "runtime.NumGoroutine") = false)
    (hv : xs.map (act n f).eval = vs) (hc : Calls P fid vs.toArray w R) (h : ∀ e w', R e w' → ∃ v, e = .returned v ∧ K (act n (upd f d v)) w') : OW P ⟨some d, .call { callee := .value x, args := xs.toArray, argTypes := ats }, ty, pos, aft, gd⟩ (act n f) w K Q := by
  refine ⟨?_⟩
  have he : (execOp (act n f).eval ⟨some d, .call { callee := .value x, args := xs.toArray, argTypes := ats }, ty, pos, aft, gd⟩).run P w = .ok (.enter fid vs.toArray) w := by
    have e2 : #[] ++ xs.toArray.map (act n f).eval ++ #[] = vs.toArray := by rw [List.map_toArray, hv]; simp
    have e1 : execOp (act n f).eval ⟨some d, .call { callee := .value x, args := xs.toArray, argTypes := ats }, ty, pos, aft, gd⟩ = callFunc fid (#[] ++ xs.toArray.map (act n f).eval ++ #[]) := by
      unfold execOp
      simp only [resolve, hx, Deferred.ofValue]
      rfl
    rw [e1, e2]
    unfold callFunc
    have hn' : ¬ fn.name = "runtime.NumGoroutine" := by simpa using hn
    simp [Sem.run_bind, program, Sem.run, hf, hn', hb]
  unfold Oper.wp
  rw [he]
  refine Calls.mono hc fun e w' hR => ?_
  obtain ⟨v, rfl, hk⟩ := h e w' hR
  show K ((act n f).put (some d) v) w'
  rw [act_put]
  exact hk
end
end Go.Proofs.Ytcobjneobdihkaa
/- steer: Read, by contract. Conditions: none but bounds. -/
namespace Go.Proofs.Ytcobjneobdihkaa
open Go.ChangeShapes Go.WideShapes Go.ChangeAt Go.RowKit
def flV (s d : Ad) (sp dp pr : Nat) : List Value := [.bool s.six, .int .u64 (s.high : Int), .int .u64 (s.low : Int), .bool d.six, .int .u64 (d.high : Int), .int .u64 (d.low : Int), .int .u16 (sp : Int), .int .u16 (dp : Int), .int .u8 (pr : Int)]
def quV (s d : Ad) (sp dp pr st : Nat) (has : Bool) : List Value := [.bool s.six, .int .u64 (s.high : Int), .int .u64 (s.low : Int), .bool d.six, .int .u64 (d.high : Int), .int .u64 (d.low : Int), .int .u16 (sp : Int), .int .u16 (dp : Int), .int .u8 (pr : Int), .int .u32 (st : Int), .bool has]
def adZ : Ad := ⟨false, 0, 0⟩
/-- The header of IPv4 tells a flow. -/
def Hd4 (l : List Nat) (sz : Nat) : Prop := 20 ≤ l.length ∧ nth l 0 / 16 = 4 ∧ sz = nth l 0 % 16 * 4 ∧ 20 ≤ sz ∧ sz + 8 ≤ l.length ∧ getN l 6 2 % 16384 = 0
def Hd6 (l : List Nat) : Prop := 48 ≤ l.length ∧ nth l 0 / 16 = 6
def src4 (l : List Nat) : Ad := ⟨false, 0, getN l 12 4⟩
def dst4 (l : List Nat) : Ad := ⟨false, 0, getN l 16 4⟩
def src6 (l : List Nat) : Ad := ⟨true, getN l 8 8, getN l 16 8⟩
def dst6 (l : List Nat) : Ad := ⟨true, getN l 24 8, getN l 32 8⟩
/-- What a header's reader answers. -/
def HdS (fn : Nat) (l : List Nat) (s d : Ad) (pr sz : Nat) : Prop := ∀ (w : World) (A : Option Addr) (c : Nat), View w w.heap.size A (l.map u8v) → l.length ≤ c →
  Calls Try.prog fn #[.slice A l.length c] w fun e w' => e = .returned (.tuple #[.agg (flV s d 0 0 pr).toArray, .slice (cutA A sz c 1) (l.length - sz) (c - sz), .bool true]) ∧ Kp [] w w'
def HdN (fn : Nat) (l : List Nat) : Prop := ∀ (w : World) (A : Option Addr) (c : Nat), View w w.heap.size A (l.map u8v) → l.length ≤ c →
  Calls Try.prog fn #[.slice A l.length c] w fun e w' => e = .returned (.tuple #[.agg (flV adZ adZ 0 0 0).toArray, .slice none 0 0, .bool false]) ∧ Kp [] w w'
theorem six_ad (l : List Nat) (p : Nat) : (⟨true, getN ((l.drop p).take 16) 0 8, getN ((l.drop p).take 16) 8 8⟩ : Ad) = ⟨true, getN l p 8, getN l (p + 8) 8⟩ := by
  have x1 : getN ((l.drop p).take 16) 0 8 = getN l p 8 := by unfold getN; rw [List.drop_zero, List.take_take]; rfl
  have x2 : getN ((l.drop p).take 16) 8 8 = getN l (p + 8) 8 := by unfold getN; rw [List.drop_take, List.drop_drop, List.take_take]; rfl
  rw [x1, x2]
theorem and14 (x : Nat) : x &&& 16383 = x % 16384 := Nat.and_two_pow_sub_one_eq_mod x 14
theorem and4b (x : Nat) : x &&& 15 = x % 16 := Nat.and_two_pow_sub_one_eq_mod x 4
set_option maxRecDepth 100000 in
set_option maxHeartbeats 8000000 in
theorem header4_c (l : List Nat) (hb : Bytes l) (hn : l.length ≤ 3000) (sz : Nat) (h : Hd4 l sz) : HdS 12 l (src4 l) (dst4 l) (nth l 9) sz := fun w0 A c hv hc => by
  obtain ⟨n, hl⟩ : ∃ n, l.length = n := ⟨_, rfl⟩
  obtain ⟨h20, hver, hsz, s20, s8, hfr⟩ := h
  have hn4 : n ≤ 1000000 := by omega
  rw [hl] at hc h20 s8 ⊢
  have hS := (St.sv w0).vcons rfl hv
  obtain ⟨b4, o4, rfl⟩ := view_some hv (by rw [List.length_map]; omega)
  have hqb : l.getD 0 0 < 256 := nth_lt hb 0
  have q0 : l.getD 0 0 = nth l 0 := rfl
  have e15 : l.getD 0 0 &&& 15 = l.getD 0 0 % 16 := and4b _
  have hz : (l.getD 0 0 &&& 15) * 4 = sz := by rw [e15, hsz]; rfl
  have g6 : getN l (0 + 6) 2 < 65536 := getN_lt hb 6 2
  have e14 : getN l (0 + 6) 2 &&& 16383 = 0 := by rw [and14]; exact hfr
  have e9 : getN l 9 1 = nth l 9 := getN_one (by omega)
  refine ent (n := 69) Try.func12 rfl rfl ?_
  refine wp_seq_k ?_; intro K1 hK1
  refine wlit ?_
  refine wl_e rfl ?_; intro K hK
  refine ow_alloc hS tz_29 rfl ?_
  clear hS; intro g0_0 w hg0_0 hS
  refine hK _ _ ?_; clear hK K
  refine wl_v (x_assign ev_c) ?_
  refine wl_v (x_assign ev_c) ?_
  refine wl_nil ?_
  refine then_n (hK1 _ _ ?_); clear hK1 K1
  refine wp_seq_k ?_; intro K2 hK2
  refine wp_seq_k ?_; intro K3 hK3
  refine wlit ?_
  refine wl_v (x_move (tmS rfl rfl)) ?_
  refine wl_v (x_len Try.underlying22 (tmS rfl rfl)) ?_
  refine wl_v (x_lss (tmI rfl rfl) (ev_cN 20)) ?_
  refine wl_nil ?_
  refine then_n (hK3 _ _ ?_); clear hK3 K3
  refine cnd (tm rfl) (fun hc0 => ?_) (fun hc0 => ?_)
  · exfalso
    simp at hc0
    omega
  try simp only [nrm] at hc0
  refine wp_skip ?_
  refine then_n (hK2 _ _ ?_); clear hK2 K2
  refine wp_seq_k ?_; intro K4 hK4
  refine wlit ?_
  refine wl_v (x_move (tmS rfl rfl)) ?_
  refine wl_v (x_ixs1 Try.underlying22 ts_5 (tmS rfl rfl) (ev_cN 0) (by omega)) ?_
  refine wl_v (x_load Try.underlying5 rfl (tmP rfl rfl) (cellV hS.ok 1 rfl (getm (by omega)))) ?_
  refine wl_v (x_andN (tmI rfl rfl) (ev_cN 15) (fit_u8 (by omega)) (fit_u8 (by omega))) ?_
  refine wl_v (x_convN Try.underlying5 Try.underlying3 (tmI rfl rfl) (fit_i64 (by omega))) ?_
  refine wl_v (x_mulN (tmI rfl rfl) (ev_cN 4) (fit_i64 (by omega))) ?_
  refine wl_v (x_assign (tmI rfl (congrArg (fun q : Nat => Value.int .i64 (q : Int)) hz))) ?_
  refine wl_nil ?_
  refine then_n (hK4 _ _ ?_); clear hK4 K4
  refine wp_seq_k ?_; intro K5 hK5
  refine wp_seq_k ?_; intro K6 hK6
  refine wlit ?_
  refine wl_v (x_move (tmS rfl rfl)) ?_
  refine wl_v (x_ixs1 Try.underlying22 ts_5 (tmS rfl rfl) (ev_cN 0) (by omega)) ?_
  refine wl_v (x_load Try.underlying5 rfl (tmP rfl rfl) (cellV hS.ok 1 rfl (getm (by omega)))) ?_
  refine wl_v (x_shrN (tmI rfl rfl) (ev_cN 4) (fit_u8 (by omega))) ?_
  refine wl_v (x_neq (tmI rfl rfl) (ev_cN 4)) ?_
  refine wl_v (x_move (tmB rfl rfl)) ?_
  refine gs_wl (tm (t := 23) rfl) (fun hg4_5 => ?_) (fun hg4_5 => ?_)
  · exfalso
    simp only [nrm] at hg4_5
    omega
  have hg4_5' := hg4_5; (try simp only [nrm] at hg4_5')
  refine wl_gv (want_y rfl rfl rfl rfl (by rw [hg4_5]; rfl)) (x_move (tmI rfl rfl)) ?_
  refine wl_gv (want_y rfl rfl rfl rfl (by rw [hg4_5]; rfl)) (x_lss (tmI rfl rfl) (ev_cN 20)) ?_
  refine wl_v (x_pickF (tmB rfl rfl) hg4_5 (tmB rfl rfl)) ?_
  refine wl_v (x_move (tmB rfl rfl)) ?_
  refine gs_wl (tm (t := 27) rfl) (fun hg4_9 => ?_) (fun hg4_9 => ?_)
  · exfalso
    simp only [nrm] at hg4_9
    omega
  have hg4_9' := hg4_9; (try simp only [nrm] at hg4_9')
  refine wl_gv (want_y rfl rfl rfl rfl (by rw [hg4_9]; rfl)) (x_move (tmS rfl rfl)) ?_
  refine wl_gv (want_y rfl rfl rfl rfl (by rw [hg4_9]; rfl)) (x_len Try.underlying22 (tmS rfl rfl)) ?_
  refine wl_gv (want_y rfl rfl rfl rfl (by rw [hg4_9]; rfl)) (x_move (tmI rfl rfl)) ?_
  refine wl_gv (want_y rfl rfl rfl rfl (by rw [hg4_9]; rfl)) (x_addN (tmI rfl rfl) (ev_cN 8) (fit_i64 (by omega))) ?_
  refine wl_gv (want_y rfl rfl rfl rfl (by rw [hg4_9]; rfl)) (x_lss (tmI rfl rfl) (tmI rfl rfl)) ?_
  refine wl_v (x_pickF (tmB rfl rfl) hg4_9 (tmB rfl rfl)) ?_
  refine wl_nil ?_
  refine then_n (hK6 _ _ ?_); clear hK6 K6
  refine cnd (tm rfl) (fun hc1 => ?_) (fun hc1 => ?_)
  · exfalso
    simp at hc1
    omega
  try simp only [nrm] at hc1
  refine wp_skip ?_
  refine then_n (hK5 _ _ ?_); clear hK5 K5
  refine wp_seq_k ?_; intro K7 hK7
  refine wlit ?_
  refine wl_v (x_move (tmS rfl rfl)) ?_
  refine wl_e rfl ?_; intro K hK
  refine ow_call Try.func14 rfl rfl (evs_cons (tmS rfl rfl) <| evs_nil) (read_c n _ c l _ (viewV hS.ok 1 rfl) hl hn4) ?_
  rintro e w ⟨gr, A0, rfl, hS2⟩
  refine ⟨_, rfl, ?_⟩
  replace hS := hS.adds hS2 rfl -- +gr,rowb
  clear hS2
  have hA : Off A0 0 n A0 := off_zero
  have hcp : n - 0 ≤ n := by omega
  refine hK _ _ ?_; clear hK K
  refine wl_v (x_assign (tmP rfl rfl)) ?_
  refine wl_nil ?_
  refine then_n (hK7 _ _ ?_); clear hK7 K7
  refine wp_seq_k ?_; intro K8 hK8
  refine wlit ?_
  refine wl_v (x_move (tmP rfl rfl)) ?_
  refine wl_e rfl ?_; intro K hK
  refine ow_call Try.func29 rfl rfl (evs_cons (tmP rfl rfl) <| evs_cons (ev_cN 6) <| evs_nil) (bytes_c gr A0 A0 0 6 n _ l false _ _ (hS.enter [0] [1] rfl rfl) hA (by omega) hcp) ?_
  rintro e w ⟨A1, c1, rfl, hS2, hA, hcp⟩
  refine ⟨_, rfl, ?_⟩
  replace hS := hS.turn 0 rfl rfl hS2 rfl
  clear hS2
  try replace hS := St.nm (M' := [_, .row _ _ _ _ _, .blk _ _ [_, _, _, _, _, _, _, _, _], .vw _ _]) hS rfl
  refine hK _ _ ?_; clear hK K
  refine wl_nil ?_
  refine then_n (hK8 _ _ ?_); clear hK8 K8
  refine wp_seq_k ?_; intro K9 hK9
  refine wp_seq_k ?_; intro K10 hK10
  refine wlit ?_
  refine wl_v (x_move (tmP rfl rfl)) ?_
  refine wl_e rfl ?_; intro K hK
  refine ow_call Try.func15 rfl rfl (evs_cons (tmP rfl rfl) <| evs_nil) (word_c gr A0 _ _ n _ l false _ _ (hS.enter [0] [1] rfl rfl) hA (by omega) hcp hl hb) ?_
  rintro e w ⟨A1, c1, rfl, hS2, hA, hcp⟩
  refine ⟨_, rfl, ?_⟩
  replace hS := hS.turn 0 rfl rfl hS2 rfl
  clear hS2
  try replace hS := St.nm (M' := [_, .row _ _ _ _ _, .blk _ _ [_, _, _, _, _, _, _, _, _], .vw _ _]) hS rfl
  refine hK _ _ ?_; clear hK K
  refine wl_v (x_andN (tmI rfl rfl) (ev_cN 16383) (fit_u16 (by omega)) (fit_u16 (by omega))) ?_
  refine wl_v (x_neq (tmI rfl rfl) (ev_cN 0)) ?_
  refine wl_nil ?_
  refine then_n (hK10 _ _ ?_); clear hK10 K10
  refine cnd (tm rfl) (fun hc2 => ?_) (fun hc2 => ?_)
  · exfalso
    simp only [nrm] at hc2
    omega
  try simp only [nrm] at hc2
  refine wp_skip ?_
  refine then_n (hK9 _ _ ?_); clear hK9 K9
  refine wp_seq_k ?_; intro K11 hK11
  refine wlit ?_
  refine wl_v (x_move (tmP rfl rfl)) ?_
  refine wl_e rfl ?_; intro K hK
  refine ow_call Try.func30 rfl rfl (evs_cons (tmP rfl rfl) <| evs_nil) (byte_c gr A0 _ _ n _ l false _ _ (hS.enter [0] [1] rfl rfl) hA (by omega) hcp hl hb) ?_
  rintro e w ⟨A1, c1, rfl, hS2, hA, hcp⟩
  refine ⟨_, rfl, ?_⟩
  replace hS := hS.turn 0 rfl rfl hS2 rfl
  clear hS2
  try replace hS := St.nm (M' := [_, .row _ _ _ _ _, .blk _ _ [_, _, _, _, _, _, _, _, _], .vw _ _]) hS rfl
  refine hK _ _ ?_; clear hK K
  refine wl_nil ?_
  refine then_n (hK11 _ _ ?_); clear hK11 K11
  refine wp_seq_k ?_; intro K12 hK12
  refine wlit ?_
  refine wl_v (x_move (tmP rfl rfl)) ?_
  refine wl_e rfl ?_; intro K hK
  refine ow_call Try.func30 rfl rfl (evs_cons (tmP rfl rfl) <| evs_nil) (byte_c gr A0 _ _ n _ l false _ _ (hS.enter [0] [1] rfl rfl) hA (by omega) hcp hl hb) ?_
  rintro e w ⟨A1, c1, rfl, hS2, hA, hcp⟩
  refine ⟨_, rfl, ?_⟩
  replace hS := hS.turn 0 rfl rfl hS2 rfl
  clear hS2
  try replace hS := St.nm (M' := [_, .row _ _ _ _ _, .blk _ _ [_, _, _, _, _, _, _, _, _], .vw _ _]) hS rfl
  refine hK _ _ ?_; clear hK K
  refine wl_v (x_build (bc_skipL [.bool false, .int .u64 0, .int .u64 0] <| bc_skipL [.bool false, .int .u64 0, .int .u64 0] <| bc_skip (.int .u16 0) <| bc_skip (.int .u16 0) <| bc_take (tmI rfl rfl) <| bc_nil) (by kernel_rfl)) ?_
  refine wl_e rfl ?_; intro K hK
  refine ow_alloc hS tz_29 rfl ?_
  clear hS; intro g11_3 w hg11_3 hS
  refine hK _ _ ?_; clear hK K
  refine wl_e rfl ?_; intro K hK
  refine ow_storeA hS 0 rfl ts_29 (tmP rfl rfl) (tmA rfl rfl) rfl rfl rfl ?_
  clear hS; intro w hS
  try replace hS := St.nm (M' := [.blk _ _ [_, _, _, _, _, _, _, _, _], _, .row _ _ _ _ _, .blk _ _ [_, _, _, _, _, _, _, _, _], .vw _ _]) hS rfl
  refine hK _ _ ?_; clear hK K
  refine wl_nil ?_
  refine then_n (hK12 _ _ ?_); clear hK12 K12
  refine wp_seq_k ?_; intro K13 hK13
  refine wlit ?_
  refine wl_v (x_move (tmP rfl rfl)) ?_
  refine wl_e rfl ?_; intro K hK
  refine ow_call Try.func15 rfl rfl (evs_cons (tmP rfl rfl) <| evs_nil) (word_c gr A0 _ _ n _ l false _ _ (hS.enter [1] [2] rfl rfl) hA (by omega) hcp hl hb) ?_
  rintro e w ⟨A1, c1, rfl, hS2, hA, hcp⟩
  refine ⟨_, rfl, ?_⟩
  replace hS := hS.turn 1 rfl rfl hS2 rfl
  clear hS2
  try replace hS := St.nm (M' := [.blk _ _ [_, _, _, _, _, _, _, _, _], _, .row _ _ _ _ _, .blk _ _ [_, _, _, _, _, _, _, _, _], .vw _ _]) hS rfl
  refine hK _ _ ?_; clear hK K
  refine wl_nil ?_
  refine then_n (hK13 _ _ ?_); clear hK13 K13
  refine wp_seq_k ?_; intro K14 hK14
  refine wlit ?_
  refine wl_v (x_move (tmP rfl rfl)) ?_
  refine wl_e rfl ?_; intro K hK
  refine ow_call Try.func29 rfl rfl (evs_cons (tmP rfl rfl) <| evs_cons (ev_cN 4) <| evs_nil) (bytes_c gr A0 A1 _ 4 n _ l false _ _ (hS.enter [1] [2] rfl rfl) hA (by omega) hcp) ?_
  rintro e w ⟨A2, c2, rfl, hS2, hA2, hcp2⟩
  refine ⟨_, rfl, ?_⟩
  replace hS := hS.turn 1 rfl rfl hS2 rfl
  clear hS2
  try replace hS := St.nm (M' := [.blk _ _ [_, _, _, _, _, _, _, _, _], _, .row _ _ _ _ _, .blk _ _ [_, _, _, _, _, _, _, _, _], .vw _ _]) hS rfl
  refine hK _ _ ?_; clear hK K
  refine wl_e rfl ?_; intro K hK
  refine ow_call Try.func31 rfl rfl (evs_cons (tmS rfl rfl) <| evs_nil) (ad_of4_c A1 _ _ _ (by have h := (NewV.offb (hS.newv 2 rfl) hl hA 4).1; exact h) (by rw [List.length_take, List.length_drop]; omega) ((hb.drop _).take 4)) ?_
  rintro e w ⟨rfl, hk⟩
  refine ⟨_, rfl, ?_⟩
  replace hS := hS.kept hk
  clear hk
  refine hK _ _ ?_; clear hK K
  refine wl_v (x_move (tmT rfl rfl)) ?_
  refine wl_v (x_ext (tmT rfl rfl) rfl) ?_
  refine wl_v (x_ext (tmT rfl rfl) rfl) ?_
  refine wl_v (x_fa 0 Try.underlying29 rfl rfl ts_26 (tmP rfl rfl)) ?_
  refine wl_e rfl ?_; intro K hK
  refine ow_storeA hS 0 rfl ts_26 (tmP rfl rfl) (tmA rfl rfl) rfl rfl rfl ?_
  clear hS; intro w hS
  try replace hS := St.nm (M' := [.blk _ _ [_, _, _, _, _, _, _, _, _], _, .row _ _ _ _ _, .blk _ _ [_, _, _, _, _, _, _, _, _], .vw _ _]) hS rfl
  refine hK _ _ ?_; clear hK K
  refine wl_nil ?_
  refine then_n (hK14 _ _ ?_); clear hK14 K14
  refine wp_seq_k ?_; intro K15 hK15
  refine wlit ?_
  refine wl_v (x_move (tmP rfl rfl)) ?_
  refine wl_e rfl ?_; intro K hK
  refine ow_call Try.func29 rfl rfl (evs_cons (tmP rfl rfl) <| evs_cons (ev_cN 4) <| evs_nil) (bytes_c gr A0 A2 _ 4 n _ l false _ _ (hS.enter [1] [2] rfl rfl) hA2 (by omega) hcp2) ?_
  rintro e w ⟨A3, c3, rfl, hS2, hA3, hcp3⟩
  refine ⟨_, rfl, ?_⟩
  replace hS := hS.turn 1 rfl rfl hS2 rfl
  clear hS2
  try replace hS := St.nm (M' := [.blk _ _ [_, _, _, _, _, _, _, _, _], _, .row _ _ _ _ _, .blk _ _ [_, _, _, _, _, _, _, _, _], .vw _ _]) hS rfl
  refine hK _ _ ?_; clear hK K
  refine wl_e rfl ?_; intro K hK
  refine ow_call Try.func31 rfl rfl (evs_cons (tmS rfl rfl) <| evs_nil) (ad_of4_c A2 _ _ _ (by have h := (NewV.offb (hS.newv 2 rfl) hl hA2 4).1; exact h) (by rw [List.length_take, List.length_drop]; omega) ((hb.drop _).take 4)) ?_
  rintro e w ⟨rfl, hk⟩
  refine ⟨_, rfl, ?_⟩
  replace hS := hS.kept hk
  clear hk
  refine hK _ _ ?_; clear hK K
  refine wl_v (x_move (tmT rfl rfl)) ?_
  refine wl_v (x_ext (tmT rfl rfl) rfl) ?_
  refine wl_v (x_ext (tmT rfl rfl) rfl) ?_
  refine wl_v (x_fa 3 Try.underlying29 rfl rfl ts_26 (tmP rfl rfl)) ?_
  refine wl_e rfl ?_; intro K hK
  refine ow_storeA hS 0 rfl ts_26 (tmP rfl rfl) (tmA rfl rfl) rfl rfl rfl ?_
  clear hS; intro w hS
  try replace hS := St.nm (M' := [.blk _ _ [_, _, _, _, _, _, _, _, _], _, .row _ _ _ _ _, .blk _ _ [_, _, _, _, _, _, _, _, _], .vw _ _]) hS rfl
  refine hK _ _ ?_; clear hK K
  refine wl_nil ?_
  refine then_n (hK15 _ _ ?_); clear hK15 K15
  refine wp_seq_k ?_; intro K16 hK16
  replace hS := hS.pick [3, 0, 1, 2] rfl rfl
  try replace hS := St.nm (M' := [.blk _ _ [_, _, _, _, _, _, _, _, _], .blk _ _ [_, _, _, _, _, _, _, _, _], _, .row _ _ _ _ _]) hS rfl
  refine rg_startk 1 hS mixed_ ?_
  clear hS; intro w hS
  refine rg_take 0 rfl rfl (by kernel_rfl) (by kernel_rfl) (by kernel_rfl) (want_0) (fun w hok => x_loadA (cs := [_, _, _, _, _, _, _, _, _]) Try.underlying29 rfl ts_29 (tmP rfl rfl) (rangeB hok 0 rfl rfl)) ?_
  refine rg_take 1 rfl rfl (by kernel_rfl) (by kernel_rfl) (by kernel_rfl) (want_0) (fun w hok => x_move (tmS rfl rfl)) ?_
  refine rg_take 2 rfl rfl (by kernel_rfl) (by kernel_rfl) (by kernel_rfl) (want_0) (fun w hok => x_move (tmI rfl rfl)) ?_
  refine rg_take 3 rfl rfl (by kernel_rfl) (by kernel_rfl) (by kernel_rfl) (want_0) (fun w hok => x_sliceL Try.underlying22 ts_5 (tmS rfl rfl) (tmI rfl rfl) (by omega)) ?_
  refine rg_step 4 rfl (by kernel_rfl) (want_0) (oks_drop hS 1 rfl) ?_; intro K hK
  refine ow_storeA hS 0 rfl ts_29 (tmP rfl rfl) (tmA rfl rfl) rfl rfl rfl ?_
  clear hS; intro w hS
  try replace hS := St.nm (M' := [.blk _ _ [_, _, _, _, _, _, _, _, _], .blk _ _ [_, _, _, _, _, _, _, _, _], _, .row _ _ _ _ _]) hS rfl
  refine hK _ _ ?_; clear hK K
  refine rg_take 5 rfl rfl (by kernel_rfl) (by kernel_rfl) (by kernel_rfl) (want_0) (fun w hok => x_assign (tmS rfl rfl)) ?_
  refine rg_take 6 rfl rfl (by kernel_rfl) (by kernel_rfl) (by kernel_rfl) (want_0) (fun w hok => x_assign ev_c) ?_
  refine rg_done (oks_drop hS 1 rfl) (by kernel_rfl) ?_
  refine then_n (hK16 _ _ ?_); clear hK16 K16
  refine wp_ret ?_
  refine ret3 rfl (.cell rfl rfl (load_rowB (cs := [_, _, _, _, _, _, _, _, _]) hS.ok 0 rfl Try.underlying29 rfl ts_29 rfl)) (.tmp rfl (show _ = Value.slice _ _ _ from rfl)) (.tmp rfl (show _ = Value.bool _ from rfl)) ?_
  refine ⟨?_, hS.kp⟩
  rw [← e9]
  rfl
set_option maxRecDepth 100000 in
set_option maxHeartbeats 8000000 in
theorem header4_bad (l : List Nat) (hb : Bytes l) (hn : l.length ≤ 3000) (h : ¬ ∃ sz, Hd4 l sz) : HdN 12 l := fun w0 A c hv hc => by
  obtain ⟨n, hl⟩ : ∃ n, l.length = n := ⟨_, rfl⟩
  have hn4 : n ≤ 1000000 := by omega
  have hqb : l.getD 0 0 < 256 := nth_lt hb 0
  have h0 : ¬ (20 ≤ n ∧ l.getD 0 0 / 16 = 4 ∧ 20 ≤ l.getD 0 0 % 16 * 4 ∧ l.getD 0 0 % 16 * 4 + 8 ≤ n ∧ getN l 6 2 % 16384 = 0) := fun ⟨x1, x2, x3, x4, x5⟩ => h ⟨_, by omega, x2, rfl, x3, by rw [hl]; exact x4, x5⟩
  obtain ⟨sz, hsz⟩ : ∃ sz, sz = l.getD 0 0 % 16 * 4 := ⟨_, rfl⟩
  obtain ⟨fr, hfr⟩ : ∃ fr, fr = getN l 6 2 % 16384 := ⟨_, rfl⟩
  rw [← hsz, ← hfr] at h0
  rw [hl] at hc ⊢
  have hS := (St.sv w0).vcons rfl hv
  have e15 : l.getD 0 0 &&& 15 = l.getD 0 0 % 16 := and4b _
  have hz : (l.getD 0 0 &&& 15) * 4 = sz := by rw [e15, hsz]
  have g6 : getN l (0 + 6) 2 < 65536 := getN_lt hb 6 2
  have e14 : getN l (0 + 6) 2 &&& 16383 = fr := by rw [and14, hfr]
  refine ent (n := 69) Try.func12 rfl rfl ?_
  refine wp_seq_k ?_; intro K1 hK1
  refine wlit ?_
  refine wl_e rfl ?_; intro K hK
  refine ow_alloc hS tz_29 rfl ?_
  clear hS; intro g0_0 w hg0_0 hS
  refine hK _ _ ?_; clear hK K
  refine wl_v (x_assign ev_c) ?_
  refine wl_v (x_assign ev_c) ?_
  refine wl_nil ?_
  refine then_n (hK1 _ _ ?_); clear hK1 K1
  refine wp_seq_k ?_; intro K2 hK2
  refine wp_seq_k ?_; intro K3 hK3
  refine wlit ?_
  refine wl_v (x_move (tmS rfl rfl)) ?_
  refine wl_v (x_len Try.underlying22 (tmS rfl rfl)) ?_
  refine wl_v (x_lss (tmI rfl rfl) (ev_cN 20)) ?_
  refine wl_nil ?_
  refine then_n (hK3 _ _ ?_); clear hK3 K3
  refine cnd (tm rfl) (fun hc0 => ?_) (fun hc0 => ?_)
  · skip
    try simp only [nrm] at hc0
    refine wp_seq_k ?_; intro K4 hK4
    refine wlit ?_
    refine wl_v (x_build (bc_skipL [.bool false, .int .u64 0, .int .u64 0] <| bc_skipL [.bool false, .int .u64 0, .int .u64 0] <| bc_skip (.int .u16 0) <| bc_skip (.int .u16 0) <| bc_skip (.int .u8 0) <| bc_nil) (by kernel_rfl)) ?_
    refine wl_e rfl ?_; intro K hK
    refine ow_storeA hS 0 rfl ts_29 (tmP rfl rfl) (tmA rfl rfl) rfl rfl rfl ?_
    clear hS; intro w hS
    try replace hS := St.nm (M' := [.blk _ _ [_, _, _, _, _, _, _, _, _], .vw _ _]) hS rfl
    refine hK _ _ ?_; clear hK K
    refine wl_v (x_assign ev_c) ?_
    refine wl_v (x_assign ev_c) ?_
    refine wl_nil ?_
    refine then_n (hK4 _ _ ?_); clear hK4 K4
    refine wp_ret ?_
    refine then_r ?_
    refine ret3 rfl (.cell rfl rfl (load_rowB (cs := [_, _, _, _, _, _, _, _, _]) hS.ok 0 rfl Try.underlying29 rfl ts_29 rfl)) (.tmp rfl (show _ = Value.slice _ _ _ from rfl)) (.tmp rfl (show _ = Value.bool _ from rfl)) ?_
    exact ⟨rfl, hS.kp⟩
  try simp only [nrm] at hc0
  obtain ⟨b4, o4, rfl⟩ := view_some hv (by rw [List.length_map]; first | omega | (simp at hc0; omega))
  refine wp_skip ?_
  refine then_n (hK2 _ _ ?_); clear hK2 K2
  refine wp_seq_k ?_; intro K6 hK6
  refine wlit ?_
  refine wl_v (x_move (tmS rfl rfl)) ?_
  refine wl_v (x_ixs1 Try.underlying22 ts_5 (tmS rfl rfl) (ev_cN 0) (by omega)) ?_
  refine wl_v (x_load Try.underlying5 rfl (tmP rfl rfl) (cellV hS.ok 1 rfl (getm (by omega)))) ?_
  refine wl_v (x_andN (tmI rfl rfl) (ev_cN 15) (fit_u8 (by omega)) (fit_u8 (by omega))) ?_
  refine wl_v (x_convN Try.underlying5 Try.underlying3 (tmI rfl rfl) (fit_i64 (by omega))) ?_
  refine wl_v (x_mulN (tmI rfl rfl) (ev_cN 4) (fit_i64 (by omega))) ?_
  refine wl_v (x_assign (tmI rfl (congrArg (fun q : Nat => Value.int .i64 (q : Int)) hz))) ?_
  refine wl_nil ?_
  refine then_n (hK6 _ _ ?_); clear hK6 K6
  refine wp_seq_k ?_; intro K7 hK7
  refine wp_seq_k ?_; intro K8 hK8
  refine wlit ?_
  refine wl_v (x_move (tmS rfl rfl)) ?_
  refine wl_v (x_ixs1 Try.underlying22 ts_5 (tmS rfl rfl) (ev_cN 0) (by omega)) ?_
  refine wl_v (x_load Try.underlying5 rfl (tmP rfl rfl) (cellV hS.ok 1 rfl (getm (by omega)))) ?_
  refine wl_v (x_shrN (tmI rfl rfl) (ev_cN 4) (fit_u8 (by omega))) ?_
  refine wl_v (x_neq (tmI rfl rfl) (ev_cN 4)) ?_
  refine wl_v (x_move (tmB rfl rfl)) ?_
  refine gs_wl (tm (t := 23) rfl) (fun hg4_5 => ?_) (fun hg4_5 => ?_)
  · have hg4_5' := hg4_5; (try simp only [nrm] at hg4_5')
    refine wl_s rfl (want_n rfl rfl rfl rfl (by rw [hg4_5]; rfl)) ?_
    refine wl_s rfl (want_n rfl rfl rfl rfl (by rw [hg4_5]; rfl)) ?_
    refine wl_v (x_pickT (tmB rfl rfl) hg4_5 ev_c) ?_
    refine wl_v (x_move (tmB rfl rfl)) ?_
    refine wl_s rfl (want_n rfl rfl rfl rfl rfl) ?_
    refine wl_s rfl (want_n rfl rfl rfl rfl rfl) ?_
    refine wl_s rfl (want_n rfl rfl rfl rfl rfl) ?_
    refine wl_s rfl (want_n rfl rfl rfl rfl rfl) ?_
    refine wl_s rfl (want_n rfl rfl rfl rfl rfl) ?_
    refine wl_v (x_pickT (tmB rfl rfl) rfl ev_c) ?_
    refine wl_nil ?_
    refine then_n (hK8 _ _ ?_); clear hK8 K8
    refine cnd_t (tmB rfl rfl) rfl ?_
    refine wp_seq_k ?_; intro K9 hK9
    refine wlit ?_
    refine wl_v (x_build (bc_skipL [.bool false, .int .u64 0, .int .u64 0] <| bc_skipL [.bool false, .int .u64 0, .int .u64 0] <| bc_skip (.int .u16 0) <| bc_skip (.int .u16 0) <| bc_skip (.int .u8 0) <| bc_nil) (by kernel_rfl)) ?_
    refine wl_e rfl ?_; intro K hK
    refine ow_storeA hS 0 rfl ts_29 (tmP rfl rfl) (tmA rfl rfl) rfl rfl rfl ?_
    clear hS; intro w hS
    try replace hS := St.nm (M' := [.blk _ _ [_, _, _, _, _, _, _, _, _], .vw _ _]) hS rfl
    refine hK _ _ ?_; clear hK K
    refine wl_v (x_assign ev_c) ?_
    refine wl_v (x_assign ev_c) ?_
    refine wl_nil ?_
    refine then_n (hK9 _ _ ?_); clear hK9 K9
    refine wp_ret ?_
    refine then_r ?_
    refine ret3 rfl (.cell rfl rfl (load_rowB (cs := [_, _, _, _, _, _, _, _, _]) hS.ok 0 rfl Try.underlying29 rfl ts_29 rfl)) (.tmp rfl (show _ = Value.slice _ _ _ from rfl)) (.tmp rfl (show _ = Value.bool _ from rfl)) ?_
    exact ⟨rfl, hS.kp⟩
  have hg4_5' := hg4_5; (try simp only [nrm] at hg4_5')
  refine wl_gv (want_y rfl rfl rfl rfl (by rw [hg4_5]; rfl)) (x_move (tmI rfl rfl)) ?_
  refine wl_gv (want_y rfl rfl rfl rfl (by rw [hg4_5]; rfl)) (x_lss (tmI rfl rfl) (ev_cN 20)) ?_
  refine wl_v (x_pickF (tmB rfl rfl) hg4_5 (tmB rfl rfl)) ?_
  refine wl_v (x_move (tmB rfl rfl)) ?_
  refine gs_wl (tm (t := 27) rfl) (fun hg4_9 => ?_) (fun hg4_9 => ?_)
  · have hg4_9' := hg4_9; (try simp only [nrm] at hg4_9')
    refine wl_s rfl (want_n rfl rfl rfl rfl (by rw [hg4_9]; rfl)) ?_
    refine wl_s rfl (want_n rfl rfl rfl rfl (by rw [hg4_9]; rfl)) ?_
    refine wl_s rfl (want_n rfl rfl rfl rfl (by rw [hg4_9]; rfl)) ?_
    refine wl_s rfl (want_n rfl rfl rfl rfl (by rw [hg4_9]; rfl)) ?_
    refine wl_s rfl (want_n rfl rfl rfl rfl (by rw [hg4_9]; rfl)) ?_
    refine wl_v (x_pickT (tmB rfl rfl) hg4_9 ev_c) ?_
    refine wl_nil ?_
    refine then_n (hK8 _ _ ?_); clear hK8 K8
    refine cnd_t (tmB rfl rfl) rfl ?_
    refine wp_seq_k ?_; intro K11 hK11
    refine wlit ?_
    refine wl_v (x_build (bc_skipL [.bool false, .int .u64 0, .int .u64 0] <| bc_skipL [.bool false, .int .u64 0, .int .u64 0] <| bc_skip (.int .u16 0) <| bc_skip (.int .u16 0) <| bc_skip (.int .u8 0) <| bc_nil) (by kernel_rfl)) ?_
    refine wl_e rfl ?_; intro K hK
    refine ow_storeA hS 0 rfl ts_29 (tmP rfl rfl) (tmA rfl rfl) rfl rfl rfl ?_
    clear hS; intro w hS
    try replace hS := St.nm (M' := [.blk _ _ [_, _, _, _, _, _, _, _, _], .vw _ _]) hS rfl
    refine hK _ _ ?_; clear hK K
    refine wl_v (x_assign ev_c) ?_
    refine wl_v (x_assign ev_c) ?_
    refine wl_nil ?_
    refine then_n (hK11 _ _ ?_); clear hK11 K11
    refine wp_ret ?_
    refine then_r ?_
    refine ret3 rfl (.cell rfl rfl (load_rowB (cs := [_, _, _, _, _, _, _, _, _]) hS.ok 0 rfl Try.underlying29 rfl ts_29 rfl)) (.tmp rfl (show _ = Value.slice _ _ _ from rfl)) (.tmp rfl (show _ = Value.bool _ from rfl)) ?_
    exact ⟨rfl, hS.kp⟩
  have hg4_9' := hg4_9; (try simp only [nrm] at hg4_9')
  refine wl_gv (want_y rfl rfl rfl rfl (by rw [hg4_9]; rfl)) (x_move (tmS rfl rfl)) ?_
  refine wl_gv (want_y rfl rfl rfl rfl (by rw [hg4_9]; rfl)) (x_len Try.underlying22 (tmS rfl rfl)) ?_
  refine wl_gv (want_y rfl rfl rfl rfl (by rw [hg4_9]; rfl)) (x_move (tmI rfl rfl)) ?_
  refine wl_gv (want_y rfl rfl rfl rfl (by rw [hg4_9]; rfl)) (x_addN (tmI rfl rfl) (ev_cN 8) (fit_i64 (by omega))) ?_
  refine wl_gv (want_y rfl rfl rfl rfl (by rw [hg4_9]; rfl)) (x_lss (tmI rfl rfl) (tmI rfl rfl)) ?_
  refine wl_v (x_pickF (tmB rfl rfl) hg4_9 (tmB rfl rfl)) ?_
  refine wl_nil ?_
  refine then_n (hK8 _ _ ?_); clear hK8 K8
  refine cnd (tm rfl) (fun hc1 => ?_) (fun hc1 => ?_)
  · skip
    try simp only [nrm] at hc1
    refine wp_seq_k ?_; intro K13 hK13
    refine wlit ?_
    refine wl_v (x_build (bc_skipL [.bool false, .int .u64 0, .int .u64 0] <| bc_skipL [.bool false, .int .u64 0, .int .u64 0] <| bc_skip (.int .u16 0) <| bc_skip (.int .u16 0) <| bc_skip (.int .u8 0) <| bc_nil) (by kernel_rfl)) ?_
    refine wl_e rfl ?_; intro K hK
    refine ow_storeA hS 0 rfl ts_29 (tmP rfl rfl) (tmA rfl rfl) rfl rfl rfl ?_
    clear hS; intro w hS
    try replace hS := St.nm (M' := [.blk _ _ [_, _, _, _, _, _, _, _, _], .vw _ _]) hS rfl
    refine hK _ _ ?_; clear hK K
    refine wl_v (x_assign ev_c) ?_
    refine wl_v (x_assign ev_c) ?_
    refine wl_nil ?_
    refine then_n (hK13 _ _ ?_); clear hK13 K13
    refine wp_ret ?_
    refine then_r ?_
    refine ret3 rfl (.cell rfl rfl (load_rowB (cs := [_, _, _, _, _, _, _, _, _]) hS.ok 0 rfl Try.underlying29 rfl ts_29 rfl)) (.tmp rfl (show _ = Value.slice _ _ _ from rfl)) (.tmp rfl (show _ = Value.bool _ from rfl)) ?_
    exact ⟨rfl, hS.kp⟩
  try simp only [nrm] at hc1
  refine wp_skip ?_
  refine then_n (hK7 _ _ ?_); clear hK7 K7
  refine wp_seq_k ?_; intro K15 hK15
  refine wlit ?_
  refine wl_v (x_move (tmS rfl rfl)) ?_
  refine wl_e rfl ?_; intro K hK
  refine ow_call Try.func14 rfl rfl (evs_cons (tmS rfl rfl) <| evs_nil) (read_c n _ c l _ (viewV hS.ok 1 rfl) hl hn4) ?_
  rintro e w ⟨gr, A0, rfl, hS2⟩
  refine ⟨_, rfl, ?_⟩
  replace hS := hS.adds hS2 rfl -- +gr,rowb
  clear hS2
  have hA : Off A0 0 n A0 := off_zero
  have hcp : n - 0 ≤ n := by omega
  refine hK _ _ ?_; clear hK K
  refine wl_v (x_assign (tmP rfl rfl)) ?_
  refine wl_nil ?_
  refine then_n (hK15 _ _ ?_); clear hK15 K15
  refine wp_seq_k ?_; intro K16 hK16
  refine wlit ?_
  refine wl_v (x_move (tmP rfl rfl)) ?_
  refine wl_e rfl ?_; intro K hK
  refine ow_call Try.func29 rfl rfl (evs_cons (tmP rfl rfl) <| evs_cons (ev_cN 6) <| evs_nil) (bytes_c gr A0 A0 0 6 n _ l false _ _ (hS.enter [0] [1] rfl rfl) hA (by omega) hcp) ?_
  rintro e w ⟨A1, c1, rfl, hS2, hA, hcp⟩
  refine ⟨_, rfl, ?_⟩
  replace hS := hS.turn 0 rfl rfl hS2 rfl
  clear hS2
  try replace hS := St.nm (M' := [_, .row _ _ _ _ _, .blk _ _ [_, _, _, _, _, _, _, _, _], .vw _ _]) hS rfl
  refine hK _ _ ?_; clear hK K
  refine wl_nil ?_
  refine then_n (hK16 _ _ ?_); clear hK16 K16
  refine wp_seq_k ?_; intro K17 hK17
  refine wp_seq_k ?_; intro K18 hK18
  refine wlit ?_
  refine wl_v (x_move (tmP rfl rfl)) ?_
  refine wl_e rfl ?_; intro K hK
  refine ow_call Try.func15 rfl rfl (evs_cons (tmP rfl rfl) <| evs_nil) (word_c gr A0 _ _ n _ l false _ _ (hS.enter [0] [1] rfl rfl) hA (by omega) hcp hl hb) ?_
  rintro e w ⟨A1, c1, rfl, hS2, hA, hcp⟩
  refine ⟨_, rfl, ?_⟩
  replace hS := hS.turn 0 rfl rfl hS2 rfl
  clear hS2
  try replace hS := St.nm (M' := [_, .row _ _ _ _ _, .blk _ _ [_, _, _, _, _, _, _, _, _], .vw _ _]) hS rfl
  refine hK _ _ ?_; clear hK K
  refine wl_v (x_andN (tmI rfl rfl) (ev_cN 16383) (fit_u16 (by omega)) (fit_u16 (by omega))) ?_
  refine wl_v (x_neq (tmI rfl rfl) (ev_cN 0)) ?_
  refine wl_nil ?_
  refine then_n (hK18 _ _ ?_); clear hK18 K18
  refine cnds (tm rfl) (fun hc2 => ?_) (fun hc2 => ?_)
  · exfalso
    first | omega | (simp at hc2; omega) | (simp only [nrm] at hc2; omega)
  try simp only [nrm] at hc2
  refine wp_seq_k ?_; intro K19 hK19
  refine wlit ?_
  refine wl_v (x_build (bc_skipL [.bool false, .int .u64 0, .int .u64 0] <| bc_skipL [.bool false, .int .u64 0, .int .u64 0] <| bc_skip (.int .u16 0) <| bc_skip (.int .u16 0) <| bc_skip (.int .u8 0) <| bc_nil) (by kernel_rfl)) ?_
  refine wl_e rfl ?_; intro K hK
  refine ow_storeA hS 2 rfl ts_29 (tmP rfl rfl) (tmA rfl rfl) rfl rfl rfl ?_
  clear hS; intro w hS
  try replace hS := St.nm (M' := [_, .row _ _ _ _ _, .blk _ _ [_, _, _, _, _, _, _, _, _], .vw _ _]) hS rfl
  refine hK _ _ ?_; clear hK K
  refine wl_v (x_assign ev_c) ?_
  refine wl_v (x_assign ev_c) ?_
  refine wl_nil ?_
  refine then_n (hK19 _ _ ?_); clear hK19 K19
  refine wp_ret ?_
  refine then_r ?_
  refine ret3 rfl (.cell rfl rfl (load_rowB (cs := [_, _, _, _, _, _, _, _, _]) hS.ok 2 rfl Try.underlying29 rfl ts_29 rfl)) (.tmp rfl (show _ = Value.slice _ _ _ from rfl)) (.tmp rfl (show _ = Value.bool _ from rfl)) ?_
  exact ⟨rfl, hS.kp⟩
set_option maxRecDepth 100000 in
set_option maxHeartbeats 8000000 in
theorem header6_c (l : List Nat) (hb : Bytes l) (hn : l.length ≤ 3000) (h : Hd6 l) : HdS 13 l (src6 l) (dst6 l) (nth l 6) 40 := fun w0 A c hv hc => by
  obtain ⟨n, hl⟩ : ∃ n, l.length = n := ⟨_, rfl⟩
  obtain ⟨h48, hver⟩ := h
  have hn4 : n ≤ 1000000 := by omega
  rw [hl] at hc h48 ⊢
  have hS := (St.sv w0).vcons rfl hv
  obtain ⟨b4, o4, rfl⟩ := view_some hv (by rw [List.length_map]; omega)
  have hqb : l.getD 0 0 < 256 := nth_lt hb 0
  have q0 : l.getD 0 0 = nth l 0 := rfl
  have e6 : getN l 6 1 = nth l 6 := getN_one (by omega)
  refine ent (n := 44) Try.func13 rfl rfl ?_
  refine wp_seq_k ?_; intro K1 hK1
  refine wlit ?_
  refine wl_e rfl ?_; intro K hK
  refine ow_alloc hS tz_29 rfl ?_
  clear hS; intro g0_0 w hg0_0 hS
  refine hK _ _ ?_; clear hK K
  refine wl_v (x_assign ev_c) ?_
  refine wl_v (x_assign ev_c) ?_
  refine wl_nil ?_
  refine then_n (hK1 _ _ ?_); clear hK1 K1
  refine wp_seq_k ?_; intro K2 hK2
  refine wp_seq_k ?_; intro K3 hK3
  refine wlit ?_
  refine wl_v (x_move (tmS rfl rfl)) ?_
  refine wl_v (x_len Try.underlying22 (tmS rfl rfl)) ?_
  refine wl_v (x_lss (tmI rfl rfl) (ev_cN 48)) ?_
  refine wl_v (x_move (tmB rfl rfl)) ?_
  refine gs_wl (tm (t := 10) rfl) (fun hg1_3 => ?_) (fun hg1_3 => ?_)
  · exfalso
    simp only [nrm] at hg1_3
    omega
  have hg1_3' := hg1_3; (try simp only [nrm] at hg1_3')
  refine wl_gv (want_y rfl rfl rfl rfl (by rw [hg1_3]; rfl)) (x_move (tmS rfl rfl)) ?_
  refine wl_gv (want_y rfl rfl rfl rfl (by rw [hg1_3]; rfl)) (x_ixs1 Try.underlying22 ts_5 (tmS rfl rfl) (ev_cN 0) (by omega)) ?_
  refine wl_gv (want_y rfl rfl rfl rfl (by rw [hg1_3]; rfl)) (x_load Try.underlying5 rfl (tmP rfl rfl) (cellV hS.ok 1 rfl (getm (by omega)))) ?_
  refine wl_gv (want_y rfl rfl rfl rfl (by rw [hg1_3]; rfl)) (x_shrN (tmI rfl rfl) (ev_cN 4) (fit_u8 (by omega))) ?_
  refine wl_gv (want_y rfl rfl rfl rfl (by rw [hg1_3]; rfl)) (x_neq (tmI rfl rfl) (ev_cN 6)) ?_
  refine wl_v (x_pickF (tmB rfl rfl) hg1_3 (tmB rfl rfl)) ?_
  refine wl_nil ?_
  refine then_n (hK3 _ _ ?_); clear hK3 K3
  refine cnd (tm rfl) (fun hc0 => ?_) (fun hc0 => ?_)
  · exfalso
    simp only [nrm] at hc0
    omega
  try simp only [nrm] at hc0
  refine wp_skip ?_
  refine then_n (hK2 _ _ ?_); clear hK2 K2
  refine wp_seq_k ?_; intro K4 hK4
  refine wlit ?_
  refine wl_v (x_move (tmS rfl rfl)) ?_
  refine wl_e rfl ?_; intro K hK
  refine ow_call Try.func14 rfl rfl (evs_cons (tmS rfl rfl) <| evs_nil) (read_c n _ c l _ (viewV hS.ok 1 rfl) hl hn4) ?_
  rintro e w ⟨gr, A0, rfl, hS2⟩
  refine ⟨_, rfl, ?_⟩
  replace hS := hS.adds hS2 rfl -- +gr,rowb
  clear hS2
  have hA : Off A0 0 n A0 := off_zero
  have hcp : n - 0 ≤ n := by omega
  refine hK _ _ ?_; clear hK K
  refine wl_v (x_assign (tmP rfl rfl)) ?_
  refine wl_nil ?_
  refine then_n (hK4 _ _ ?_); clear hK4 K4
  refine wp_seq_k ?_; intro K5 hK5
  refine wlit ?_
  refine wl_v (x_move (tmP rfl rfl)) ?_
  refine wl_e rfl ?_; intro K hK
  refine ow_call Try.func29 rfl rfl (evs_cons (tmP rfl rfl) <| evs_cons (ev_cN 6) <| evs_nil) (bytes_c gr A0 A0 0 6 n _ l false _ _ (hS.enter [0] [1] rfl rfl) hA (by omega) hcp) ?_
  rintro e w ⟨A1, c1, rfl, hS2, hA, hcp⟩
  refine ⟨_, rfl, ?_⟩
  replace hS := hS.turn 0 rfl rfl hS2 rfl
  clear hS2
  try replace hS := St.nm (M' := [_, .row _ _ _ _ _, .blk _ _ [_, _, _, _, _, _, _, _, _], .vw _ _]) hS rfl
  refine hK _ _ ?_; clear hK K
  refine wl_nil ?_
  refine then_n (hK5 _ _ ?_); clear hK5 K5
  refine wp_seq_k ?_; intro K6 hK6
  refine wlit ?_
  refine wl_v (x_move (tmP rfl rfl)) ?_
  refine wl_e rfl ?_; intro K hK
  refine ow_call Try.func30 rfl rfl (evs_cons (tmP rfl rfl) <| evs_nil) (byte_c gr A0 _ _ n _ l false _ _ (hS.enter [0] [1] rfl rfl) hA (by omega) hcp hl hb) ?_
  rintro e w ⟨A1, c1, rfl, hS2, hA, hcp⟩
  refine ⟨_, rfl, ?_⟩
  replace hS := hS.turn 0 rfl rfl hS2 rfl
  clear hS2
  try replace hS := St.nm (M' := [_, .row _ _ _ _ _, .blk _ _ [_, _, _, _, _, _, _, _, _], .vw _ _]) hS rfl
  refine hK _ _ ?_; clear hK K
  refine wl_v (x_build (bc_skipL [.bool false, .int .u64 0, .int .u64 0] <| bc_skipL [.bool false, .int .u64 0, .int .u64 0] <| bc_skip (.int .u16 0) <| bc_skip (.int .u16 0) <| bc_take (tmI rfl rfl) <| bc_nil) (by kernel_rfl)) ?_
  refine wl_e rfl ?_; intro K hK
  refine ow_alloc hS tz_29 rfl ?_
  clear hS; intro g5_3 w hg5_3 hS
  refine hK _ _ ?_; clear hK K
  refine wl_e rfl ?_; intro K hK
  refine ow_storeA hS 0 rfl ts_29 (tmP rfl rfl) (tmA rfl rfl) rfl rfl rfl ?_
  clear hS; intro w hS
  try replace hS := St.nm (M' := [.blk _ _ [_, _, _, _, _, _, _, _, _], _, .row _ _ _ _ _, .blk _ _ [_, _, _, _, _, _, _, _, _], .vw _ _]) hS rfl
  refine hK _ _ ?_; clear hK K
  refine wl_nil ?_
  refine then_n (hK6 _ _ ?_); clear hK6 K6
  refine wp_seq_k ?_; intro K7 hK7
  refine wlit ?_
  refine wl_v (x_move (tmP rfl rfl)) ?_
  refine wl_e rfl ?_; intro K hK
  refine ow_call Try.func30 rfl rfl (evs_cons (tmP rfl rfl) <| evs_nil) (byte_c gr A0 _ _ n _ l false _ _ (hS.enter [1] [2] rfl rfl) hA (by omega) hcp hl hb) ?_
  rintro e w ⟨A1, c1, rfl, hS2, hA, hcp⟩
  refine ⟨_, rfl, ?_⟩
  replace hS := hS.turn 1 rfl rfl hS2 rfl
  clear hS2
  try replace hS := St.nm (M' := [.blk _ _ [_, _, _, _, _, _, _, _, _], _, .row _ _ _ _ _, .blk _ _ [_, _, _, _, _, _, _, _, _], .vw _ _]) hS rfl
  refine hK _ _ ?_; clear hK K
  refine wl_nil ?_
  refine then_n (hK7 _ _ ?_); clear hK7 K7
  refine wp_seq_k ?_; intro K8 hK8
  refine wlit ?_
  refine wl_v (x_move (tmP rfl rfl)) ?_
  refine wl_e rfl ?_; intro K hK
  refine ow_call Try.func29 rfl rfl (evs_cons (tmP rfl rfl) <| evs_cons (ev_cN 16) <| evs_nil) (bytes_c gr A0 A1 _ 16 n _ l false _ _ (hS.enter [1] [2] rfl rfl) hA (by omega) hcp) ?_
  rintro e w ⟨A2, c2, rfl, hS2, hA2, hcp2⟩
  refine ⟨_, rfl, ?_⟩
  replace hS := hS.turn 1 rfl rfl hS2 rfl
  clear hS2
  try replace hS := St.nm (M' := [.blk _ _ [_, _, _, _, _, _, _, _, _], _, .row _ _ _ _ _, .blk _ _ [_, _, _, _, _, _, _, _, _], .vw _ _]) hS rfl
  refine hK _ _ ?_; clear hK K
  refine wl_e rfl ?_; intro K hK
  refine ow_call Try.func31 rfl rfl (evs_cons (tmS rfl rfl) <| evs_nil) (ad_of16_c A1 _ _ _ (by have h := (NewV.offb (hS.newv 2 rfl) hl hA 16).1; exact h) (by rw [List.length_take, List.length_drop]; omega) ((hb.drop _).take 16)) ?_
  rintro e w ⟨rfl, hk⟩
  refine ⟨_, rfl, ?_⟩
  replace hS := hS.kept hk
  clear hk
  refine hK _ _ ?_; clear hK K
  refine wl_v (x_move (tmT rfl rfl)) ?_
  refine wl_v (x_ext (tmT rfl rfl) rfl) ?_
  refine wl_v (x_ext (tmT rfl rfl) rfl) ?_
  refine wl_v (x_fa 0 Try.underlying29 rfl rfl ts_26 (tmP rfl rfl)) ?_
  refine wl_e rfl ?_; intro K hK
  refine ow_storeA hS 0 rfl ts_26 (tmP rfl rfl) (tmA rfl rfl) rfl rfl rfl ?_
  clear hS; intro w hS
  try replace hS := St.nm (M' := [.blk _ _ [_, _, _, _, _, _, _, _, _], _, .row _ _ _ _ _, .blk _ _ [_, _, _, _, _, _, _, _, _], .vw _ _]) hS rfl
  refine hK _ _ ?_; clear hK K
  refine wl_nil ?_
  refine then_n (hK8 _ _ ?_); clear hK8 K8
  refine wp_seq_k ?_; intro K9 hK9
  refine wlit ?_
  refine wl_v (x_move (tmP rfl rfl)) ?_
  refine wl_e rfl ?_; intro K hK
  refine ow_call Try.func29 rfl rfl (evs_cons (tmP rfl rfl) <| evs_cons (ev_cN 16) <| evs_nil) (bytes_c gr A0 A2 _ 16 n _ l false _ _ (hS.enter [1] [2] rfl rfl) hA2 (by omega) hcp2) ?_
  rintro e w ⟨A3, c3, rfl, hS2, hA3, hcp3⟩
  refine ⟨_, rfl, ?_⟩
  replace hS := hS.turn 1 rfl rfl hS2 rfl
  clear hS2
  try replace hS := St.nm (M' := [.blk _ _ [_, _, _, _, _, _, _, _, _], _, .row _ _ _ _ _, .blk _ _ [_, _, _, _, _, _, _, _, _], .vw _ _]) hS rfl
  refine hK _ _ ?_; clear hK K
  refine wl_e rfl ?_; intro K hK
  refine ow_call Try.func31 rfl rfl (evs_cons (tmS rfl rfl) <| evs_nil) (ad_of16_c A2 _ _ _ (by have h := (NewV.offb (hS.newv 2 rfl) hl hA2 16).1; exact h) (by rw [List.length_take, List.length_drop]; omega) ((hb.drop _).take 16)) ?_
  rintro e w ⟨rfl, hk⟩
  refine ⟨_, rfl, ?_⟩
  replace hS := hS.kept hk
  clear hk
  refine hK _ _ ?_; clear hK K
  refine wl_v (x_move (tmT rfl rfl)) ?_
  refine wl_v (x_ext (tmT rfl rfl) rfl) ?_
  refine wl_v (x_ext (tmT rfl rfl) rfl) ?_
  refine wl_v (x_fa 3 Try.underlying29 rfl rfl ts_26 (tmP rfl rfl)) ?_
  refine wl_e rfl ?_; intro K hK
  refine ow_storeA hS 0 rfl ts_26 (tmP rfl rfl) (tmA rfl rfl) rfl rfl rfl ?_
  clear hS; intro w hS
  try replace hS := St.nm (M' := [.blk _ _ [_, _, _, _, _, _, _, _, _], _, .row _ _ _ _ _, .blk _ _ [_, _, _, _, _, _, _, _, _], .vw _ _]) hS rfl
  refine hK _ _ ?_; clear hK K
  refine wl_nil ?_
  refine then_n (hK9 _ _ ?_); clear hK9 K9
  refine wp_seq_k ?_; intro K10 hK10
  replace hS := hS.pick [3, 0, 1, 2] rfl rfl
  try replace hS := St.nm (M' := [.blk _ _ [_, _, _, _, _, _, _, _, _], .blk _ _ [_, _, _, _, _, _, _, _, _], _, .row _ _ _ _ _]) hS rfl
  refine rg_startk 1 hS mixed_ ?_
  clear hS; intro w hS
  refine rg_take 0 rfl rfl (by kernel_rfl) (by kernel_rfl) (by kernel_rfl) (want_0) (fun w hok => x_loadA (cs := [_, _, _, _, _, _, _, _, _]) Try.underlying29 rfl ts_29 (tmP rfl rfl) (rangeB hok 0 rfl rfl)) ?_
  refine rg_take 1 rfl rfl (by kernel_rfl) (by kernel_rfl) (by kernel_rfl) (want_0) (fun w hok => x_move (tmS rfl rfl)) ?_
  refine rg_take 2 rfl rfl (by kernel_rfl) (by kernel_rfl) (by kernel_rfl) (want_0) (fun w hok => x_sliceL Try.underlying22 ts_5 (tmS rfl rfl) (ev_cN 40) (by omega)) ?_
  refine rg_step 3 rfl (by kernel_rfl) (want_0) (oks_drop hS 1 rfl) ?_; intro K hK
  refine ow_storeA hS 0 rfl ts_29 (tmP rfl rfl) (tmA rfl rfl) rfl rfl rfl ?_
  clear hS; intro w hS
  try replace hS := St.nm (M' := [.blk _ _ [_, _, _, _, _, _, _, _, _], .blk _ _ [_, _, _, _, _, _, _, _, _], _, .row _ _ _ _ _]) hS rfl
  refine hK _ _ ?_; clear hK K
  refine rg_take 4 rfl rfl (by kernel_rfl) (by kernel_rfl) (by kernel_rfl) (want_0) (fun w hok => x_assign (tmS rfl rfl)) ?_
  refine rg_take 5 rfl rfl (by kernel_rfl) (by kernel_rfl) (by kernel_rfl) (want_0) (fun w hok => x_assign ev_c) ?_
  refine rg_done (oks_drop hS 1 rfl) (by kernel_rfl) ?_
  refine then_n (hK10 _ _ ?_); clear hK10 K10
  refine wp_ret ?_
  refine ret3 rfl (.cell rfl rfl (load_rowB (cs := [_, _, _, _, _, _, _, _, _]) hS.ok 0 rfl Try.underlying29 rfl ts_29 rfl)) (.tmp rfl (show _ = Value.slice _ _ _ from rfl)) (.tmp rfl (show _ = Value.bool _ from rfl)) ?_
  refine ⟨?_, hS.kp⟩
  rw [← e6]
  have x1 : getN ((l.drop (0 + 6 + 1 + 1)).take 16) 0 8 = getN l 8 8 := by unfold getN; rw [List.drop_zero, List.take_take]; rfl
  have x2 : getN ((l.drop (0 + 6 + 1 + 1)).take 16) 8 8 = getN l 16 8 := by unfold getN; rw [List.drop_take, List.drop_drop, List.take_take]; rfl
  have x3 : getN ((l.drop (0 + 6 + 1 + 1 + 16)).take 16) 0 8 = getN l 24 8 := by unfold getN; rw [List.drop_zero, List.take_take]; rfl
  have x4 : getN ((l.drop (0 + 6 + 1 + 1 + 16)).take 16) 8 8 = getN l 32 8 := by unfold getN; rw [List.drop_take, List.drop_drop, List.take_take]; rfl
  rw [x1, x2, x3, x4]
  rfl
set_option maxRecDepth 100000 in
set_option maxHeartbeats 8000000 in
theorem header6_bad (l : List Nat) (hb : Bytes l) (hn : l.length ≤ 3000) (h : ¬ Hd6 l) : HdN 13 l := fun w0 A c hv hc => by
  obtain ⟨n, hl⟩ : ∃ n, l.length = n := ⟨_, rfl⟩
  have hqb : l.getD 0 0 < 256 := nth_lt hb 0
  have h0 : ¬ (48 ≤ n ∧ l.getD 0 0 / 16 = 6) := fun ⟨x1, x2⟩ => h ⟨by omega, x2⟩
  rw [hl] at hc ⊢
  have hS := (St.sv w0).vcons rfl hv
  refine ent (n := 44) Try.func13 rfl rfl ?_
  refine wp_seq_k ?_; intro K1 hK1
  refine wlit ?_
  refine wl_e rfl ?_; intro K hK
  refine ow_alloc hS tz_29 rfl ?_
  clear hS; intro g0_0 w hg0_0 hS
  refine hK _ _ ?_; clear hK K
  refine wl_v (x_assign ev_c) ?_
  refine wl_v (x_assign ev_c) ?_
  refine wl_nil ?_
  refine then_n (hK1 _ _ ?_); clear hK1 K1
  refine wp_seq_k ?_; intro K2 hK2
  refine wp_seq_k ?_; intro K3 hK3
  refine wlit ?_
  refine wl_v (x_move (tmS rfl rfl)) ?_
  refine wl_v (x_len Try.underlying22 (tmS rfl rfl)) ?_
  refine wl_v (x_lss (tmI rfl rfl) (ev_cN 48)) ?_
  refine wl_v (x_move (tmB rfl rfl)) ?_
  refine gs_wl (tm (t := 10) rfl) (fun hg1_3 => ?_) (fun hg1_3 => ?_)
  · have hg1_3' := hg1_3; (try simp only [nrm] at hg1_3')
    refine wl_s rfl (want_n rfl rfl rfl rfl (by rw [hg1_3]; rfl)) ?_
    refine wl_s rfl (want_n rfl rfl rfl rfl (by rw [hg1_3]; rfl)) ?_
    refine wl_s rfl (want_n rfl rfl rfl rfl (by rw [hg1_3]; rfl)) ?_
    refine wl_s rfl (want_n rfl rfl rfl rfl (by rw [hg1_3]; rfl)) ?_
    refine wl_s rfl (want_n rfl rfl rfl rfl (by rw [hg1_3]; rfl)) ?_
    refine wl_v (x_pickT (tmB rfl rfl) hg1_3 ev_c) ?_
    refine wl_nil ?_
    refine then_n (hK3 _ _ ?_); clear hK3 K3
    refine cnd_t (tmB rfl rfl) rfl ?_
    refine wp_seq_k ?_; intro K4 hK4
    refine wlit ?_
    refine wl_v (x_build (bc_skipL [.bool false, .int .u64 0, .int .u64 0] <| bc_skipL [.bool false, .int .u64 0, .int .u64 0] <| bc_skip (.int .u16 0) <| bc_skip (.int .u16 0) <| bc_skip (.int .u8 0) <| bc_nil) (by kernel_rfl)) ?_
    refine wl_e rfl ?_; intro K hK
    refine ow_storeA hS 0 rfl ts_29 (tmP rfl rfl) (tmA rfl rfl) rfl rfl rfl ?_
    clear hS; intro w hS
    try replace hS := St.nm (M' := [.blk _ _ [_, _, _, _, _, _, _, _, _], .vw _ _]) hS rfl
    refine hK _ _ ?_; clear hK K
    refine wl_v (x_assign ev_c) ?_
    refine wl_v (x_assign ev_c) ?_
    refine wl_nil ?_
    refine then_n (hK4 _ _ ?_); clear hK4 K4
    refine wp_ret ?_
    refine then_r ?_
    refine ret3 rfl (.cell rfl rfl (load_rowB (cs := [_, _, _, _, _, _, _, _, _]) hS.ok 0 rfl Try.underlying29 rfl ts_29 rfl)) (.tmp rfl (show _ = Value.slice _ _ _ from rfl)) (.tmp rfl (show _ = Value.bool _ from rfl)) ?_
    exact ⟨rfl, hS.kp⟩
  have hg1_3' := hg1_3; (try simp only [nrm] at hg1_3')
  obtain ⟨b4, o4, rfl⟩ := view_some hv (by rw [List.length_map]; first | omega | (simp at hg1_3; omega))
  refine wl_gv (want_y rfl rfl rfl rfl (by rw [hg1_3]; rfl)) (x_move (tmS rfl rfl)) ?_
  refine wl_gv (want_y rfl rfl rfl rfl (by rw [hg1_3]; rfl)) (x_ixs1 Try.underlying22 ts_5 (tmS rfl rfl) (ev_cN 0) (by omega)) ?_
  refine wl_gv (want_y rfl rfl rfl rfl (by rw [hg1_3]; rfl)) (x_load Try.underlying5 rfl (tmP rfl rfl) (cellV hS.ok 1 rfl (getm (by omega)))) ?_
  refine wl_gv (want_y rfl rfl rfl rfl (by rw [hg1_3]; rfl)) (x_shrN (tmI rfl rfl) (ev_cN 4) (fit_u8 (by omega))) ?_
  refine wl_gv (want_y rfl rfl rfl rfl (by rw [hg1_3]; rfl)) (x_neq (tmI rfl rfl) (ev_cN 6)) ?_
  refine wl_v (x_pickF (tmB rfl rfl) hg1_3 (tmB rfl rfl)) ?_
  refine wl_nil ?_
  refine then_n (hK3 _ _ ?_); clear hK3 K3
  refine cnds (tm rfl) (fun hc0 => ?_) (fun hc0 => ?_)
  · exfalso
    first | omega | (simp at hc0; omega) | (simp only [nrm] at hc0; omega)
  try simp only [nrm] at hc0
  refine wp_seq_k ?_; intro K6 hK6
  refine wlit ?_
  refine wl_v (x_build (bc_skipL [.bool false, .int .u64 0, .int .u64 0] <| bc_skipL [.bool false, .int .u64 0, .int .u64 0] <| bc_skip (.int .u16 0) <| bc_skip (.int .u16 0) <| bc_skip (.int .u8 0) <| bc_nil) (by kernel_rfl)) ?_
  refine wl_e rfl ?_; intro K hK
  refine ow_storeA hS 0 rfl ts_29 (tmP rfl rfl) (tmA rfl rfl) rfl rfl rfl ?_
  clear hS; intro w hS
  try replace hS := St.nm (M' := [.blk _ _ [_, _, _, _, _, _, _, _, _], .vw _ _]) hS rfl
  refine hK _ _ ?_; clear hK K
  refine wl_v (x_assign ev_c) ?_
  refine wl_v (x_assign ev_c) ?_
  refine wl_nil ?_
  refine then_n (hK6 _ _ ?_); clear hK6 K6
  refine wp_ret ?_
  refine then_r ?_
  refine ret3 rfl (.cell rfl rfl (load_rowB (cs := [_, _, _, _, _, _, _, _, _]) hS.ok 0 rfl Try.underlying29 rfl ts_29 rfl)) (.tmp rfl (show _ = Value.slice _ _ _ from rfl)) (.tmp rfl (show _ = Value.bool _ from rfl)) ?_
  exact ⟨rfl, hS.kp⟩
end Go.Proofs.Ytcobjneobdihkaa
