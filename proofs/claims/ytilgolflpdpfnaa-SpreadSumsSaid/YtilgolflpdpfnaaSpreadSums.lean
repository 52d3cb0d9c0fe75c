
/- Proved: SpreadSums returns true for every key, bytes and flow, and changes no memory that was there. Conditions: none. -/
import Derived.Test.YtilgolflpdpfnaaSpreadS
namespace Go.Proofs.Ytilgolflpdpfnaa
open Go.ChangeShapes Go.WideShapes Go.ChangeAt Go.RowKit
structure GFlow where
  src : Ad
  dst : Ad
  srcPort : Nat
  dstPort : Nat
  proto : Nat
def GFlow.V (s : GFlow) : List Value := [.bool s.src.six, .int .u64 (s.src.high : Int), .int .u64 (s.src.low : Int), .bool s.dst.six, .int .u64 (s.dst.high : Int), .int .u64 (s.dst.low : Int), .int .u16 (s.srcPort : Int), .int .u16 (s.dstPort : Int), .int .u8 (s.proto : Int)]
theorem GFlow.len (s : GFlow) : s.V.length = 9 := rfl
def GFlow.ok (w : World) (s : GFlow) : Prop := s.src.ok w ∧ s.dst.ok w ∧ s.srcPort < 65536 ∧ s.dstPort < 65536 ∧ s.proto < 256
instance : Inhabited GFlow := ⟨⟨default, default, 0, 0, 0⟩⟩
set_option maxRecDepth 100000 in
theorem GFlow.open_t {H : Type} {enc : TypeId × Value → H} {w : World} {fuel : Nat} {cs : List Value} {x : DataW H × List MemPlace} (hf : DataW.trod enc Try.prog w 0 (fun _ => true) true fuel 107 cs = some x) (hlt : ∀ p ∈ x.2, p.block < w.heap.size) : ∃ s : GFlow, cs = s.V ∧ s.ok w := by
  have hC : Try.prog.cellsOf 107 = 9 := by kernel_rfl
  have hl := (DataW.trod_struct Try.underlying107 hf).choose_spec.choose_spec.2.2.1
  rw [hC] at hl
  obtain ⟨y0, k0, t0, b0⟩ := field_t Try.underlying107 hf hlt 0 _ rfl
  have hC0 : Try.prog.cellsOf 26 = 3 := by kernel_rfl
  obtain ⟨s0, e0, o0⟩ := Ad.open_t t0 b0
  have d0 := split_drop cs 0 3 (hC0 ▸ e0)
  obtain ⟨y1, k1, t1, b1⟩ := field_t Try.underlying107 hf hlt 1 _ rfl
  have hC1 : Try.prog.cellsOf 26 = 3 := by kernel_rfl
  obtain ⟨s1, e1, o1⟩ := Ad.open_t t1 b1
  have d1 := split_drop cs 3 3 (hC1 ▸ e1)
  obtain ⟨y2, k2, t2, b2⟩ := field_t Try.underlying107 hf hlt 2 _ rfl
  have hC2 : Try.prog.cellsOf 40 = 1 := by kernel_rfl
  obtain ⟨s2, e2, o2⟩ := t_u16 Try.underlying40 t2 b2
  have d2 := split_drop cs 6 1 (hC2 ▸ e2)
  obtain ⟨y3, k3, t3, b3⟩ := field_t Try.underlying107 hf hlt 3 _ rfl
  have hC3 : Try.prog.cellsOf 40 = 1 := by kernel_rfl
  obtain ⟨s3, e3, o3⟩ := t_u16 Try.underlying40 t3 b3
  have d3 := split_drop cs 7 1 (hC3 ▸ e3)
  obtain ⟨y4, k4, t4, b4⟩ := field_t Try.underlying107 hf hlt 4 _ rfl
  have hC4 : Try.prog.cellsOf 5 = 1 := by kernel_rfl
  obtain ⟨s4, e4, o4⟩ := t_u8 Try.underlying5 t4 b4
  have d4 := split_drop cs 8 1 (hC4 ▸ e4)
  refine ⟨⟨s0, s1, s2, s3, s4⟩, ?_, ⟨o0, o1, o2, o3, o4⟩⟩
  have dn : cs.drop 9 = [] := List.drop_eq_nil_of_le (by omega)
  rw [← List.drop_zero (l := cs)]
  refine d0.trans ?_
  rw [show cs.drop (0 + 3) = _ from d1]
  rw [show cs.drop (3 + 3) = _ from d2]
  rw [show cs.drop (6 + 1) = _ from d3]
  rw [show cs.drop (7 + 1) = _ from d4]
  rw [show cs.drop (8 + 1) = [] from dn]
  rfl
set_option maxRecDepth 100000 in
theorem GFlow.open_a {H : Type} {enc : TypeId × Value → H} {w : World} {r : Reach} {b0 : Nat} {v : Value} {d : DataW H} {ps : List MemPlace} (hval : Value.okWide Try.prog w r b0 107 v) (hd : DataW.Trod enc Try.prog w 0 (fun _ => true) true 107 v d ps) (hlt : ∀ p ∈ ps, p.block < w.heap.size) : ∃ s : GFlow, v = .agg s.V.toArray ∧ s.ok w := by
  obtain ⟨cs, rfl, _⟩ := okWide_struct Try.underlying107 hval
  obtain ⟨fuel, hf⟩ := hd
  obtain ⟨s, e, h⟩ := GFlow.open_t hf hlt
  exact ⟨s, by rw [← e]; simp [Value.cells], h⟩
namespace SpreadSums
set_option maxRecDepth 100000 in
set_option maxHeartbeats 4000000 in
theorem rkey_c (s d : Ad) (sp dp pr : Nat) (w0 : World) (h1 : adLim s) (h2 : adLim d) (q1 : sp < 65536) (q2 : dp < 65536) (q3 : pr < 256) :
    Calls Try.prog 68 #[.agg (flV s d sp dp pr).toArray] w0 fun e w' => ∃ A n c, n = flN s d ∧ e = .returned (.slice A n c) ∧ New w0 w' (.row (.slice A n c) 5 1 n ((flB s d sp dp pr).map u8v)) ∧ Kp [] w0 w' := by
  have hS := St.sv w0
  have l1 := adN_le s
  have l2 := adN_le d
  have hjo : ∀ A1 c1 A2 c2 A3 c3 A4 c4 A5 c5, joined [(A1, adB s, c1), (A2, adB d, c2), (A3, be sp 2, c3), (A4, be dp 2, c4), (A5, be pr 1, c5)] = flB s d sp dp pr := by
    intros
    simp [joined, flB]
  have hfl := flB_len s d sp dp pr
  have hfn : flN s d ≤ 37 := by unfold flN; omega
  have hsl := adB_len s
  have hdl := adB_len d
  refine ent (n := 23) Try.func68 rfl rfl ?_
  refine wp_seq_k ?_; intro K1 hK1
  refine wlit ?_
  refine wl_e rfl ?_; intro K hK
  refine ow_box hS (tmA rfl rfl) rfl ?_
  clear hS; intro g0_0 w hg0_0 hS
  refine hK _ _ ?_; clear hK K
  refine wl_v (x_assign ev_c) ?_
  refine wl_nil ?_
  refine then_n (hK1 _ _ ?_); clear hK1 K1
  refine wp_seq_k ?_; intro K2 hK2
  refine rg_startk 0 hS mixed_ ?_
  clear hS; intro w hS
  refine rg_take 0 rfl rfl (by kernel_rfl) (by kernel_rfl) (by kernel_rfl) (want_0) (fun w hok => x_fa 0 Try.underlying107 rfl rfl ts_26 (tmP rfl rfl)) ?_
  refine rg_take 1 rfl rfl (by kernel_rfl) (by kernel_rfl) (by kernel_rfl) (want_0) (fun w hok => x_loadA (cs := [_, _, _]) Try.underlying26 rfl ts_26 (tmP rfl rfl) (rangeB hok 0 rfl rfl)) ?_
  refine rg_take 3 rfl rfl (by kernel_rfl) (by kernel_rfl) (by kernel_rfl) (want_0) (fun w hok => x_fa 3 Try.underlying107 rfl rfl ts_26 (tmP rfl rfl)) ?_
  refine rg_take 4 rfl rfl (by kernel_rfl) (by kernel_rfl) (by kernel_rfl) (want_0) (fun w hok => x_loadA (cs := [_, _, _]) Try.underlying26 rfl ts_26 (tmP rfl rfl) (rangeB hok 0 rfl rfl)) ?_
  refine rg_take 6 rfl rfl (by kernel_rfl) (by kernel_rfl) (by kernel_rfl) (want_0) (fun w hok => x_fa 6 Try.underlying107 rfl rfl ts_40 (tmP rfl rfl)) ?_
  first
   | refine rg_take 7 rfl rfl (by kernel_rfl) (by kernel_rfl) (by kernel_rfl) (want_0) (fun w hok => x_load Try.underlying40 rfl (tmP rfl rfl) (cellB hok 0 rfl rfl)) ?_
   | refine rg_take 7 rfl rfl (by kernel_rfl) (by kernel_rfl) (by kernel_rfl) (want_0) (fun w hok => x_load Try.underlying40 rfl (tmP rfl rfl) (cellB hok 0 rfl (getm (by omega)))) ?_
  first
   | refine rg_take 8 rfl rfl (by kernel_rfl) (by kernel_rfl) (by kernel_rfl) (want_0) (fun w hok => x_convN Try.underlying40 Try.underlying24 (tmI rfl rfl) (fit_u64 (by omega))) ?_
   | refine rg_take 8 rfl rfl (by kernel_rfl) (by kernel_rfl) (by kernel_rfl) (want_0) (fun w hok => x_convU Try.underlying40 Try.underlying24 (tmI rfl rfl) rfl) ?_
   | refine rg_take 8 rfl rfl (by kernel_rfl) (by kernel_rfl) (by kernel_rfl) (want_0) (fun w hok => x_conv Try.underlying40 Try.underlying24 (tmI rfl rfl)) ?_
  refine rg_take 10 rfl rfl (by kernel_rfl) (by kernel_rfl) (by kernel_rfl) (want_0) (fun w hok => x_fa 7 Try.underlying107 rfl rfl ts_40 (tmP rfl rfl)) ?_
  first
   | refine rg_take 11 rfl rfl (by kernel_rfl) (by kernel_rfl) (by kernel_rfl) (want_0) (fun w hok => x_load Try.underlying40 rfl (tmP rfl rfl) (cellB hok 0 rfl rfl)) ?_
   | refine rg_take 11 rfl rfl (by kernel_rfl) (by kernel_rfl) (by kernel_rfl) (want_0) (fun w hok => x_load Try.underlying40 rfl (tmP rfl rfl) (cellB hok 0 rfl (getm (by omega)))) ?_
  first
   | refine rg_take 12 rfl rfl (by kernel_rfl) (by kernel_rfl) (by kernel_rfl) (want_0) (fun w hok => x_convN Try.underlying40 Try.underlying24 (tmI rfl rfl) (fit_u64 (by omega))) ?_
   | refine rg_take 12 rfl rfl (by kernel_rfl) (by kernel_rfl) (by kernel_rfl) (want_0) (fun w hok => x_convU Try.underlying40 Try.underlying24 (tmI rfl rfl) rfl) ?_
   | refine rg_take 12 rfl rfl (by kernel_rfl) (by kernel_rfl) (by kernel_rfl) (want_0) (fun w hok => x_conv Try.underlying40 Try.underlying24 (tmI rfl rfl)) ?_
  refine rg_take 14 rfl rfl (by kernel_rfl) (by kernel_rfl) (by kernel_rfl) (want_0) (fun w hok => x_fa 8 Try.underlying107 rfl rfl ts_5 (tmP rfl rfl)) ?_
  first
   | refine rg_take 15 rfl rfl (by kernel_rfl) (by kernel_rfl) (by kernel_rfl) (want_0) (fun w hok => x_load Try.underlying5 rfl (tmP rfl rfl) (cellB hok 0 rfl rfl)) ?_
   | refine rg_take 15 rfl rfl (by kernel_rfl) (by kernel_rfl) (by kernel_rfl) (want_0) (fun w hok => x_load Try.underlying5 rfl (tmP rfl rfl) (cellB hok 0 rfl (getm (by omega)))) ?_
  first
   | refine rg_take 16 rfl rfl (by kernel_rfl) (by kernel_rfl) (by kernel_rfl) (want_0) (fun w hok => x_convN Try.underlying5 Try.underlying24 (tmI rfl rfl) (fit_u64 (by omega))) ?_
   | refine rg_take 16 rfl rfl (by kernel_rfl) (by kernel_rfl) (by kernel_rfl) (want_0) (fun w hok => x_convU Try.underlying5 Try.underlying24 (tmI rfl rfl) rfl) ?_
   | refine rg_take 16 rfl rfl (by kernel_rfl) (by kernel_rfl) (by kernel_rfl) (want_0) (fun w hok => x_conv Try.underlying5 Try.underlying24 (tmI rfl rfl)) ?_
  refine rg_step 2 rfl (by kernel_rfl) (want_0) (oks_drop hS 0 rfl) ?_; intro K hK
  refine ow_call Try.func121 rfl rfl (evs_cons (tmA rfl rfl) <| evs_nil) (rad_bytes_c s _ h1) ?_
  rintro e w ⟨A1, n1, c1, hn1, rfl, hn, hk⟩
  refine ⟨_, rfl, ?_⟩
  replace hS := hS.add hk hn -- +rowa
  clear hn hk
  refine hK _ _ ?_; clear hK K
  refine rg_step 5 rfl (by kernel_rfl) (want_0) (oks_drop hS 1 rfl) ?_; intro K hK
  refine ow_call Try.func121 rfl rfl (evs_cons (tmA rfl rfl) <| evs_nil) (rad_bytes_c d _ h2) ?_
  rintro e w ⟨A2, n2, c2, hn2, rfl, hn, hk⟩
  refine ⟨_, rfl, ?_⟩
  replace hS := hS.add hk hn -- +rowb
  clear hn hk
  refine hK _ _ ?_; clear hK K
  refine rg_step 9 rfl (by kernel_rfl) (want_0) (oks_drop hS 2 rfl) ?_; intro K hK
  refine ow_call Try.func106 rfl rfl (evs_cons (tmI rfl rfl) <| evs_cons (ev_cN 2) <| evs_nil) (rbytes_c sp 2 _ (by omega) (by omega)) ?_
  rintro e w ⟨g3, rfl, hn, hk⟩
  refine ⟨_, rfl, ?_⟩
  replace hS := hS.add hk hn -- +rowc
  clear hn hk
  refine hK _ _ ?_; clear hK K
  refine rg_step 13 rfl (by kernel_rfl) (want_0) (oks_drop hS 3 rfl) ?_; intro K hK
  refine ow_call Try.func106 rfl rfl (evs_cons (tmI rfl rfl) <| evs_cons (ev_cN 2) <| evs_nil) (rbytes_c dp 2 _ (by omega) (by omega)) ?_
  rintro e w ⟨g4, rfl, hn, hk⟩
  refine ⟨_, rfl, ?_⟩
  replace hS := hS.add hk hn -- +rowd
  clear hn hk
  refine hK _ _ ?_; clear hK K
  refine rg_step 17 rfl (by kernel_rfl) (want_0) (oks_drop hS 4 rfl) ?_; intro K hK
  refine ow_call Try.func106 rfl rfl (evs_cons (tmI rfl rfl) <| evs_cons (ev_cN 1) <| evs_nil) (rbytes_c pr 1 _ (by omega) (by omega)) ?_
  rintro e w ⟨g5, rfl, hn, hk⟩
  refine ⟨_, rfl, ?_⟩
  replace hS := hS.add hk hn -- +rowe
  clear hn hk
  refine hK _ _ ?_; clear hK K
  refine rg_step 18 rfl (by kernel_rfl) (want_0) (oks_drop hS 5 rfl) ?_; intro K hK
  refine ow_build hS Try.underlying158 tz_22 (bc_take (tmS rfl rfl) <| bc_take (tmS rfl rfl) <| bc_take (tmS rfl rfl) <| bc_take (tmS rfl rfl) <| bc_take (tmS rfl rfl) <| bc_nil) rfl rfl (by kernel_rfl) ?_
  clear hS; intro g1_18 w hg1_18 hS
  refine hK _ _ ?_; clear hK K
  refine rg_step 19 rfl (by kernel_rfl) (want_0) (oks_drop hS 6 rfl) ?_; intro K hK
  refine ow_call Try.func96 rfl rfl (evs_cons (tmS rfl rfl) <| evs_nil) (join_c 5 _ _ [(A1, adB s, c1), (A2, adB d, c2), (some ⟨g3, 0, none⟩, be sp 2, 2), (some ⟨g4, 0, none⟩, be dp 2, 2), (some ⟨g5, 0, none⟩, be pr 1, 1)] _ (by have h := viewB hS.ok 0 rfl; simp only [List.map_cons, List.map_nil, rowV, be_length, hsl, hdl, ← hn1, ← hn2]; exact h) (seen_cons (viewR hS.ok 5 rfl) <| seen_cons (viewR hS.ok 4 rfl) <| seen_cons (viewR hS.ok 3 rfl) <| seen_cons (viewR hS.ok 2 rfl) <| seen_cons (viewR hS.ok 1 rfl) seen_nil) rfl (by omega) (by rw [hjo, hfl]; omega)) ?_
  rintro e w ⟨Aj, mj, cj, hmj, rfl, hn, hk⟩
  refine ⟨_, rfl, ?_⟩
  rw [hjo] at hn hmj
  rw [hfl] at hmj
  replace hS := hS.add hk hn -- +rowj
  clear hn hk
  refine hK _ _ ?_; clear hK K
  refine rg_take 20 rfl rfl (by kernel_rfl) (by kernel_rfl) (by kernel_rfl) (want_0) (fun w hok => x_assign (tmS rfl rfl)) ?_
  refine rg_done (oks_drop hS 7 rfl) (by kernel_rfl) ?_
  refine then_n (hK2 _ _ ?_); clear hK2 K2
  refine wp_ret ?_
  refine ret1 rfl (.tmp rfl (show _ = Value.slice _ _ _ from rfl)) ?_
  exact ⟨_, _, _, hmj, rfl, hS.new 0 rfl rfl, hS.kp⟩
set_option maxRecDepth 100000 in
set_option maxHeartbeats 4000000 in
theorem flow_c (n : Nat) (A : Option Addr) (c : Nat) (l : List Nat) (s d : Ad) (sp dp pr : Nat) (w0 : World) (hv : View w0 w0.heap.size A (l.map u8v)) (hl : l.length = n) (hb : Bytes l) (hn4 : n ≤ 1000000) (h1 : adLim s) (h2 : adLim d) (q1 : sp < 65536) (q2 : dp < 65536) (q3 : pr < 256) :
    Calls Try.prog 69 #[.slice A n c, .agg (flV s d sp dp pr).toArray] w0 fun e w' => e = .returned (.int .u32 (sumF l ((flB s d sp dp pr).take (flN s d - 1)) (8 * (flN s d - 1)) : Int)) ∧ Kp [] w0 w' := by
  have hS := (St.sv w0).vcons rfl hv
  have l1 := adN_le s
  have l2 := adN_le d
  have hfl := flB_len s d sp dp pr
  have hfn : 5 ≤ flN s d ∧ flN s d ≤ 37 := by unfold flN; omega
  have hfb := flB_bytes s d sp dp pr
  have htl : ((flB s d sp dp pr).take (flN s d - 1)).length = flN s d - 1 := by rw [List.length_take, hfl]; omega
  have hKy := fun w => key_c s d sp dp pr w h1 h2 q1 q2 q3
  generalize flN s d = N5 at *
  generalize flB s d sp dp pr = B5 at *
  refine ent (n := 15) Try.func69 rfl rfl ?_
  refine wp_seq_k ?_; intro K1 hK1
  refine wlit ?_
  refine wl_e rfl ?_; intro K hK
  refine ow_box hS (tmA rfl rfl) rfl ?_
  clear hS; intro g0_0 w hg0_0 hS
  refine hK _ _ ?_; clear hK K
  refine wl_v (x_assign (ev_cN 0)) ?_
  refine wl_nil ?_
  refine then_n (hK1 _ _ ?_); clear hK1 K1
  refine wp_seq_k ?_; intro K2 hK2
  refine wlit ?_
  refine wl_v (x_loadA (cs := [_, _, _, _, _, _, _, _, _]) Try.underlying107 rfl ts_107 (tmP rfl rfl) (rangeB hS.ok 0 rfl rfl)) ?_
  refine wl_e rfl ?_; intro K hK
  refine ow_call Try.func122 rfl rfl (evs_cons (tmA rfl rfl) <| evs_nil) (hKy _) ?_
  rintro e w ⟨g, n2, hn2, rfl, hn, hk⟩
  refine ⟨_, rfl, ?_⟩
  obtain rfl : N5 = n2 := hn2.symm
  replace hS := (hS.add hk hn).freeze 0 rfl -- +vf
  clear hn hk
  refine hK _ _ ?_; clear hK K
  refine wl_v (x_assign (tmS rfl rfl)) ?_
  refine wl_nil ?_
  refine then_n (hK2 _ _ ?_); clear hK2 K2
  refine wp_seq_k ?_; intro K3 hK3
  refine wlit ?_
  refine wl_v (x_move (tmS rfl rfl)) ?_
  refine wl_v (x_move (tmS rfl rfl)) ?_
  refine wl_v (x_move (tmS rfl rfl)) ?_
  refine wl_v (x_len Try.underlying22 (tmS rfl rfl)) ?_
  refine wl_v (x_subN (tmI rfl rfl) (ev_cN 1) (fit_i64 (by omega)) (by omega)) ?_
  refine wl_v (x_sliceH Try.underlying22 ts_5 (tmS rfl rfl) (tmI rfl rfl) (by omega)) ?_
  replace hS := hS.cutb 0 0 (N5 - 1) rfl (by omega : B5.length ≤ N5)
  refine wl_e rfl ?_; intro K hK
  refine ow_call Try.func66 rfl rfl (evs_cons (tmS rfl rfl) <| evs_cons (tmS rfl rfl) <| evs_nil) (spread_sum_c n A c l (N5 - 1) _ _ (B5.take (N5 - 1)) _ (viewV hS.ok 3 rfl) hl hb hn4 (viewV hS.ok 0 rfl) htl (hfb.take _) (by omega)) ?_
  rintro e w ⟨rfl, hk⟩
  refine ⟨_, rfl, ?_⟩
  replace hS := hS.kept hk
  clear hk
  refine hK _ _ ?_; clear hK K
  refine wl_v (x_assign (tmI rfl rfl)) ?_
  refine wl_nil ?_
  refine then_n (hK3 _ _ ?_); clear hK3 K3
  refine wp_ret ?_
  refine ret1 rfl (.tmp rfl (show _ = Value.int _ _ from rfl)) ?_
  exact ⟨rfl, hS.kp⟩
set_option maxRecDepth 100000 in
set_option maxHeartbeats 4000000 in
theorem walkC (n : Nat) (A : Option Addr) (c : Nat) (l : List Nat) (m : Nat) (A2 : Option Addr) (c2 : Nat) (b : List Nat) (s d : Ad) (sp dp pr : Nat) (w0 : World) (hv : View w0 w0.heap.size A (l.map u8v)) (hl : l.length = n) (hb : Bytes l) (hv2 : View w0 w0.heap.size A2 (b.map u8v)) (hl2 : b.length = m) (hb2 : Bytes b) (h1 : adLim s) (h2 : adLim d) (q1 : sp < 65536) (q2 : dp < 65536) (q3 : pr < 256) :
    Calls Try.prog 13 #[.slice A n c, .slice A2 m c2, .agg (flV s d sp dp pr).toArray] w0 fun e w' => e = .returned (.bool true) ∧ Below w0.heap.size w0 w' := by
  have hS := ((St.sv w0).vcons rfl hv2).vcons rfl hv
  by_cases hbig : 60 < n ∨ 100 < m
  · skip
    refine ent (n := 62) Try.func13 rfl rfl ?_
    refine wp_seq_k ?_; intro K1 hK1
    refine wlit ?_
    refine wl_e rfl ?_; intro K hK
    refine ow_box hS (tmA rfl rfl) rfl ?_
    clear hS; intro g0_0 w hg0_0 hS
    refine hK _ _ ?_; clear hK K
    refine wl_v (x_assign ev_c) ?_
    refine wl_nil ?_
    refine then_n (hK1 _ _ ?_); clear hK1 K1
    refine wp_seq_k ?_; intro K2 hK2
    refine wp_seq_k ?_; intro K3 hK3
    refine wlit ?_
    refine wl_v (x_move (tmS rfl rfl)) ?_
    refine wl_v (x_len Try.underlying22 (tmS rfl rfl)) ?_
    refine wl_v (x_gtr (tmI rfl rfl) (ev_cN 60)) ?_
    refine wl_v (x_move (tmB rfl rfl)) ?_
    refine gs_wl (tm (t := 11) rfl) (fun hg1_3 => ?_) (fun hg1_3 => ?_)
    · have hg1_3' := hg1_3; (try simp only [nrm] at hg1_3'); try (exfalso; first | with_reducible exact absurd hg1_3 Bool.false_ne_true | with_reducible exact absurd hg1_3.symm Bool.false_ne_true | omega | (simp at hg1_3; done))
      all_goals
       refine wl_s rfl (want_n rfl rfl rfl rfl (by rw [hg1_3]; rfl)) ?_
       refine wl_s rfl (want_n rfl rfl rfl rfl (by rw [hg1_3]; rfl)) ?_
       refine wl_s rfl (want_n rfl rfl rfl rfl (by rw [hg1_3]; rfl)) ?_
       refine wl_v (x_pickT (tmB rfl rfl) hg1_3 ev_c) ?_
       refine wl_nil ?_
       refine then_n (hK3 _ _ ?_); clear hK3 K3
       refine cnd_t (tmB rfl rfl) rfl ?_
       refine wp_seq_k ?_; intro K4 hK4
       refine wlit ?_
       refine wl_e rfl ?_; intro K hK
       refine ow_call Try.func64 rfl rfl (evs_nil) (law41_awake_c _) ?_
       rintro e w ⟨rfl, hk⟩
       refine ⟨_, rfl, ?_⟩
       replace hS := hS.kept hk
       clear hk
       refine hK _ _ ?_; clear hK K
       refine wl_v (x_assign (tmB rfl rfl)) ?_
       refine wl_nil ?_
       refine then_n (hK4 _ _ ?_); clear hK4 K4
       refine wp_ret ?_
       refine then_r ?_
       refine ret1 rfl (.tmp rfl (show _ = Value.bool _ from rfl)) ?_
       exact ⟨rfl, hS.kp.below⟩
    have hg1_3' := hg1_3; (try simp only [nrm] at hg1_3'); try (exfalso; first | with_reducible exact absurd hg1_3 Bool.false_ne_true | with_reducible exact absurd hg1_3.symm Bool.false_ne_true | omega | (simp at hg1_3; done))
    all_goals
     refine wl_gv (want_y rfl rfl rfl rfl (by rw [hg1_3]; rfl)) (x_move (tmS rfl rfl)) ?_
     refine wl_gv (want_y rfl rfl rfl rfl (by rw [hg1_3]; rfl)) (x_len Try.underlying22 (tmS rfl rfl)) ?_
     refine wl_gv (want_y rfl rfl rfl rfl (by rw [hg1_3]; rfl)) (x_gtr (tmI rfl rfl) (ev_cN 100)) ?_
     refine wl_v (x_pickF (tmB rfl rfl) hg1_3 (tmB rfl rfl)) ?_
     refine wl_nil ?_
     refine then_n (hK3 _ _ ?_); clear hK3 K3
     refine cnds (tm rfl) (fun hc0 => ?_) (fun hc0 => ?_)
     · exfalso
       simp only [nrm] at hc0
       omega
     try (exfalso; first | with_reducible exact absurd hc0 Bool.false_ne_true | with_reducible exact absurd hc0.symm Bool.false_ne_true | (simp only [nrm] at hc0; omega) | (simp at hc0; done))
     all_goals
      try simp only [nrm] at hc0
      refine wp_seq_k ?_; intro K5 hK5
      refine wlit ?_
      refine wl_e rfl ?_; intro K hK
      refine ow_call Try.func64 rfl rfl (evs_nil) (law41_awake_c _) ?_
      rintro e w ⟨rfl, hk⟩
      refine ⟨_, rfl, ?_⟩
      replace hS := hS.kept hk
      clear hk
      refine hK _ _ ?_; clear hK K
      refine wl_v (x_assign (tmB rfl rfl)) ?_
      refine wl_nil ?_
      refine then_n (hK5 _ _ ?_); clear hK5 K5
      refine wp_ret ?_
      refine then_r ?_
      refine ret1 rfl (.tmp rfl (show _ = Value.bool _ from rfl)) ?_
      exact ⟨rfl, hS.kp.below⟩
  have l1 := adN_le s
  have l2 := adN_le d
  have hfl := flB_len s d sp dp pr
  have hfn : 5 ≤ flN s d ∧ flN s d ≤ 37 := by unfold flN; omega
  have hfb := flB_bytes s d sp dp pr
  have htl : ((flB s d sp dp pr).take (flN s d - 1)).length = flN s d - 1 := by rw [List.length_take, hfl]; omega
  have hKy := fun w => rkey_c s d sp dp pr w h1 h2 q1 q2 q3
  have hF := fun w hv => flow_c n A c l s d sp dp pr w hv hl hb (by omega) h1 h2 q1 q2 q3
  have hP := fun w hv hv2 => spread_sum_c n A c l m A2 c2 b w hv hl hb (by omega) hv2 hl2 hb2 (by omega)
  have hQ := fun w hv hv2 => rspread_sum_c n A c l m A2 c2 b w hv hl hb (by omega) hv2 hl2 hb2 (by omega)
  generalize flN s d = N5 at *
  generalize flB s d sp dp pr = B5 at *
  have hR := fun A3 c3 w hv hv2 => rspread_sum_c n A c l (N5 - 1) A3 c3 (B5.take (N5 - 1)) w hv hl hb (by omega) hv2 htl (hfb.take _) (by omega)
  refine ent (n := 62) Try.func13 rfl rfl ?_
  refine wp_seq_k ?_; intro K1 hK1
  refine wlit ?_
  refine wl_e rfl ?_; intro K hK
  refine ow_box hS (tmA rfl rfl) rfl ?_
  clear hS; intro g0_0 w hg0_0 hS
  refine hK _ _ ?_; clear hK K
  refine wl_v (x_assign ev_c) ?_
  refine wl_nil ?_
  refine then_n (hK1 _ _ ?_); clear hK1 K1
  refine wp_seq_k ?_; intro K2 hK2
  refine wp_seq_k ?_; intro K3 hK3
  refine wlit ?_
  refine wl_v (x_move (tmS rfl rfl)) ?_
  refine wl_v (x_len Try.underlying22 (tmS rfl rfl)) ?_
  refine wl_v (x_gtr (tmI rfl rfl) (ev_cN 60)) ?_
  refine wl_v (x_move (tmB rfl rfl)) ?_
  refine gs_wl (tm (t := 11) rfl) (fun hg1_3 => ?_) (fun hg1_3 => ?_)
  · exfalso
    simp only [nrm] at hg1_3
    omega
  have hg1_3' := hg1_3; (try simp only [nrm] at hg1_3'); try (exfalso; first | with_reducible exact absurd hg1_3 Bool.false_ne_true | with_reducible exact absurd hg1_3.symm Bool.false_ne_true | omega | (simp at hg1_3; done))
  all_goals
   refine wl_gv (want_y rfl rfl rfl rfl (by rw [hg1_3]; rfl)) (x_move (tmS rfl rfl)) ?_
   refine wl_gv (want_y rfl rfl rfl rfl (by rw [hg1_3]; rfl)) (x_len Try.underlying22 (tmS rfl rfl)) ?_
   refine wl_gv (want_y rfl rfl rfl rfl (by rw [hg1_3]; rfl)) (x_gtr (tmI rfl rfl) (ev_cN 100)) ?_
   refine wl_v (x_pickF (tmB rfl rfl) hg1_3 (tmB rfl rfl)) ?_
   refine wl_nil ?_
   refine then_n (hK3 _ _ ?_); clear hK3 K3
   refine cnd (tm rfl) (fun hc0 => ?_) (fun hc0 => ?_)
   · exfalso
     simp only [nrm] at hc0
     omega
   try (exfalso; first | with_reducible exact absurd hc0 Bool.false_ne_true | with_reducible exact absurd hc0.symm Bool.false_ne_true | (simp only [nrm] at hc0; omega) | (simp at hc0; done))
   all_goals
    try simp only [nrm] at hc0
    refine wp_skip ?_
    refine then_n (hK2 _ _ ?_); clear hK2 K2
    refine wp_seq_k ?_; intro K4 hK4
    refine wp_seq_k ?_; intro K5 hK5
    refine wlit ?_
    refine wl_v (x_fa 0 Try.underlying107 rfl rfl ts_26 (tmP rfl rfl)) ?_
    refine wl_v (x_loadA (cs := [_, _, _]) Try.underlying26 rfl ts_26 (tmP rfl rfl) (rangeB hS.ok 0 rfl rfl)) ?_
    refine wl_e rfl ?_; intro K hK
    refine ow_call Try.func65 rfl rfl (evs_cons (tmA rfl rfl) <| evs_nil) (rad_right_c s _) ?_
    rintro e w ⟨rfl, hk⟩
    refine ⟨_, rfl, ?_⟩
    replace hS := hS.kept hk
    clear hk
    refine hK _ _ ?_; clear hK K
    refine wl_v (x_not (tmB rfl rfl)) ?_
    refine wl_v (x_move (tmB rfl rfl)) ?_
    refine gs_wl (tm (t := 21) rfl) (fun hg3_4 => ?_) (fun hg3_4 => ?_)
    · have hg3_4' := hg3_4; (try simp only [nrm] at hg3_4'); try (exfalso; first | with_reducible exact absurd hg3_4 Bool.false_ne_true | with_reducible exact absurd hg3_4.symm Bool.false_ne_true | omega | (simp at hg3_4; done))
      all_goals
       refine wl_s rfl (want_n rfl rfl rfl rfl (by rw [hg3_4]; rfl)) ?_
       refine wl_s rfl (want_n rfl rfl rfl rfl (by rw [hg3_4]; rfl)) ?_
       refine wl_s rfl (want_n rfl rfl rfl rfl (by rw [hg3_4]; rfl)) ?_
       refine wl_s rfl (want_n rfl rfl rfl rfl (by rw [hg3_4]; rfl)) ?_
       refine wl_v (x_pickT (tmB rfl rfl) hg3_4 ev_c) ?_
       refine wl_nil ?_
       refine then_n (hK5 _ _ ?_); clear hK5 K5
       refine cnd_t (tmB rfl rfl) rfl ?_
       refine wp_seq_k ?_; intro K6 hK6
       refine wlit ?_
       refine wl_v (x_move (tmS rfl rfl)) ?_
       refine wl_v (x_move (tmS rfl rfl)) ?_
       refine wl_e rfl ?_; intro K hK
       refine ow_call Try.func66 rfl rfl (evs_cons (tmS rfl rfl) <| evs_cons (tmS rfl rfl) <| evs_nil) (hP _ (viewV hS.ok 1 rfl) (viewV hS.ok 2 rfl)) ?_
       rintro e w ⟨rfl, hk⟩
       refine ⟨_, rfl, ?_⟩
       replace hS := hS.kept hk
       clear hk
       refine hK _ _ ?_; clear hK K
       refine wl_v (x_move (tmS rfl rfl)) ?_
       refine wl_v (x_move (tmS rfl rfl)) ?_
       refine wl_e rfl ?_; intro K hK
       refine ow_call Try.func67 rfl rfl (evs_cons (tmS rfl rfl) <| evs_cons (tmS rfl rfl) <| evs_nil) (hQ _ (viewV hS.ok 1 rfl) (viewV hS.ok 2 rfl)) ?_
       rintro e w ⟨rfl, hk⟩
       refine ⟨_, rfl, ?_⟩
       replace hS := hS.kept hk
       clear hk
       refine hK _ _ ?_; clear hK K
       refine wl_v (x_eql (tmI rfl rfl) (tmI rfl rfl)) ?_
       refine wl_v (x_move (tmB rfl rfl)) ?_
       refine gs_wls (tm (t := 34) rfl) (fun hg4_7 => ?_) (fun hg4_7 => ?_)
       · exfalso
         simp at hg4_7
       have hg4_7' := hg4_7; (try simp only [nrm] at hg4_7'); try (exfalso; first | with_reducible exact absurd hg4_7 Bool.false_ne_true | with_reducible exact absurd hg4_7.symm Bool.false_ne_true | omega | (simp at hg4_7; done))
       all_goals
        refine wl_g (want_y rfl rfl rfl rfl (by rw [hg4_7]; rfl)) ?_; intro K hK
        refine ow_call Try.func64 rfl rfl (evs_nil) (law41_awake_c _) ?_
        rintro e w ⟨rfl, hk⟩
        refine ⟨_, rfl, ?_⟩
        replace hS := hS.kept hk
        clear hk
        refine hK _ _ ?_; clear hK K
        refine wl_v (x_pickT (tmB rfl rfl) hg4_7 (tmB rfl rfl)) ?_
        refine wl_v (x_assign (tmB rfl rfl)) ?_
        refine wl_nil ?_
        refine then_n (hK6 _ _ ?_); clear hK6 K6
        refine wp_ret ?_
        refine then_r ?_
        refine ret1 rfl (.tmp rfl (show _ = Value.bool _ from rfl)) ?_
        exact ⟨rfl, hS.kp.below⟩
    have hg3_4' := hg3_4; (try simp only [nrm] at hg3_4'); try (exfalso; first | with_reducible exact absurd hg3_4 Bool.false_ne_true | with_reducible exact absurd hg3_4.symm Bool.false_ne_true | omega | (simp at hg3_4; done))
    all_goals
     refine wl_gv (want_y rfl rfl rfl rfl (by rw [hg3_4]; rfl)) (x_fa 3 Try.underlying107 rfl rfl ts_26 (tmP rfl rfl)) ?_
     refine wl_gv (want_y rfl rfl rfl rfl (by rw [hg3_4]; rfl)) (x_loadA (cs := [_, _, _]) Try.underlying26 rfl ts_26 (tmP rfl rfl) (rangeB hS.ok 0 rfl rfl)) ?_
     refine wl_g (want_y rfl rfl rfl rfl (by rw [hg3_4]; rfl)) ?_; intro K hK
     refine ow_call Try.func65 rfl rfl (evs_cons (tmA rfl rfl) <| evs_nil) (rad_right_c d _) ?_
     rintro e w ⟨rfl, hk⟩
     refine ⟨_, rfl, ?_⟩
     replace hS := hS.kept hk
     clear hk
     refine hK _ _ ?_; clear hK K
     refine wl_gv (want_y rfl rfl rfl rfl (by rw [hg3_4]; rfl)) (x_not (tmB rfl rfl)) ?_
     refine wl_v (x_pickF (tmB rfl rfl) hg3_4 (tmB rfl rfl)) ?_
     refine wl_nil ?_
     refine then_n (hK5 _ _ ?_); clear hK5 K5
     refine cnd (tm rfl) (fun hc1 => ?_) (fun hc1 => ?_)
     · try (exfalso; first | with_reducible exact absurd hc1 Bool.false_ne_true | with_reducible exact absurd hc1.symm Bool.false_ne_true | (simp only [nrm] at hc1; omega) | (simp at hc1; done))
       all_goals
        try simp only [nrm] at hc1
        refine wp_seq_k ?_; intro K7 hK7
        refine wlit ?_
        refine wl_v (x_move (tmS rfl rfl)) ?_
        refine wl_v (x_move (tmS rfl rfl)) ?_
        refine wl_e rfl ?_; intro K hK
        refine ow_call Try.func66 rfl rfl (evs_cons (tmS rfl rfl) <| evs_cons (tmS rfl rfl) <| evs_nil) (hP _ (viewV hS.ok 1 rfl) (viewV hS.ok 2 rfl)) ?_
        rintro e w ⟨rfl, hk⟩
        refine ⟨_, rfl, ?_⟩
        replace hS := hS.kept hk
        clear hk
        refine hK _ _ ?_; clear hK K
        refine wl_v (x_move (tmS rfl rfl)) ?_
        refine wl_v (x_move (tmS rfl rfl)) ?_
        refine wl_e rfl ?_; intro K hK
        refine ow_call Try.func67 rfl rfl (evs_cons (tmS rfl rfl) <| evs_cons (tmS rfl rfl) <| evs_nil) (hQ _ (viewV hS.ok 1 rfl) (viewV hS.ok 2 rfl)) ?_
        rintro e w ⟨rfl, hk⟩
        refine ⟨_, rfl, ?_⟩
        replace hS := hS.kept hk
        clear hk
        refine hK _ _ ?_; clear hK K
        refine wl_v (x_eql (tmI rfl rfl) (tmI rfl rfl)) ?_
        refine wl_v (x_move (tmB rfl rfl)) ?_
        refine gs_wls (tm (t := 34) rfl) (fun hg4_7 => ?_) (fun hg4_7 => ?_)
        · exfalso
          simp at hg4_7
        have hg4_7' := hg4_7; (try simp only [nrm] at hg4_7'); try (exfalso; first | with_reducible exact absurd hg4_7 Bool.false_ne_true | with_reducible exact absurd hg4_7.symm Bool.false_ne_true | omega | (simp at hg4_7; done))
        all_goals
         refine wl_g (want_y rfl rfl rfl rfl (by rw [hg4_7]; rfl)) ?_; intro K hK
         refine ow_call Try.func64 rfl rfl (evs_nil) (law41_awake_c _) ?_
         rintro e w ⟨rfl, hk⟩
         refine ⟨_, rfl, ?_⟩
         replace hS := hS.kept hk
         clear hk
         refine hK _ _ ?_; clear hK K
         refine wl_v (x_pickT (tmB rfl rfl) hg4_7 (tmB rfl rfl)) ?_
         refine wl_v (x_assign (tmB rfl rfl)) ?_
         refine wl_nil ?_
         refine then_n (hK7 _ _ ?_); clear hK7 K7
         refine wp_ret ?_
         refine then_r ?_
         refine ret1 rfl (.tmp rfl (show _ = Value.bool _ from rfl)) ?_
         exact ⟨rfl, hS.kp.below⟩
     try (exfalso; first | with_reducible exact absurd hc1 Bool.false_ne_true | with_reducible exact absurd hc1.symm Bool.false_ne_true | (simp only [nrm] at hc1; omega) | (simp at hc1; done))
     all_goals
      try simp only [nrm] at hc1
      refine wp_skip ?_
      refine then_n (hK4 _ _ ?_); clear hK4 K4
      refine wp_seq_k ?_; intro K8 hK8
      refine wlit ?_
      refine wl_v (x_loadA (cs := [_, _, _, _, _, _, _, _, _]) Try.underlying107 rfl ts_107 (tmP rfl rfl) (rangeB hS.ok 0 rfl rfl)) ?_
      refine wl_e rfl ?_; intro K hK
      refine ow_call Try.func68 rfl rfl (evs_cons (tmA rfl rfl) <| evs_nil) (hKy _) ?_
      rintro e w ⟨A3, n3, c3, hn3, rfl, hn, hk⟩
      refine ⟨_, rfl, ?_⟩
      obtain rfl : N5 = n3 := hn3.symm
      replace hS := (hS.add hk hn).freeze 0 rfl -- +vf
      have hcap := row_cap hn.1 (by omega)
      clear hn hk
      refine hK _ _ ?_; clear hK K
      refine wl_v (x_assign (tmS rfl rfl)) ?_
      refine wl_nil ?_
      refine then_n (hK8 _ _ ?_); clear hK8 K8
      refine wp_seq_k ?_; intro K9 hK9
      replace hS := hS.cutb 0 0 (N5 - 1) rfl (by omega : B5.length ≤ c3)
      refine rg_startk 0 hS mixed_ ?_
      clear hS; intro w hS
      refine rg_take 0 rfl rfl (by kernel_rfl) (by kernel_rfl) (by kernel_rfl) (want_0) (fun w hok => x_move (tmS rfl rfl)) ?_
      refine rg_take 1 rfl rfl (by kernel_rfl) (by kernel_rfl) (by kernel_rfl) (want_0) (fun w hok => x_move (tmS rfl rfl)) ?_
      refine rg_take 3 rfl rfl (by kernel_rfl) (by kernel_rfl) (by kernel_rfl) (want_0) (fun w hok => x_move (tmS rfl rfl)) ?_
      refine rg_take 4 rfl rfl (by kernel_rfl) (by kernel_rfl) (by kernel_rfl) (want_0) (fun w hok => x_move (tmS rfl rfl)) ?_
      refine rg_step 2 rfl (by kernel_rfl) (want_0) (oks_drop hS 0 rfl) ?_; intro K hK
      refine ow_call Try.func66 rfl rfl (evs_cons (tmS rfl rfl) <| evs_cons (tmS rfl rfl) <| evs_nil) (hP _ (viewV hS.ok 3 rfl) (viewV hS.ok 4 rfl)) ?_
      rintro e w ⟨rfl, hk⟩
      refine ⟨_, rfl, ?_⟩
      replace hS := hS.kept hk
      clear hk
      refine hK _ _ ?_; clear hK K
      refine rg_step 5 rfl (by kernel_rfl) (want_0) (oks_drop hS 0 rfl) ?_; intro K hK
      refine ow_call Try.func67 rfl rfl (evs_cons (tmS rfl rfl) <| evs_cons (tmS rfl rfl) <| evs_nil) (hQ _ (viewV hS.ok 3 rfl) (viewV hS.ok 4 rfl)) ?_
      rintro e w ⟨rfl, hk⟩
      refine ⟨_, rfl, ?_⟩
      replace hS := hS.kept hk
      clear hk
      refine hK _ _ ?_; clear hK K
      refine rg_take 6 rfl rfl (by kernel_rfl) (by kernel_rfl) (by kernel_rfl) (want_0) (fun w hok => x_eql (tmI rfl rfl) (tmI rfl rfl)) ?_
      refine rg_take 7 rfl rfl (by kernel_rfl) (by kernel_rfl) (by kernel_rfl) (want_0) (fun w hok => x_move (tmB rfl rfl)) ?_
      refine gs_rgs (tm (t := 46) rfl) (fun hg6_7 => ?_) (fun hg6_7 => ?_)
      · exfalso
        simp at hg6_7
      have hg6_7' := hg6_7; (try simp only [nrm] at hg6_7'); try (exfalso; first | with_reducible exact absurd hg6_7 Bool.false_ne_true | with_reducible exact absurd hg6_7.symm Bool.false_ne_true | omega | (simp at hg6_7; done))
      all_goals
       refine rg_take 8 rfl rfl (by kernel_rfl) (by kernel_rfl) (by kernel_rfl) (want_y rfl rfl rfl rfl (by rw [hg6_7]; rfl)) (fun w hok => x_move (tmS rfl rfl)) ?_
       refine rg_take 9 rfl rfl (by kernel_rfl) (by kernel_rfl) (by kernel_rfl) (want_y rfl rfl rfl rfl (by rw [hg6_7]; rfl)) (fun w hok => x_loadA (cs := [_, _, _, _, _, _, _, _, _]) Try.underlying107 rfl ts_107 (tmP rfl rfl) (rangeB hok 2 rfl rfl)) ?_
       refine rg_take 11 rfl rfl (by kernel_rfl) (by kernel_rfl) (by kernel_rfl) (want_y rfl rfl rfl rfl (by rw [hg6_7]; rfl)) (fun w hok => x_move (tmS rfl rfl)) ?_
       refine rg_take 12 rfl rfl (by kernel_rfl) (by kernel_rfl) (by kernel_rfl) (want_y rfl rfl rfl rfl (by rw [hg6_7]; rfl)) (fun w hok => x_move (tmS rfl rfl)) ?_
       refine rg_take 13 rfl rfl (by kernel_rfl) (by kernel_rfl) (by kernel_rfl) (want_y rfl rfl rfl rfl (by rw [hg6_7]; rfl)) (fun w hok => x_move (tmS rfl rfl)) ?_
       refine rg_take 14 rfl rfl (by kernel_rfl) (by kernel_rfl) (by kernel_rfl) (want_y rfl rfl rfl rfl (by rw [hg6_7]; rfl)) (fun w hok => x_len Try.underlying22 (tmS rfl rfl)) ?_
       refine rg_take 15 rfl rfl (by kernel_rfl) (by kernel_rfl) (by kernel_rfl) (want_y rfl rfl rfl rfl (by rw [hg6_7]; rfl)) (fun w hok => x_subN (tmI rfl rfl) (ev_cN 1) (fit_i64 (by omega)) (by omega)) ?_
       refine rg_take 16 rfl rfl (by kernel_rfl) (by kernel_rfl) (by kernel_rfl) (want_y rfl rfl rfl rfl (by rw [hg6_7]; rfl)) (fun w hok => x_sliceH Try.underlying22 ts_5 (tmS rfl rfl) (tmI rfl rfl) (by omega)) ?_
       refine rg_step 10 rfl (by kernel_rfl) (want_y rfl rfl rfl rfl (by rw [hg6_7]; rfl)) (oks_drop hS 0 rfl) ?_; intro K hK
       refine ow_call Try.func69 rfl rfl (evs_cons (tmS rfl rfl) <| evs_cons (tmA rfl rfl) <| evs_nil) (hF _ (viewV hS.ok 3 rfl)) ?_
       rintro e w ⟨rfl, hk⟩
       refine ⟨_, rfl, ?_⟩
       replace hS := hS.kept hk
       clear hk
       refine hK _ _ ?_; clear hK K
       refine rg_step 17 rfl (by kernel_rfl) (want_y rfl rfl rfl rfl (by rw [hg6_7]; rfl)) (oks_drop hS 0 rfl) ?_; intro K hK
       refine ow_call Try.func67 rfl rfl (evs_cons (tmS rfl rfl) <| evs_cons (tmS rfl rfl) <| evs_nil) (hR _ _ _ (viewV hS.ok 3 rfl) (viewV hS.ok 0 rfl)) ?_
       rintro e w ⟨rfl, hk⟩
       refine ⟨_, rfl, ?_⟩
       replace hS := hS.kept hk
       clear hk
       refine hK _ _ ?_; clear hK K
       refine rg_take 18 rfl rfl (by kernel_rfl) (by kernel_rfl) (by kernel_rfl) (want_y rfl rfl rfl rfl (by rw [hg6_7]; rfl)) (fun w hok => x_eql (tmI rfl rfl) (tmI rfl rfl)) ?_
       refine rg_take 19 rfl rfl (by kernel_rfl) (by kernel_rfl) (by kernel_rfl) (want_0) (fun w hok => x_pickT (tmB rfl rfl) hg6_7 (tmB rfl rfl)) ?_
       refine rg_take 20 rfl rfl (by kernel_rfl) (by kernel_rfl) (by kernel_rfl) (want_0) (fun w hok => x_move (tmB rfl rfl)) ?_
       refine gs_rgs (tm (t := 59) rfl) (fun hg6_20 => ?_) (fun hg6_20 => ?_)
       · exfalso
         simp at hg6_20
       have hg6_20' := hg6_20; (try simp only [nrm] at hg6_20'); try (exfalso; first | with_reducible exact absurd hg6_20 Bool.false_ne_true | with_reducible exact absurd hg6_20.symm Bool.false_ne_true | omega | (simp at hg6_20; done))
       all_goals
        refine rg_step 21 rfl (by kernel_rfl) (want_y rfl rfl rfl rfl (by rw [hg6_20]; rfl)) (oks_drop hS 0 rfl) ?_; intro K hK
        refine ow_call Try.func64 rfl rfl (evs_nil) (law41_awake_c _) ?_
        rintro e w ⟨rfl, hk⟩
        refine ⟨_, rfl, ?_⟩
        replace hS := hS.kept hk
        clear hk
        refine hK _ _ ?_; clear hK K
        refine rg_take 22 rfl rfl (by kernel_rfl) (by kernel_rfl) (by kernel_rfl) (want_0) (fun w hok => x_pickT (tmB rfl rfl) hg6_20 (tmB rfl rfl)) ?_
        refine rg_take 23 rfl rfl (by kernel_rfl) (by kernel_rfl) (by kernel_rfl) (want_0) (fun w hok => x_assign (tmB rfl rfl)) ?_
        refine rg_done (oks_drop hS 0 rfl) (by kernel_rfl) ?_
        refine then_n (hK9 _ _ ?_); clear hK9 K9
        refine wp_ret ?_
        refine ret1 rfl (.tmp rfl (show _ = Value.bool _ from rfl)) ?_
        exact ⟨rfl, hS.kp.below⟩
set_option maxRecDepth 100000 in
theorem walk (A : Option Addr) (n c : Nat) (l : List Nat) (A2 : Option Addr) (n2 c2 : Nat) (l2 : List Nat) (v : Value) (w0 : World) {H : Type} {enc : TypeId × Value → H} {r : Reach} {b0 : Nat} {d : DataW H} {ps : List MemPlace}
    (r1 : l.length = n ∧ (A = none → c = 0) ∧ BView w0 w0.heap.size A l ∧ n ≤ c) (r2 : l2.length = n2 ∧ (A2 = none → c2 = 0) ∧ BView w0 w0.heap.size A2 l2 ∧ n2 ≤ c2)
    (hval : Value.okWide Try.prog w0 r b0 107 v) (hd : DataW.Trod enc Try.prog w0 0 (fun _ => true) true 107 v d ps) (hlt : ∀ p ∈ ps, p.block < w0.heap.size) :
    Calls Try.prog 13 #[.slice A n c, .slice A2 n2 c2, v] w0 fun e w' => e = .returned (.bool true) ∧ Below w0.heap.size w0 w' := by
  obtain ⟨y, rfl, hy⟩ := GFlow.open_a hval hd hlt
  obtain ⟨s, d, sp, dp, pr⟩ := y
  obtain ⟨y1, y2, y3, y4, y5⟩ := hy
  obtain ⟨hl, _, ⟨hb, hv⟩, _⟩ := r1
  obtain ⟨hl2, _, ⟨hb2, hv2⟩, _⟩ := r2
  exact walkC n A c l n2 A2 c2 l2 s d sp dp pr w0 hv hl hb hv2 hl2 hb2 ⟨by have := y1; simp [Ad.ok] at this; omega, by have := y1; simp [Ad.ok] at this; omega⟩ ⟨by have := y2; simp [Ad.ok] at this; omega, by have := y2; simp [Ad.ok] at this; omega⟩ y3 y4 y5
end SpreadSums
end Go.Proofs.Ytilgolflpdpfnaa
