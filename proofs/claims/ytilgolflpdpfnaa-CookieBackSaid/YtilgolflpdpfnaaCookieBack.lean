
/- Proved: CookieBack returns true for every ring, flow and word, and changes no memory that was there. Conditions: none. -/
import Derived.Test.YtilgolflpdpfnaaCookieN
namespace Go.Proofs.Ytilgolflpdpfnaa
open Go.ChangeShapes Go.WideShapes Go.ChangeAt Go.RowKit
structure GFlow where
  src : Ad
  dst : Ad
  srcPort : Nat
  dstPort : Nat
  proto : Nat
def GFlow.V (s : GFlow) : List Value := [.bool s.src.six, .int .u64 (s.src.high : Int), .int .u64 (s.src.low : Int), .bool s.dst.six, .int .u64 (s.dst.high : Int), .int .u64 (s.dst.low : Int), .int .u16 (s.srcPort : Int), .int .u16 (s.dstPort : Int), .int .u8 (s.proto : Int)]
theorem GFlow.len (s : GFlow) : s.V.length = 9 := rfl
def GFlow.ok (w : World) (s : GFlow) : Prop := s.src.ok w ∧ s.dst.ok w ∧ s.srcPort < 65536 ∧ s.dstPort < 65536 ∧ s.proto < 256
instance : Inhabited GFlow := ⟨⟨default, default, 0, 0, 0⟩⟩
set_option maxRecDepth 100000 in
theorem GFlow.open_t {H : Type} {enc : TypeId × Value → H} {w : World} {fuel : Nat} {cs : List Value} {x : DataW H × List MemPlace} (hf : DataW.trod enc Try.prog w 0 (fun _ => true) true fuel 107 cs = some x) (hlt : ∀ p ∈ x.2, p.block < w.heap.size) : ∃ s : GFlow, cs = s.V ∧ s.ok w := by
  have hC : Try.prog.cellsOf 107 = 9 := by kernel_rfl
  have hl := (DataW.trod_struct Try.underlying107 hf).choose_spec.choose_spec.2.2.1
  rw [hC] at hl
  obtain ⟨y0, k0, t0, b0⟩ := field_t Try.underlying107 hf hlt 0 _ rfl
  have hC0 : Try.prog.cellsOf 26 = 3 := by kernel_rfl
  obtain ⟨s0, e0, o0⟩ := Ad.open_t t0 b0
  have d0 := split_drop cs 0 3 (hC0 ▸ e0)
  obtain ⟨y1, k1, t1, b1⟩ := field_t Try.underlying107 hf hlt 1 _ rfl
  have hC1 : Try.prog.cellsOf 26 = 3 := by kernel_rfl
  obtain ⟨s1, e1, o1⟩ := Ad.open_t t1 b1
  have d1 := split_drop cs 3 3 (hC1 ▸ e1)
  obtain ⟨y2, k2, t2, b2⟩ := field_t Try.underlying107 hf hlt 2 _ rfl
  have hC2 : Try.prog.cellsOf 40 = 1 := by kernel_rfl
  obtain ⟨s2, e2, o2⟩ := t_u16 Try.underlying40 t2 b2
  have d2 := split_drop cs 6 1 (hC2 ▸ e2)
  obtain ⟨y3, k3, t3, b3⟩ := field_t Try.underlying107 hf hlt 3 _ rfl
  have hC3 : Try.prog.cellsOf 40 = 1 := by kernel_rfl
  obtain ⟨s3, e3, o3⟩ := t_u16 Try.underlying40 t3 b3
  have d3 := split_drop cs 7 1 (hC3 ▸ e3)
  obtain ⟨y4, k4, t4, b4⟩ := field_t Try.underlying107 hf hlt 4 _ rfl
  have hC4 : Try.prog.cellsOf 5 = 1 := by kernel_rfl
  obtain ⟨s4, e4, o4⟩ := t_u8 Try.underlying5 t4 b4
  have d4 := split_drop cs 8 1 (hC4 ▸ e4)
  refine ⟨⟨s0, s1, s2, s3, s4⟩, ?_, ⟨o0, o1, o2, o3, o4⟩⟩
  have dn : cs.drop 9 = [] := List.drop_eq_nil_of_le (by omega)
  rw [← List.drop_zero (l := cs)]
  refine d0.trans ?_
  rw [show cs.drop (0 + 3) = _ from d1]
  rw [show cs.drop (3 + 3) = _ from d2]
  rw [show cs.drop (6 + 1) = _ from d3]
  rw [show cs.drop (7 + 1) = _ from d4]
  rw [show cs.drop (8 + 1) = [] from dn]
  rfl
set_option maxRecDepth 100000 in
theorem GFlow.open_a {H : Type} {enc : TypeId × Value → H} {w : World} {r : Reach} {b0 : Nat} {v : Value} {d : DataW H} {ps : List MemPlace} (hval : Value.okWide Try.prog w r b0 107 v) (hd : DataW.Trod enc Try.prog w 0 (fun _ => true) true 107 v d ps) (hlt : ∀ p ∈ ps, p.block < w.heap.size) : ∃ s : GFlow, v = .agg s.V.toArray ∧ s.ok w := by
  obtain ⟨cs, rfl, _⟩ := okWide_struct Try.underlying107 hval
  obtain ⟨fuel, hf⟩ := hd
  obtain ⟨s, e, h⟩ := GFlow.open_t hf hlt
  exact ⟨s, by rw [← e]; simp [Value.cells], h⟩
namespace CookieBack
theorem at_next (k : Nat → Nat) (u : Nat) : atK k (u + 1) ((u % 2 : Nat) : Int) = derF k u ∧ atB (u + 1) ((u % 2 : Nat) : Int) = true := by
  have h := at2 (k := k) (u := u + 1) (bit := ((u % 2 : Nat) : Int)) (by omega) (by omega) (by omega)
  rwa [Nat.add_sub_cancel] at h
set_option maxRecDepth 100000 in
set_option maxHeartbeats 4000000 in
theorem restore1_c (a b r : Nat) (w0 : World) (ha : a ≤ 4294967295) (hb : b ≤ 65535) (hr : (a - (a % 65536 + (65536 - b)) % 65536 : Nat) = r) (hle : (a % 65536 + (65536 - b)) % 65536 ≤ a) :
    Calls Try.prog 115 #[.int .u32 (a : Int), .int .u16 (b : Int)] w0 fun e w' => e = .returned (.int .u32 (r : Int)) ∧ Kp [] w0 w' := by
  have hS := St.sv w0
  refine ent (n := 12) Try.func115 rfl rfl ?_
  refine wp_seq_k ?_; intro K1 hK1
  refine wlit ?_
  refine wl_v (x_assign (ev_cN 0)) ?_
  refine wl_nil ?_
  refine then_n (hK1 _ _ ?_); clear hK1 K1
  refine wp_seq_k ?_; intro K2 hK2
  refine wlit ?_
  refine wl_v (x_move (tmI rfl rfl)) ?_
  refine wl_v (x_move (tmI rfl rfl)) ?_
  refine wl_v (x_convU Try.underlying49 Try.underlying40 (tmI rfl rfl) rfl) ?_
  refine wl_v (x_move (tmI rfl rfl)) ?_
  refine wl_v (x_subU (tmI rfl rfl) (tmI rfl rfl) rfl (fit_u16 (by omega))) ?_
  refine wl_v (x_convN Try.underlying40 Try.underlying49 (tmI rfl (congrArg (fun q : Nat => Value.int .u16 (q : Int)) (show _ = (a % 65536 + (65536 - b)) % 65536 from rfl))) (fit_u32 (by omega))) ?_
  refine wl_v (x_subN (tmI rfl rfl) (tmI rfl rfl) (fit_u32 (by omega)) (by omega)) ?_
  refine wl_v (x_assign (tmI rfl rfl)) ?_
  refine wl_nil ?_
  refine then_n (hK2 _ _ ?_); clear hK2 K2
  refine wp_ret ?_
  refine ret1 rfl (.tmp rfl (show _ = Value.int _ _ from rfl)) ?_
  rw [hr]
  exact ⟨rfl, hS.kp⟩
set_option maxRecDepth 100000 in
set_option maxHeartbeats 4000000 in
theorem law12_awake_c (w0 : World) :
    Calls Try.prog 58 #[] w0 fun e w' => e = .returned (.bool true) ∧ Kp [] w0 w' := by
  have hS := St.sv w0
  refine ent (n := 7) Try.func58 rfl rfl ?_
  refine wp_seq_k ?_; intro K1 hK1
  refine wlit ?_
  refine wl_v (x_assign ev_c) ?_
  refine wl_nil ?_
  refine then_n (hK1 _ _ ?_); clear hK1 K1
  refine wp_seq_k ?_; intro K2 hK2
  refine wlit ?_
  refine wl_e rfl ?_; intro K hK
  refine ow_call Try.func115 rfl rfl (evs_cons (ev_cN 131077) <| evs_cons (ev_cN 3) <| evs_nil) (restore1_c 131077 3 131075 _ (by omega) (by omega) (by decide) (by decide)) ?_
  rintro e w ⟨rfl, hk⟩
  refine ⟨_, rfl, ?_⟩
  replace hS := hS.kept hk
  clear hk
  refine hK _ _ ?_; clear hK K
  refine wl_v (x_eql (tmI rfl rfl) (ev_cN 131075)) ?_
  refine wl_v (x_move (tmB rfl rfl)) ?_
  refine gs_wl (tm (t := 3) rfl) (fun hg1_2 => ?_) (fun hg1_2 => ?_)
  · have hg1_2' := hg1_2; (try simp only [nrm] at hg1_2'); try (exfalso; first | with_reducible exact absurd hg1_2 Bool.false_ne_true | with_reducible exact absurd hg1_2.symm Bool.false_ne_true | omega | (simp at hg1_2; done))
    all_goals
     refine wl_g (want_y rfl rfl rfl rfl (by rw [hg1_2]; rfl)) ?_; intro K hK
     refine ow_call Try.func115 rfl rfl (evs_cons (ev_cN 131077) <| evs_cons (ev_cN 9) <| evs_nil) (restore1_c 131077 9 65545 _ (by omega) (by omega) (by decide) (by decide)) ?_
     rintro e w ⟨rfl, hk⟩
     refine ⟨_, rfl, ?_⟩
     replace hS := hS.kept hk
     clear hk
     refine hK _ _ ?_; clear hK K
     refine wl_gv (want_y rfl rfl rfl rfl (by rw [hg1_2]; rfl)) (x_eql (tmI rfl rfl) (ev_cN 65545)) ?_
     refine wl_v (x_pickT (tmB rfl rfl) hg1_2 (tmB rfl rfl)) ?_
     refine wl_v (x_assign (tmB rfl rfl)) ?_
     refine wl_nil ?_
     refine then_n (hK2 _ _ ?_); clear hK2 K2
     refine wp_ret ?_
     refine ret1 rfl (.tmp rfl (show _ = Value.bool _ from rfl)) ?_
     first
       | exact ⟨rfl, hS.kp⟩
       | exact ⟨by simp, hS.kp⟩
  have hg1_2' := hg1_2; (try simp only [nrm] at hg1_2'); try (exfalso; first | with_reducible exact absurd hg1_2 Bool.false_ne_true | with_reducible exact absurd hg1_2.symm Bool.false_ne_true | omega | (simp at hg1_2; done))
  all_goals
   refine wl_s rfl (want_n rfl rfl rfl rfl (by rw [hg1_2]; rfl)) ?_
   refine wl_s rfl (want_n rfl rfl rfl rfl (by rw [hg1_2]; rfl)) ?_
   refine wl_v (x_pickF (tmB rfl rfl) hg1_2 ev_c) ?_
   refine wl_v (x_assign (tmB rfl rfl)) ?_
   refine wl_nil ?_
   refine then_n (hK2 _ _ ?_); clear hK2 K2
   refine wp_ret ?_
   refine ret1 rfl (.tmp rfl (show _ = Value.bool _ from rfl)) ?_
   first
     | exact ⟨rfl, hS.kp⟩
     | exact ⟨by simp, hS.kp⟩
set_option maxRecDepth 100000 in
set_option maxHeartbeats 4000000 in
theorem right12_c (s d : Ad) (sp dp pr : Nat) (w0 : World) :
    Calls Try.prog 57 #[.agg (flV s d sp dp pr).toArray] w0 fun e w' => ∃ b, e = .returned (.bool b) ∧ Kp [] w0 w' := by
  have hS := St.sv w0
  refine ent (n := 11) Try.func57 rfl rfl ?_
  refine wp_seq_k ?_; intro K1 hK1
  refine wlit ?_
  refine wl_e rfl ?_; intro K hK
  refine ow_box hS (tmA rfl rfl) rfl ?_
  clear hS; intro g0_0 w hg0_0 hS
  refine hK _ _ ?_; clear hK K
  refine wl_v (x_assign ev_c) ?_
  refine wl_nil ?_
  refine then_n (hK1 _ _ ?_); clear hK1 K1
  refine wp_seq_k ?_; intro K2 hK2
  refine wlit ?_
  refine wl_v (x_fa 0 Try.underlying107 rfl rfl ts_26 (tmP rfl rfl)) ?_
  refine wl_v (x_loadA (cs := [_, _, _]) Try.underlying26 rfl ts_26 (tmP rfl rfl) (rangeB hS.ok 0 rfl rfl)) ?_
  refine wl_e rfl ?_; intro K hK
  refine ow_call Try.func65 rfl rfl (evs_cons (tmA rfl rfl) <| evs_nil) (rad_right_c s _) ?_
  rintro e w ⟨rfl, hk⟩
  refine ⟨_, rfl, ?_⟩
  replace hS := hS.kept hk
  clear hk
  refine hK _ _ ?_; clear hK K
  refine wl_v (x_move (tmB rfl rfl)) ?_
  refine gs_wl (tm (t := 6) rfl) (fun hg1_3 => ?_) (fun hg1_3 => ?_)
  · have hg1_3' := hg1_3; (try simp only [nrm] at hg1_3'); try (exfalso; first | with_reducible exact absurd hg1_3 Bool.false_ne_true | with_reducible exact absurd hg1_3.symm Bool.false_ne_true | omega | (simp at hg1_3; done))
    all_goals
     refine wl_gv (want_y rfl rfl rfl rfl (by rw [hg1_3]; rfl)) (x_fa 3 Try.underlying107 rfl rfl ts_26 (tmP rfl rfl)) ?_
     refine wl_gv (want_y rfl rfl rfl rfl (by rw [hg1_3]; rfl)) (x_loadA (cs := [_, _, _]) Try.underlying26 rfl ts_26 (tmP rfl rfl) (rangeB hS.ok 0 rfl rfl)) ?_
     refine wl_g (want_y rfl rfl rfl rfl (by rw [hg1_3]; rfl)) ?_; intro K hK
     refine ow_call Try.func65 rfl rfl (evs_cons (tmA rfl rfl) <| evs_nil) (rad_right_c d _) ?_
     rintro e w ⟨rfl, hk⟩
     refine ⟨_, rfl, ?_⟩
     replace hS := hS.kept hk
     clear hk
     refine hK _ _ ?_; clear hK K
     refine wl_v (x_pickT (tmB rfl rfl) hg1_3 (tmB rfl rfl)) ?_
     refine wl_v (x_assign (tmB rfl rfl)) ?_
     refine wl_nil ?_
     refine then_n (hK2 _ _ ?_); clear hK2 K2
     refine wp_ret ?_
     refine ret1 rfl (.tmp rfl (show _ = Value.bool _ from rfl)) ?_
     exact ⟨_, rfl, hS.kp⟩
  have hg1_3' := hg1_3; (try simp only [nrm] at hg1_3'); try (exfalso; first | with_reducible exact absurd hg1_3 Bool.false_ne_true | with_reducible exact absurd hg1_3.symm Bool.false_ne_true | omega | (simp at hg1_3; done))
  all_goals
   refine wl_s rfl (want_n rfl rfl rfl rfl (by rw [hg1_3]; rfl)) ?_
   refine wl_s rfl (want_n rfl rfl rfl rfl (by rw [hg1_3]; rfl)) ?_
   refine wl_s rfl (want_n rfl rfl rfl rfl (by rw [hg1_3]; rfl)) ?_
   refine wl_v (x_pickF (tmB rfl rfl) hg1_3 ev_c) ?_
   refine wl_v (x_assign (tmB rfl rfl)) ?_
   refine wl_nil ?_
   refine then_n (hK2 _ _ ?_); clear hK2 K2
   refine wp_ret ?_
   refine ret1 rfl (.tmp rfl (show _ = Value.bool _ from rfl)) ?_
   exact ⟨_, rfl, hS.kp⟩
set_option maxRecDepth 100000 in
set_option maxHeartbeats 4000000 in
theorem walkC (k : Nat → Nat) (u : Nat) (s d : Ad) (sp dp pr x : Nat) (w0 : World) (hkb : Bytes (kL k)) (hu : u < 18446744073709551616) (h1 : adLim s) (h2 : adLim d) (q1 : sp < 65536) (q2 : dp < 65536) (q3 : pr < 256) (hx : x < 65536) :
    Calls Try.prog 12 #[.agg (rgC k u).toArray, .agg (flV s d sp dp pr).toArray, .int .u16 (x : Int)] w0 fun e w' => e = .returned (.bool true) ∧ Below w0.heap.size w0 w' := by
  have hS := St.sv w0
  obtain ⟨v, hv⟩ : ∃ v, x / 4096 % 8 = v := ⟨_, rfl⟩
  obtain ⟨t, ht⟩ : ∃ t, x % 4096 = t := ⟨_, rfl⟩
  have hof := fun w => place_of_c x w (by omega)
  rw [hv, ht] at hof
  have hH := fun w => hide_c k u s d sp dp pr v t w hkb (by omega) h1 h2 q1 q2 q3 (by omega) (by omega)
  have hW := fun w => place_word_c v t w (by omega) (by omega)
  have hwx : v * 4096 + t = x % 32768 := by omega
  have hm := maskN_lt (derF k u) s d sp dp pr
  obtain ⟨g1, g2⟩ := unhide (b := u % 2) (w := v * 4096 + t) (m := maskN (derF k u) s d sp dp pr) (by omega) (by omega) hm
  have hx15 := xor15 (a := v * 4096 + t) (by omega) hm
  obtain ⟨c, hc⟩ : ∃ c, hideN k u s d sp dp pr v t = c := ⟨_, rfl⟩
  have hc' : u % 2 * 32768 + (v * 4096 + t ^^^ maskN (derF k u) s d sp dp pr) = c := hc
  rw [hc'] at g1 g2
  rw [hc] at hH
  have hcb : c ≤ 65535 := by omega
  have e1 := at1 (k := k) (u := u) (bit := ((u % 2 : Nat) : Int)) rfl
  have hS1 := fun w => seek_c k u s d sp dp pr c w hkb (by omega) h1 h2 q1 q2 q3 hcb (by rw [g1]; exact e1.2) _ (by rw [g1, e1.1])
  have hS2 := fun w (hu' : u + 1 ≤ 18446744073709551615) => seek_c k (u + 1) s d sp dp pr c w hkb hu' h1 h2 q1 q2 q3 hcb (by rw [g1]; exact (at_next k u).2) _ (by rw [g1, (at_next k u).1])
  generalize c ^^^ maskN (derF k u) s d sp dp pr = y at *
  rw [show y / 4096 % 8 = v by omega, show y % 4096 = t by omega] at hS1 hS2
  clear hc hc' hx15 hm g1 g2
  refine ent (n := 87) Try.func12 rfl rfl ?_
  refine wp_seq_k ?_; intro K1 hK1
  refine wlit ?_
  refine wl_e rfl ?_; intro K hK
  refine ow_box hS (tmA rfl rfl) rfl ?_
  clear hS; intro g0_0 w hg0_0 hS
  refine hK _ _ ?_; clear hK K
  refine wl_e rfl ?_; intro K hK
  refine ow_box hS (tmA rfl rfl) rfl ?_
  clear hS; intro g0_1 w hg0_1 hS
  refine hK _ _ ?_; clear hK K
  refine wl_v (x_assign ev_c) ?_
  refine wl_nil ?_
  refine then_n (hK1 _ _ ?_); clear hK1 K1
  refine wp_seq_k ?_; intro K2 hK2
  refine wp_seq_k ?_; intro K3 hK3
  refine wlit ?_
  refine wl_v (x_loadA (cs := [_, _, _, _, _, _, _, _, _]) Try.underlying107 rfl ts_107 (tmP rfl rfl) (rangeB hS.ok 0 rfl rfl)) ?_
  refine wl_e rfl ?_; intro K hK
  refine ow_call Try.func57 rfl rfl (evs_cons (tmA rfl rfl) <| evs_nil) (right12_c s d sp dp pr _) ?_
  rintro e w ⟨b1, rfl, hk⟩
  refine ⟨_, rfl, ?_⟩
  replace hS := hS.kept hk
  clear hk
  refine hK _ _ ?_; clear hK K
  refine wl_v (x_not (tmB rfl rfl)) ?_
  refine wl_v (x_move (tmB rfl rfl)) ?_
  refine gs_wl (tm (t := 18) rfl) (fun hg1_3 => ?_) (fun hg1_3 => ?_)
  · have hg1_3' := hg1_3; (try simp only [nrm] at hg1_3'); try (exfalso; first | with_reducible exact absurd hg1_3 Bool.false_ne_true | with_reducible exact absurd hg1_3.symm Bool.false_ne_true | omega | (simp at hg1_3; done))
    all_goals
     refine wl_s rfl (want_n rfl rfl rfl rfl (by rw [hg1_3]; rfl)) ?_
     refine wl_s rfl (want_n rfl rfl rfl rfl (by rw [hg1_3]; rfl)) ?_
     refine wl_s rfl (want_n rfl rfl rfl rfl (by rw [hg1_3]; rfl)) ?_
     refine wl_v (x_pickT (tmB rfl rfl) hg1_3 ev_c) ?_
     refine wl_nil ?_
     refine then_n (hK3 _ _ ?_); clear hK3 K3
     refine cnd_t (tmB rfl rfl) rfl ?_
     refine wp_seq_k ?_; intro K4 hK4
     refine wlit ?_
     refine wl_e rfl ?_; intro K hK
     refine ow_call Try.func58 rfl rfl (evs_nil) (law12_awake_c _) ?_
     rintro e w ⟨rfl, hk⟩
     refine ⟨_, rfl, ?_⟩
     replace hS := hS.kept hk
     clear hk
     refine hK _ _ ?_; clear hK K
     refine wl_v (x_assign (tmB rfl rfl)) ?_
     refine wl_nil ?_
     refine then_n (hK4 _ _ ?_); clear hK4 K4
     refine wp_ret ?_
     refine then_r ?_
     refine ret1 rfl (.tmp rfl (show _ = Value.bool _ from rfl)) ?_
     exact ⟨rfl, hS.kp.below⟩
  have hg1_3' := hg1_3; (try simp only [nrm] at hg1_3'); try (exfalso; first | with_reducible exact absurd hg1_3 Bool.false_ne_true | with_reducible exact absurd hg1_3.symm Bool.false_ne_true | omega | (simp at hg1_3; done))
  all_goals
   refine wl_gv (want_y rfl rfl rfl rfl (by rw [hg1_3]; rfl)) (x_fa 16 Try.underlying66 rfl rfl ts_24 (tmP rfl rfl)) ?_
   first
    | refine wl_gv (want_y rfl rfl rfl rfl (by rw [hg1_3]; rfl)) (x_load Try.underlying24 rfl (tmP rfl rfl) (cellB hS.ok 1 rfl rfl)) ?_
    | refine wl_gv (want_y rfl rfl rfl rfl (by rw [hg1_3]; rfl)) (x_load Try.underlying24 rfl (tmP rfl rfl) (cellB hS.ok 1 rfl (getm (by omega)))) ?_
   refine wl_gv (want_y rfl rfl rfl rfl (by rw [hg1_3]; rfl)) (x_eql (tmI rfl rfl) (ev_cN 18446744073709551615)) ?_
   refine wl_v (x_pickF (tmB rfl rfl) hg1_3 (tmB rfl rfl)) ?_
   refine wl_nil ?_
   refine then_n (hK3 _ _ ?_); clear hK3 K3
   refine cnd (tm rfl) (fun hc0 => ?_) (fun hc0 => ?_)
   · try (exfalso; first | with_reducible exact absurd hc0 Bool.false_ne_true | with_reducible exact absurd hc0.symm Bool.false_ne_true | (simp only [nrm] at hc0; omega) | (simp at hc0; done))
     all_goals
      try simp only [nrm] at hc0
      refine wp_seq_k ?_; intro K5 hK5
      refine wlit ?_
      refine wl_e rfl ?_; intro K hK
      refine ow_call Try.func58 rfl rfl (evs_nil) (law12_awake_c _) ?_
      rintro e w ⟨rfl, hk⟩
      refine ⟨_, rfl, ?_⟩
      replace hS := hS.kept hk
      clear hk
      refine hK _ _ ?_; clear hK K
      refine wl_v (x_assign (tmB rfl rfl)) ?_
      refine wl_nil ?_
      refine then_n (hK5 _ _ ?_); clear hK5 K5
      refine wp_ret ?_
      refine then_r ?_
      refine ret1 rfl (.tmp rfl (show _ = Value.bool _ from rfl)) ?_
      exact ⟨rfl, hS.kp.below⟩
   try (exfalso; first | with_reducible exact absurd hc0 Bool.false_ne_true | with_reducible exact absurd hc0.symm Bool.false_ne_true | (simp only [nrm] at hc0; omega) | (simp at hc0; done))
   all_goals
    try simp only [nrm] at hc0
    have hu9 : u + 1 ≤ 18446744073709551615 := by omega
    have hN := fun w => ring_next_c k u w
    rw [show (u + 1) % 2 ^ 64 = u + 1 by omega] at hN
    refine wp_skip ?_
    refine then_n (hK2 _ _ ?_); clear hK2 K2
    refine wp_seq_k ?_; intro K6 hK6
    refine wlit ?_
    refine wl_v (x_move (tmI rfl rfl)) ?_
    refine wl_e rfl ?_; intro K hK
    refine ow_call Try.func59 rfl rfl (evs_cons (tmI rfl rfl) <| evs_nil) (hof _) ?_
    rintro e w ⟨rfl, hk⟩
    refine ⟨_, rfl, ?_⟩
    replace hS := hS.kept hk
    clear hk
    refine hK _ _ ?_; clear hK K
    refine wl_e rfl ?_; intro K hK
    refine ow_alloc hS tz_88 rfl ?_
    clear hS; intro g3_2 w hg3_2 hS
    refine hK _ _ ?_; clear hK K
    refine wl_e rfl ?_; intro K hK
    refine ow_storeA hS 0 rfl ts_88 (tmP rfl rfl) (tmA rfl rfl) rfl rfl rfl ?_
    clear hS; intro w hS
    refine hK _ _ ?_; clear hK K
    refine wl_nil ?_
    refine then_n (hK6 _ _ ?_); clear hK6 K6
    refine wp_seq_k ?_; intro K7 hK7
    refine wlit ?_
    refine wl_v (x_fa 0 Try.underlying66 rfl rfl ts_64 (tmP rfl rfl)) ?_
    refine wl_v (x_loadA (cs := [_, _, _, _, _, _, _, _, _, _, _, _, _, _, _, _]) Try.underlying64 rfl ts_64 (tmP rfl rfl) (rangeB hS.ok 2 rfl rfl)) ?_
    refine wl_v (x_fa 16 Try.underlying66 rfl rfl ts_24 (tmP rfl rfl)) ?_
    first
     | refine wl_v (x_load Try.underlying24 rfl (tmP rfl rfl) (cellB hS.ok 2 rfl rfl)) ?_
     | refine wl_v (x_load Try.underlying24 rfl (tmP rfl rfl) (cellB hS.ok 2 rfl (getm (by omega)))) ?_
    refine wl_e rfl ?_; intro K hK
    refine ow_call Try.func36 rfl rfl (evs_cons (tmA rfl rfl) <| evs_cons (tmI rfl rfl) <| evs_nil) (ring_new_c k u _) ?_
    rintro e w ⟨rfl, hk⟩
    refine ⟨_, rfl, ?_⟩
    replace hS := hS.kept hk
    clear hk
    refine hK _ _ ?_; clear hK K
    refine wl_e rfl ?_; intro K hK
    refine ow_alloc hS tz_69 rfl ?_
    clear hS; intro g4_5 w hg4_5 hS
    refine hK _ _ ?_; clear hK K
    refine wl_e rfl ?_; intro K hK
    refine ow_storeA hS 0 rfl ts_69 (tmP rfl rfl) (tmA rfl rfl) rfl rfl rfl ?_
    clear hS; intro w hS
    try replace hS := St.nm (M' := [.blk _ _ [_, _, _, _, _, _, _, _, _, _, _, _, _, _, _, _, _], .blk _ _ [_, _], .blk _ _ [_, _, _, _, _, _, _, _, _], .blk _ _ [_, _, _, _, _, _, _, _, _, _, _, _, _, _, _, _, _], _]) hS rfl
    refine hK _ _ ?_; clear hK K
    refine wl_nil ?_
    refine then_n (hK7 _ _ ?_); clear hK7 K7
    refine wp_seq_k ?_; intro K8 hK8
    refine wlit ?_
    refine wl_v (x_loadA (cs := [_, _, _, _, _, _, _, _, _, _, _, _, _, _, _, _, _]) Try.underlying69 rfl ts_69 (tmP rfl rfl) (rangeB hS.ok 0 rfl rfl)) ?_
    refine wl_v (x_loadA (cs := [_, _, _, _, _, _, _, _, _]) Try.underlying107 rfl ts_107 (tmP rfl rfl) (rangeB hS.ok 2 rfl rfl)) ?_
    refine wl_v (x_loadA (cs := [_, _]) Try.underlying88 rfl ts_88 (tmP rfl rfl) (rangeB hS.ok 1 rfl rfl)) ?_
    refine wl_e rfl ?_; intro K hK
    refine ow_call Try.func60 rfl rfl (evs_cons (tmA rfl rfl) <| evs_cons (tmA rfl rfl) <| evs_cons (tmA rfl rfl) <| evs_nil) (hH _) ?_
    rintro e w ⟨rfl, hk⟩
    refine ⟨_, rfl, ?_⟩
    replace hS := hS.kept hk
    clear hk
    refine hK _ _ ?_; clear hK K
    refine wl_v (x_move (tmT rfl rfl)) ?_
    refine wl_v (x_ext (tmT rfl rfl) rfl) ?_
    refine wl_v (x_ext (tmT rfl rfl) rfl) ?_
    refine wl_v (x_assign (tmI rfl rfl)) ?_
    refine wl_v (x_assign (tmI rfl rfl)) ?_
    refine wl_nil ?_
    refine then_n (hK8 _ _ ?_); clear hK8 K8
    refine wp_seq_k ?_; intro K9 hK9
    refine wlit ?_
    refine wl_v (x_loadA (cs := [_, _, _, _, _, _, _, _, _, _, _, _, _, _, _, _, _]) Try.underlying69 rfl ts_69 (tmP rfl rfl) (rangeB hS.ok 0 rfl rfl)) ?_
    refine wl_v (x_loadA (cs := [_, _, _, _, _, _, _, _, _]) Try.underlying107 rfl ts_107 (tmP rfl rfl) (rangeB hS.ok 2 rfl rfl)) ?_
    refine wl_v (x_move (tmI rfl rfl)) ?_
    refine wl_e rfl ?_; intro K hK
    refine ow_call Try.func61 rfl rfl (evs_cons (tmA rfl rfl) <| evs_cons (tmA rfl rfl) <| evs_cons (tmI rfl rfl) <| evs_nil) (hS1 _) ?_
    rintro e w ⟨rfl, hk⟩
    refine ⟨_, rfl, ?_⟩
    replace hS := hS.kept hk
    clear hk
    refine hK _ _ ?_; clear hK K
    refine wl_v (x_move (tmT rfl rfl)) ?_
    refine wl_v (x_ext (tmT rfl rfl) rfl) ?_
    refine wl_v (x_ext (tmT rfl rfl) rfl) ?_
    refine wl_e rfl ?_; intro K hK
    refine ow_alloc hS tz_88 rfl ?_
    clear hS; intro g6_7 w hg6_7 hS
    refine hK _ _ ?_; clear hK K
    refine wl_e rfl ?_; intro K hK
    refine ow_storeA hS 0 rfl ts_88 (tmP rfl rfl) (tmA rfl rfl) rfl rfl rfl ?_
    clear hS; intro w hS
    refine hK _ _ ?_; clear hK K
    refine wl_v (x_assign (tmI rfl rfl)) ?_
    refine wl_nil ?_
    refine then_n (hK9 _ _ ?_); clear hK9 K9
    refine wp_seq_k ?_; intro K10 hK10
    refine rg_startk 0 hS mixed_ ?_
    clear hS; intro w hS
    refine rg_take 0 rfl rfl (by kernel_rfl) (by kernel_rfl) (by kernel_rfl) (want_0) (fun w hok => x_loadA (cs := [_, _, _, _, _, _, _, _, _, _, _, _, _, _, _, _, _]) Try.underlying69 rfl ts_69 (tmP rfl rfl) (rangeB hok 1 rfl rfl)) ?_
    refine rg_take 2 rfl rfl (by kernel_rfl) (by kernel_rfl) (by kernel_rfl) (want_0) (fun w hok => x_loadA (cs := [_, _, _, _, _, _, _, _, _]) Try.underlying107 rfl ts_107 (tmP rfl rfl) (rangeB hok 3 rfl rfl)) ?_
    refine rg_take 3 rfl rfl (by kernel_rfl) (by kernel_rfl) (by kernel_rfl) (want_0) (fun w hok => x_move (tmI rfl rfl)) ?_
    refine rg_step2 1 8 rfl rfl (by kernel_rfl) (want_0) (want_0) (oks_drop hS 0 rfl) ?_ ?_
    · intro K hK
      refine ow_call Try.func41 rfl rfl (evs_cons (tmA rfl rfl) <| evs_nil) (hN _) ?_
      rintro e w ⟨rfl, hk⟩
      refine ⟨_, rfl, ?_⟩
      replace hS := hS.kept hk
      clear hk
      refine hK _ _ ?_; clear hK K
      refine rg_step2 4 8 rfl rfl (by kernel_rfl) (want_0) (want_0) (oks_drop hS 0 rfl) ?_ ?_
      · intro K hK
        refine ow_call Try.func61 rfl rfl (evs_cons (tmA rfl rfl) <| evs_cons (tmA rfl rfl) <| evs_cons (tmI rfl rfl) <| evs_nil) (hS2 _ hu9) ?_
        rintro e w ⟨rfl, hk⟩
        refine ⟨_, rfl, ?_⟩
        replace hS := hS.kept hk
        clear hk
        refine hK _ _ ?_; clear hK K
        refine rg_take 5 rfl rfl (by kernel_rfl) (by kernel_rfl) (by kernel_rfl) (want_0) (fun w hok => x_move (tmT rfl rfl)) ?_
        refine rg_take 6 rfl rfl (by kernel_rfl) (by kernel_rfl) (by kernel_rfl) (want_0) (fun w hok => x_ext (tmT rfl rfl) rfl) ?_
        refine rg_take 7 rfl rfl (by kernel_rfl) (by kernel_rfl) (by kernel_rfl) (want_0) (fun w hok => x_ext (tmT rfl rfl) rfl) ?_
        refine rg_step 8 rfl (by kernel_rfl) (want_0) (oks_drop hS 0 rfl) ?_; intro K hK
        refine ow_alloc hS tz_88 rfl ?_
        clear hS; intro g7_8 w hg7_8 hS
        refine hK _ _ ?_; clear hK K
        refine rg_step 9 rfl (by kernel_rfl) (want_0) (oks_drop hS 1 rfl) ?_; intro K hK
        refine ow_storeA hS 0 rfl ts_88 (tmP rfl rfl) (tmA rfl rfl) rfl rfl rfl ?_
        clear hS; intro w hS
        refine hK _ _ ?_; clear hK K
        refine rg_take 10 rfl rfl (by kernel_rfl) (by kernel_rfl) (by kernel_rfl) (want_0) (fun w hok => x_assign (tmI rfl rfl)) ?_
        refine rg_done (oks_drop hS 1 rfl) (by kernel_rfl) ?_
        refine then_n (hK10 _ _ ?_); clear hK10 K10
        refine wp_seq_k ?_; intro K11 hK11
        refine wlit ?_
        refine wl_v (x_loadA (cs := [_, _]) Try.underlying88 rfl ts_88 (tmP rfl rfl) (rangeB hS.ok 3 rfl rfl)) ?_
        refine wl_e rfl ?_; intro K hK
        refine ow_call Try.func62 rfl rfl (evs_cons (tmA rfl rfl) <| evs_nil) (place_right_c v t _ (by omega) (by omega)) ?_
        rintro e w ⟨rfl, hk⟩
        refine ⟨_, rfl, ?_⟩
        replace hS := hS.kept hk
        clear hk
        refine hK _ _ ?_; clear hK K
        refine wl_v (x_move (tmB rfl rfl)) ?_
        refine gs_wls (tm (t := 55) rfl) (fun hg8_2 => ?_) (fun hg8_2 => ?_)
        · exfalso
          simp at hg8_2
        have hg8_2' := hg8_2; (try simp only [nrm] at hg8_2'); try (exfalso; first | with_reducible exact absurd hg8_2 Bool.false_ne_true | with_reducible exact absurd hg8_2.symm Bool.false_ne_true | omega | (simp at hg8_2; done))
        all_goals
         refine wl_gv (want_y rfl rfl rfl rfl (by rw [hg8_2]; rfl)) (x_loadA (cs := [_, _]) Try.underlying88 rfl ts_88 (tmP rfl rfl) (rangeB hS.ok 3 rfl rfl)) ?_
         refine wl_g (want_y rfl rfl rfl rfl (by rw [hg8_2]; rfl)) ?_; intro K hK
         refine ow_call Try.func63 rfl rfl (evs_cons (tmA rfl rfl) <| evs_nil) (hW _) ?_
         rintro e w ⟨rfl, hk⟩
         refine ⟨_, rfl, ?_⟩
         replace hS := hS.kept hk
         clear hk
         refine hK _ _ ?_; clear hK K
         refine wl_gv (want_y rfl rfl rfl rfl (by rw [hg8_2]; rfl)) (x_move (tmI rfl rfl)) ?_
         first
          | refine wl_gv (want_y rfl rfl rfl rfl (by rw [hg8_2]; rfl)) (x_remN (tmI rfl rfl) (ev_cN 32768) (by omega)) ?_
          | refine wl_gv (want_y rfl rfl rfl rfl (by rw [hg8_2]; rfl)) (x_rem (tmI rfl rfl) (ev_cN 32768) (by omega)) ?_
         refine wl_gv (want_y rfl rfl rfl rfl (by rw [hg8_2]; rfl)) (x_eql (tmI rfl rfl) (tmI rfl rfl)) ?_
         refine wl_v (x_pickT (tmB rfl rfl) hg8_2 (tmB rfl rfl)) ?_
         refine wl_v (x_move (tmB rfl rfl)) ?_
         refine gs_wls (tm (t := 62) rfl) (fun hg8_9 => ?_) (fun hg8_9 => ?_)
         · exfalso
           simp at hg8_9
           omega
         have hg8_9' := hg8_9; (try simp only [nrm] at hg8_9'); try (exfalso; first | with_reducible exact absurd hg8_9 Bool.false_ne_true | with_reducible exact absurd hg8_9.symm Bool.false_ne_true | omega | (simp at hg8_9; done))
         all_goals
          refine wl_gv (want_y rfl rfl rfl rfl (by rw [hg8_9]; rfl)) (x_move (tmI rfl rfl)) ?_
          refine wl_gv (want_y rfl rfl rfl rfl (by rw [hg8_9]; rfl)) (x_eql (tmI rfl rfl) (ev_cN 0)) ?_
          refine wl_v (x_pickT (tmB rfl rfl) hg8_9 (tmB rfl rfl)) ?_
          refine wl_v (x_move (tmB rfl rfl)) ?_
          refine gs_wls (tm (t := 66) rfl) (fun hg8_13 => ?_) (fun hg8_13 => ?_)
          · exfalso
            simp at hg8_13
          have hg8_13' := hg8_13; (try simp only [nrm] at hg8_13'); try (exfalso; first | with_reducible exact absurd hg8_13 Bool.false_ne_true | with_reducible exact absurd hg8_13.symm Bool.false_ne_true | omega | (simp at hg8_13; done))
          all_goals
           refine wl_gv (want_y rfl rfl rfl rfl (by rw [hg8_13]; rfl)) (x_move (tmI rfl rfl)) ?_
           refine wl_gv (want_y rfl rfl rfl rfl (by rw [hg8_13]; rfl)) (x_eql (tmI rfl rfl) (ev_cN 0)) ?_
           refine wl_v (x_pickT (tmB rfl rfl) hg8_13 (tmB rfl rfl)) ?_
           refine wl_v (x_move (tmB rfl rfl)) ?_
           refine gs_wls (tm (t := 70) rfl) (fun hg8_17 => ?_) (fun hg8_17 => ?_)
           · exfalso
             simp at hg8_17
           have hg8_17' := hg8_17; (try simp only [nrm] at hg8_17'); try (exfalso; first | with_reducible exact absurd hg8_17 Bool.false_ne_true | with_reducible exact absurd hg8_17.symm Bool.false_ne_true | omega | (simp at hg8_17; done))
           all_goals
            refine wl_gv (want_y rfl rfl rfl rfl (by rw [hg8_17]; rfl)) (x_move (tmI rfl rfl)) ?_
            refine wl_gv (want_y rfl rfl rfl rfl (by rw [hg8_17]; rfl)) (x_eql (tmI rfl rfl) (ev_cN 0)) ?_
            refine wl_v (x_pickT (tmB rfl rfl) hg8_17 (tmB rfl rfl)) ?_
            refine wl_v (x_move (tmB rfl rfl)) ?_
            refine gs_wls (tm (t := 74) rfl) (fun hg8_21 => ?_) (fun hg8_21 => ?_)
            · exfalso
              simp at hg8_21
            have hg8_21' := hg8_21; (try simp only [nrm] at hg8_21'); try (exfalso; first | with_reducible exact absurd hg8_21 Bool.false_ne_true | with_reducible exact absurd hg8_21.symm Bool.false_ne_true | omega | (simp at hg8_21; done))
            all_goals
             refine wl_gv (want_y rfl rfl rfl rfl (by rw [hg8_21]; rfl)) (x_loadA (cs := [_, _]) Try.underlying88 rfl ts_88 (tmP rfl rfl) (rangeB hS.ok 1 rfl rfl)) ?_
             refine wl_gv (want_y rfl rfl rfl rfl (by rw [hg8_21]; rfl)) (x_loadA (cs := [_, _]) Try.underlying88 rfl ts_88 (tmP rfl rfl) (rangeB hS.ok 3 rfl rfl)) ?_
             refine wl_gv (want_y rfl rfl rfl rfl (by rw [hg8_21]; rfl)) (x_Aeql (by kernel_rfl) (tmA rfl rfl) (tmA rfl rfl) (eqv_A Try.underlying88 (by kernel_rfl) (fe_cons rfl (pt_1 Try.underlying3 rfl rfl) (pt_1 Try.underlying3 rfl rfl) (eqv_i Try.underlying3) <| fe_cons rfl (pt_1 Try.underlying3 rfl rfl) (pt_1 Try.underlying3 rfl rfl) (eqv_i Try.underlying3) <| fe_nil))) ?_
             refine wl_v (x_pickT (tmB rfl rfl) hg8_21 (tmB rfl rfl)) ?_
             refine wl_v (x_move (tmB rfl rfl)) ?_
             refine gs_wls (tm (t := 79) rfl) (fun hg8_26 => ?_) (fun hg8_26 => ?_)
             · exfalso
               simp at hg8_26
             have hg8_26' := hg8_26; (try simp only [nrm] at hg8_26'); try (exfalso; first | with_reducible exact absurd hg8_26 Bool.false_ne_true | with_reducible exact absurd hg8_26.symm Bool.false_ne_true | omega | (simp at hg8_26; done))
             all_goals
              refine wl_gv (want_y rfl rfl rfl rfl (by rw [hg8_26]; rfl)) (x_loadA (cs := [_, _]) Try.underlying88 rfl ts_88 (tmP rfl rfl) (rangeB hS.ok 0 rfl rfl)) ?_
              refine wl_gv (want_y rfl rfl rfl rfl (by rw [hg8_26]; rfl)) (x_loadA (cs := [_, _]) Try.underlying88 rfl ts_88 (tmP rfl rfl) (rangeB hS.ok 3 rfl rfl)) ?_
              refine wl_gv (want_y rfl rfl rfl rfl (by rw [hg8_26]; rfl)) (x_Aeql (by kernel_rfl) (tmA rfl rfl) (tmA rfl rfl) (eqv_A Try.underlying88 (by kernel_rfl) (fe_cons rfl (pt_1 Try.underlying3 rfl rfl) (pt_1 Try.underlying3 rfl rfl) (eqv_i Try.underlying3) <| fe_cons rfl (pt_1 Try.underlying3 rfl rfl) (pt_1 Try.underlying3 rfl rfl) (eqv_i Try.underlying3) <| fe_nil))) ?_
              refine wl_v (x_pickT (tmB rfl rfl) hg8_26 (tmB rfl rfl)) ?_
              refine wl_v (x_move (tmB rfl rfl)) ?_
              refine gs_wls (tm (t := 84) rfl) (fun hg8_31 => ?_) (fun hg8_31 => ?_)
              · exfalso
                simp at hg8_31
              have hg8_31' := hg8_31; (try simp only [nrm] at hg8_31'); try (exfalso; first | with_reducible exact absurd hg8_31 Bool.false_ne_true | with_reducible exact absurd hg8_31.symm Bool.false_ne_true | omega | (simp at hg8_31; done))
              all_goals
               refine wl_g (want_y rfl rfl rfl rfl (by rw [hg8_31]; rfl)) ?_; intro K hK
               refine ow_call Try.func58 rfl rfl (evs_nil) (law12_awake_c _) ?_
               rintro e w ⟨rfl, hk⟩
               refine ⟨_, rfl, ?_⟩
               replace hS := hS.kept hk
               clear hk
               refine hK _ _ ?_; clear hK K
               refine wl_v (x_pickT (tmB rfl rfl) hg8_31 (tmB rfl rfl)) ?_
               refine wl_v (x_assign (tmB rfl rfl)) ?_
               refine wl_nil ?_
               refine then_n (hK11 _ _ ?_); clear hK11 K11
               refine wp_ret ?_
               refine ret1 rfl (.tmp rfl (show _ = Value.bool _ from rfl)) ?_
               exact ⟨rfl, hS.kp.below⟩
      · intro K hK
        refine ow_alloc hS tz_88 rfl ?_
        clear hS; intro g7_8 w hg7_8 hS
        refine hK _ _ ?_; clear hK K
        refine rg_step 4 rfl (by kernel_rfl) (want_0) (oks_drop hS 1 rfl) ?_; intro K hK
        refine ow_call Try.func61 rfl rfl (evs_cons (tmA rfl rfl) <| evs_cons (tmA rfl rfl) <| evs_cons (tmI rfl rfl) <| evs_nil) (hS2 _ hu9) ?_
        rintro e w ⟨rfl, hk⟩
        refine ⟨_, rfl, ?_⟩
        replace hS := hS.kept hk
        clear hk
        refine hK _ _ ?_; clear hK K
        refine rg_take 5 rfl rfl (by kernel_rfl) (by kernel_rfl) (by kernel_rfl) (want_0) (fun w hok => x_move (tmT rfl rfl)) ?_
        refine rg_take 6 rfl rfl (by kernel_rfl) (by kernel_rfl) (by kernel_rfl) (want_0) (fun w hok => x_ext (tmT rfl rfl) rfl) ?_
        refine rg_take 7 rfl rfl (by kernel_rfl) (by kernel_rfl) (by kernel_rfl) (want_0) (fun w hok => x_ext (tmT rfl rfl) rfl) ?_
        refine rg_step 9 rfl (by kernel_rfl) (want_0) (oks_drop hS 1 rfl) ?_; intro K hK
        refine ow_storeA hS 0 rfl ts_88 (tmP rfl rfl) (tmA rfl rfl) rfl rfl rfl ?_
        clear hS; intro w hS
        refine hK _ _ ?_; clear hK K
        refine rg_take 10 rfl rfl (by kernel_rfl) (by kernel_rfl) (by kernel_rfl) (want_0) (fun w hok => x_assign (tmI rfl rfl)) ?_
        refine rg_done (oks_drop hS 1 rfl) (by kernel_rfl) ?_
        refine then_n (hK10 _ _ ?_); clear hK10 K10
        refine wp_seq_k ?_; intro K12 hK12
        refine wlit ?_
        refine wl_v (x_loadA (cs := [_, _]) Try.underlying88 rfl ts_88 (tmP rfl rfl) (rangeB hS.ok 3 rfl rfl)) ?_
        refine wl_e rfl ?_; intro K hK
        refine ow_call Try.func62 rfl rfl (evs_cons (tmA rfl rfl) <| evs_nil) (place_right_c v t _ (by omega) (by omega)) ?_
        rintro e w ⟨rfl, hk⟩
        refine ⟨_, rfl, ?_⟩
        replace hS := hS.kept hk
        clear hk
        refine hK _ _ ?_; clear hK K
        refine wl_v (x_move (tmB rfl rfl)) ?_
        refine gs_wls (tm (t := 55) rfl) (fun hg8_2 => ?_) (fun hg8_2 => ?_)
        · exfalso
          simp at hg8_2
        have hg8_2' := hg8_2; (try simp only [nrm] at hg8_2'); try (exfalso; first | with_reducible exact absurd hg8_2 Bool.false_ne_true | with_reducible exact absurd hg8_2.symm Bool.false_ne_true | omega | (simp at hg8_2; done))
        all_goals
         refine wl_gv (want_y rfl rfl rfl rfl (by rw [hg8_2]; rfl)) (x_loadA (cs := [_, _]) Try.underlying88 rfl ts_88 (tmP rfl rfl) (rangeB hS.ok 3 rfl rfl)) ?_
         refine wl_g (want_y rfl rfl rfl rfl (by rw [hg8_2]; rfl)) ?_; intro K hK
         refine ow_call Try.func63 rfl rfl (evs_cons (tmA rfl rfl) <| evs_nil) (hW _) ?_
         rintro e w ⟨rfl, hk⟩
         refine ⟨_, rfl, ?_⟩
         replace hS := hS.kept hk
         clear hk
         refine hK _ _ ?_; clear hK K
         refine wl_gv (want_y rfl rfl rfl rfl (by rw [hg8_2]; rfl)) (x_move (tmI rfl rfl)) ?_
         first
          | refine wl_gv (want_y rfl rfl rfl rfl (by rw [hg8_2]; rfl)) (x_remN (tmI rfl rfl) (ev_cN 32768) (by omega)) ?_
          | refine wl_gv (want_y rfl rfl rfl rfl (by rw [hg8_2]; rfl)) (x_rem (tmI rfl rfl) (ev_cN 32768) (by omega)) ?_
         refine wl_gv (want_y rfl rfl rfl rfl (by rw [hg8_2]; rfl)) (x_eql (tmI rfl rfl) (tmI rfl rfl)) ?_
         refine wl_v (x_pickT (tmB rfl rfl) hg8_2 (tmB rfl rfl)) ?_
         refine wl_v (x_move (tmB rfl rfl)) ?_
         refine gs_wls (tm (t := 62) rfl) (fun hg8_9 => ?_) (fun hg8_9 => ?_)
         · exfalso
           simp at hg8_9
           omega
         have hg8_9' := hg8_9; (try simp only [nrm] at hg8_9'); try (exfalso; first | with_reducible exact absurd hg8_9 Bool.false_ne_true | with_reducible exact absurd hg8_9.symm Bool.false_ne_true | omega | (simp at hg8_9; done))
         all_goals
          refine wl_gv (want_y rfl rfl rfl rfl (by rw [hg8_9]; rfl)) (x_move (tmI rfl rfl)) ?_
          refine wl_gv (want_y rfl rfl rfl rfl (by rw [hg8_9]; rfl)) (x_eql (tmI rfl rfl) (ev_cN 0)) ?_
          refine wl_v (x_pickT (tmB rfl rfl) hg8_9 (tmB rfl rfl)) ?_
          refine wl_v (x_move (tmB rfl rfl)) ?_
          refine gs_wls (tm (t := 66) rfl) (fun hg8_13 => ?_) (fun hg8_13 => ?_)
          · exfalso
            simp at hg8_13
          have hg8_13' := hg8_13; (try simp only [nrm] at hg8_13'); try (exfalso; first | with_reducible exact absurd hg8_13 Bool.false_ne_true | with_reducible exact absurd hg8_13.symm Bool.false_ne_true | omega | (simp at hg8_13; done))
          all_goals
           refine wl_gv (want_y rfl rfl rfl rfl (by rw [hg8_13]; rfl)) (x_move (tmI rfl rfl)) ?_
           refine wl_gv (want_y rfl rfl rfl rfl (by rw [hg8_13]; rfl)) (x_eql (tmI rfl rfl) (ev_cN 0)) ?_
           refine wl_v (x_pickT (tmB rfl rfl) hg8_13 (tmB rfl rfl)) ?_
           refine wl_v (x_move (tmB rfl rfl)) ?_
           refine gs_wls (tm (t := 70) rfl) (fun hg8_17 => ?_) (fun hg8_17 => ?_)
           · exfalso
             simp at hg8_17
           have hg8_17' := hg8_17; (try simp only [nrm] at hg8_17'); try (exfalso; first | with_reducible exact absurd hg8_17 Bool.false_ne_true | with_reducible exact absurd hg8_17.symm Bool.false_ne_true | omega | (simp at hg8_17; done))
           all_goals
            refine wl_gv (want_y rfl rfl rfl rfl (by rw [hg8_17]; rfl)) (x_move (tmI rfl rfl)) ?_
            refine wl_gv (want_y rfl rfl rfl rfl (by rw [hg8_17]; rfl)) (x_eql (tmI rfl rfl) (ev_cN 0)) ?_
            refine wl_v (x_pickT (tmB rfl rfl) hg8_17 (tmB rfl rfl)) ?_
            refine wl_v (x_move (tmB rfl rfl)) ?_
            refine gs_wls (tm (t := 74) rfl) (fun hg8_21 => ?_) (fun hg8_21 => ?_)
            · exfalso
              simp at hg8_21
            have hg8_21' := hg8_21; (try simp only [nrm] at hg8_21'); try (exfalso; first | with_reducible exact absurd hg8_21 Bool.false_ne_true | with_reducible exact absurd hg8_21.symm Bool.false_ne_true | omega | (simp at hg8_21; done))
            all_goals
             refine wl_gv (want_y rfl rfl rfl rfl (by rw [hg8_21]; rfl)) (x_loadA (cs := [_, _]) Try.underlying88 rfl ts_88 (tmP rfl rfl) (rangeB hS.ok 1 rfl rfl)) ?_
             refine wl_gv (want_y rfl rfl rfl rfl (by rw [hg8_21]; rfl)) (x_loadA (cs := [_, _]) Try.underlying88 rfl ts_88 (tmP rfl rfl) (rangeB hS.ok 3 rfl rfl)) ?_
             refine wl_gv (want_y rfl rfl rfl rfl (by rw [hg8_21]; rfl)) (x_Aeql (by kernel_rfl) (tmA rfl rfl) (tmA rfl rfl) (eqv_A Try.underlying88 (by kernel_rfl) (fe_cons rfl (pt_1 Try.underlying3 rfl rfl) (pt_1 Try.underlying3 rfl rfl) (eqv_i Try.underlying3) <| fe_cons rfl (pt_1 Try.underlying3 rfl rfl) (pt_1 Try.underlying3 rfl rfl) (eqv_i Try.underlying3) <| fe_nil))) ?_
             refine wl_v (x_pickT (tmB rfl rfl) hg8_21 (tmB rfl rfl)) ?_
             refine wl_v (x_move (tmB rfl rfl)) ?_
             refine gs_wls (tm (t := 79) rfl) (fun hg8_26 => ?_) (fun hg8_26 => ?_)
             · exfalso
               simp at hg8_26
             have hg8_26' := hg8_26; (try simp only [nrm] at hg8_26'); try (exfalso; first | with_reducible exact absurd hg8_26 Bool.false_ne_true | with_reducible exact absurd hg8_26.symm Bool.false_ne_true | omega | (simp at hg8_26; done))
             all_goals
              refine wl_gv (want_y rfl rfl rfl rfl (by rw [hg8_26]; rfl)) (x_loadA (cs := [_, _]) Try.underlying88 rfl ts_88 (tmP rfl rfl) (rangeB hS.ok 0 rfl rfl)) ?_
              refine wl_gv (want_y rfl rfl rfl rfl (by rw [hg8_26]; rfl)) (x_loadA (cs := [_, _]) Try.underlying88 rfl ts_88 (tmP rfl rfl) (rangeB hS.ok 3 rfl rfl)) ?_
              refine wl_gv (want_y rfl rfl rfl rfl (by rw [hg8_26]; rfl)) (x_Aeql (by kernel_rfl) (tmA rfl rfl) (tmA rfl rfl) (eqv_A Try.underlying88 (by kernel_rfl) (fe_cons rfl (pt_1 Try.underlying3 rfl rfl) (pt_1 Try.underlying3 rfl rfl) (eqv_i Try.underlying3) <| fe_cons rfl (pt_1 Try.underlying3 rfl rfl) (pt_1 Try.underlying3 rfl rfl) (eqv_i Try.underlying3) <| fe_nil))) ?_
              refine wl_v (x_pickT (tmB rfl rfl) hg8_26 (tmB rfl rfl)) ?_
              refine wl_v (x_move (tmB rfl rfl)) ?_
              refine gs_wls (tm (t := 84) rfl) (fun hg8_31 => ?_) (fun hg8_31 => ?_)
              · exfalso
                simp at hg8_31
              have hg8_31' := hg8_31; (try simp only [nrm] at hg8_31'); try (exfalso; first | with_reducible exact absurd hg8_31 Bool.false_ne_true | with_reducible exact absurd hg8_31.symm Bool.false_ne_true | omega | (simp at hg8_31; done))
              all_goals
               refine wl_g (want_y rfl rfl rfl rfl (by rw [hg8_31]; rfl)) ?_; intro K hK
               refine ow_call Try.func58 rfl rfl (evs_nil) (law12_awake_c _) ?_
               rintro e w ⟨rfl, hk⟩
               refine ⟨_, rfl, ?_⟩
               replace hS := hS.kept hk
               clear hk
               refine hK _ _ ?_; clear hK K
               refine wl_v (x_pickT (tmB rfl rfl) hg8_31 (tmB rfl rfl)) ?_
               refine wl_v (x_assign (tmB rfl rfl)) ?_
               refine wl_nil ?_
               refine then_n (hK12 _ _ ?_); clear hK12 K12
               refine wp_ret ?_
               refine ret1 rfl (.tmp rfl (show _ = Value.bool _ from rfl)) ?_
               exact ⟨rfl, hS.kp.below⟩
    · intro K hK
      refine ow_alloc hS tz_88 rfl ?_
      clear hS; intro g7_8 w hg7_8 hS
      refine hK _ _ ?_; clear hK K
      refine rg_step 1 rfl (by kernel_rfl) (want_0) (oks_drop hS 1 rfl) ?_; intro K hK
      refine ow_call Try.func41 rfl rfl (evs_cons (tmA rfl rfl) <| evs_nil) (hN _) ?_
      rintro e w ⟨rfl, hk⟩
      refine ⟨_, rfl, ?_⟩
      replace hS := hS.kept hk
      clear hk
      refine hK _ _ ?_; clear hK K
      refine rg_step 4 rfl (by kernel_rfl) (want_0) (oks_drop hS 1 rfl) ?_; intro K hK
      refine ow_call Try.func61 rfl rfl (evs_cons (tmA rfl rfl) <| evs_cons (tmA rfl rfl) <| evs_cons (tmI rfl rfl) <| evs_nil) (hS2 _ hu9) ?_
      rintro e w ⟨rfl, hk⟩
      refine ⟨_, rfl, ?_⟩
      replace hS := hS.kept hk
      clear hk
      refine hK _ _ ?_; clear hK K
      refine rg_take 5 rfl rfl (by kernel_rfl) (by kernel_rfl) (by kernel_rfl) (want_0) (fun w hok => x_move (tmT rfl rfl)) ?_
      refine rg_take 6 rfl rfl (by kernel_rfl) (by kernel_rfl) (by kernel_rfl) (want_0) (fun w hok => x_ext (tmT rfl rfl) rfl) ?_
      refine rg_take 7 rfl rfl (by kernel_rfl) (by kernel_rfl) (by kernel_rfl) (want_0) (fun w hok => x_ext (tmT rfl rfl) rfl) ?_
      refine rg_step 9 rfl (by kernel_rfl) (want_0) (oks_drop hS 1 rfl) ?_; intro K hK
      refine ow_storeA hS 0 rfl ts_88 (tmP rfl rfl) (tmA rfl rfl) rfl rfl rfl ?_
      clear hS; intro w hS
      refine hK _ _ ?_; clear hK K
      refine rg_take 10 rfl rfl (by kernel_rfl) (by kernel_rfl) (by kernel_rfl) (want_0) (fun w hok => x_assign (tmI rfl rfl)) ?_
      refine rg_done (oks_drop hS 1 rfl) (by kernel_rfl) ?_
      refine then_n (hK10 _ _ ?_); clear hK10 K10
      refine wp_seq_k ?_; intro K13 hK13
      refine wlit ?_
      refine wl_v (x_loadA (cs := [_, _]) Try.underlying88 rfl ts_88 (tmP rfl rfl) (rangeB hS.ok 3 rfl rfl)) ?_
      refine wl_e rfl ?_; intro K hK
      refine ow_call Try.func62 rfl rfl (evs_cons (tmA rfl rfl) <| evs_nil) (place_right_c v t _ (by omega) (by omega)) ?_
      rintro e w ⟨rfl, hk⟩
      refine ⟨_, rfl, ?_⟩
      replace hS := hS.kept hk
      clear hk
      refine hK _ _ ?_; clear hK K
      refine wl_v (x_move (tmB rfl rfl)) ?_
      refine gs_wls (tm (t := 55) rfl) (fun hg8_2 => ?_) (fun hg8_2 => ?_)
      · exfalso
        simp at hg8_2
      have hg8_2' := hg8_2; (try simp only [nrm] at hg8_2'); try (exfalso; first | with_reducible exact absurd hg8_2 Bool.false_ne_true | with_reducible exact absurd hg8_2.symm Bool.false_ne_true | omega | (simp at hg8_2; done))
      all_goals
       refine wl_gv (want_y rfl rfl rfl rfl (by rw [hg8_2]; rfl)) (x_loadA (cs := [_, _]) Try.underlying88 rfl ts_88 (tmP rfl rfl) (rangeB hS.ok 3 rfl rfl)) ?_
       refine wl_g (want_y rfl rfl rfl rfl (by rw [hg8_2]; rfl)) ?_; intro K hK
       refine ow_call Try.func63 rfl rfl (evs_cons (tmA rfl rfl) <| evs_nil) (hW _) ?_
       rintro e w ⟨rfl, hk⟩
       refine ⟨_, rfl, ?_⟩
       replace hS := hS.kept hk
       clear hk
       refine hK _ _ ?_; clear hK K
       refine wl_gv (want_y rfl rfl rfl rfl (by rw [hg8_2]; rfl)) (x_move (tmI rfl rfl)) ?_
       first
        | refine wl_gv (want_y rfl rfl rfl rfl (by rw [hg8_2]; rfl)) (x_remN (tmI rfl rfl) (ev_cN 32768) (by omega)) ?_
        | refine wl_gv (want_y rfl rfl rfl rfl (by rw [hg8_2]; rfl)) (x_rem (tmI rfl rfl) (ev_cN 32768) (by omega)) ?_
       refine wl_gv (want_y rfl rfl rfl rfl (by rw [hg8_2]; rfl)) (x_eql (tmI rfl rfl) (tmI rfl rfl)) ?_
       refine wl_v (x_pickT (tmB rfl rfl) hg8_2 (tmB rfl rfl)) ?_
       refine wl_v (x_move (tmB rfl rfl)) ?_
       refine gs_wls (tm (t := 62) rfl) (fun hg8_9 => ?_) (fun hg8_9 => ?_)
       · exfalso
         simp at hg8_9
         omega
       have hg8_9' := hg8_9; (try simp only [nrm] at hg8_9'); try (exfalso; first | with_reducible exact absurd hg8_9 Bool.false_ne_true | with_reducible exact absurd hg8_9.symm Bool.false_ne_true | omega | (simp at hg8_9; done))
       all_goals
        refine wl_gv (want_y rfl rfl rfl rfl (by rw [hg8_9]; rfl)) (x_move (tmI rfl rfl)) ?_
        refine wl_gv (want_y rfl rfl rfl rfl (by rw [hg8_9]; rfl)) (x_eql (tmI rfl rfl) (ev_cN 0)) ?_
        refine wl_v (x_pickT (tmB rfl rfl) hg8_9 (tmB rfl rfl)) ?_
        refine wl_v (x_move (tmB rfl rfl)) ?_
        refine gs_wls (tm (t := 66) rfl) (fun hg8_13 => ?_) (fun hg8_13 => ?_)
        · exfalso
          simp at hg8_13
        have hg8_13' := hg8_13; (try simp only [nrm] at hg8_13'); try (exfalso; first | with_reducible exact absurd hg8_13 Bool.false_ne_true | with_reducible exact absurd hg8_13.symm Bool.false_ne_true | omega | (simp at hg8_13; done))
        all_goals
         refine wl_gv (want_y rfl rfl rfl rfl (by rw [hg8_13]; rfl)) (x_move (tmI rfl rfl)) ?_
         refine wl_gv (want_y rfl rfl rfl rfl (by rw [hg8_13]; rfl)) (x_eql (tmI rfl rfl) (ev_cN 0)) ?_
         refine wl_v (x_pickT (tmB rfl rfl) hg8_13 (tmB rfl rfl)) ?_
         refine wl_v (x_move (tmB rfl rfl)) ?_
         refine gs_wls (tm (t := 70) rfl) (fun hg8_17 => ?_) (fun hg8_17 => ?_)
         · exfalso
           simp at hg8_17
         have hg8_17' := hg8_17; (try simp only [nrm] at hg8_17'); try (exfalso; first | with_reducible exact absurd hg8_17 Bool.false_ne_true | with_reducible exact absurd hg8_17.symm Bool.false_ne_true | omega | (simp at hg8_17; done))
         all_goals
          refine wl_gv (want_y rfl rfl rfl rfl (by rw [hg8_17]; rfl)) (x_move (tmI rfl rfl)) ?_
          refine wl_gv (want_y rfl rfl rfl rfl (by rw [hg8_17]; rfl)) (x_eql (tmI rfl rfl) (ev_cN 0)) ?_
          refine wl_v (x_pickT (tmB rfl rfl) hg8_17 (tmB rfl rfl)) ?_
          refine wl_v (x_move (tmB rfl rfl)) ?_
          refine gs_wls (tm (t := 74) rfl) (fun hg8_21 => ?_) (fun hg8_21 => ?_)
          · exfalso
            simp at hg8_21
          have hg8_21' := hg8_21; (try simp only [nrm] at hg8_21'); try (exfalso; first | with_reducible exact absurd hg8_21 Bool.false_ne_true | with_reducible exact absurd hg8_21.symm Bool.false_ne_true | omega | (simp at hg8_21; done))
          all_goals
           refine wl_gv (want_y rfl rfl rfl rfl (by rw [hg8_21]; rfl)) (x_loadA (cs := [_, _]) Try.underlying88 rfl ts_88 (tmP rfl rfl) (rangeB hS.ok 1 rfl rfl)) ?_
           refine wl_gv (want_y rfl rfl rfl rfl (by rw [hg8_21]; rfl)) (x_loadA (cs := [_, _]) Try.underlying88 rfl ts_88 (tmP rfl rfl) (rangeB hS.ok 3 rfl rfl)) ?_
           refine wl_gv (want_y rfl rfl rfl rfl (by rw [hg8_21]; rfl)) (x_Aeql (by kernel_rfl) (tmA rfl rfl) (tmA rfl rfl) (eqv_A Try.underlying88 (by kernel_rfl) (fe_cons rfl (pt_1 Try.underlying3 rfl rfl) (pt_1 Try.underlying3 rfl rfl) (eqv_i Try.underlying3) <| fe_cons rfl (pt_1 Try.underlying3 rfl rfl) (pt_1 Try.underlying3 rfl rfl) (eqv_i Try.underlying3) <| fe_nil))) ?_
           refine wl_v (x_pickT (tmB rfl rfl) hg8_21 (tmB rfl rfl)) ?_
           refine wl_v (x_move (tmB rfl rfl)) ?_
           refine gs_wls (tm (t := 79) rfl) (fun hg8_26 => ?_) (fun hg8_26 => ?_)
           · exfalso
             simp at hg8_26
           have hg8_26' := hg8_26; (try simp only [nrm] at hg8_26'); try (exfalso; first | with_reducible exact absurd hg8_26 Bool.false_ne_true | with_reducible exact absurd hg8_26.symm Bool.false_ne_true | omega | (simp at hg8_26; done))
           all_goals
            refine wl_gv (want_y rfl rfl rfl rfl (by rw [hg8_26]; rfl)) (x_loadA (cs := [_, _]) Try.underlying88 rfl ts_88 (tmP rfl rfl) (rangeB hS.ok 0 rfl rfl)) ?_
            refine wl_gv (want_y rfl rfl rfl rfl (by rw [hg8_26]; rfl)) (x_loadA (cs := [_, _]) Try.underlying88 rfl ts_88 (tmP rfl rfl) (rangeB hS.ok 3 rfl rfl)) ?_
            refine wl_gv (want_y rfl rfl rfl rfl (by rw [hg8_26]; rfl)) (x_Aeql (by kernel_rfl) (tmA rfl rfl) (tmA rfl rfl) (eqv_A Try.underlying88 (by kernel_rfl) (fe_cons rfl (pt_1 Try.underlying3 rfl rfl) (pt_1 Try.underlying3 rfl rfl) (eqv_i Try.underlying3) <| fe_cons rfl (pt_1 Try.underlying3 rfl rfl) (pt_1 Try.underlying3 rfl rfl) (eqv_i Try.underlying3) <| fe_nil))) ?_
            refine wl_v (x_pickT (tmB rfl rfl) hg8_26 (tmB rfl rfl)) ?_
            refine wl_v (x_move (tmB rfl rfl)) ?_
            refine gs_wls (tm (t := 84) rfl) (fun hg8_31 => ?_) (fun hg8_31 => ?_)
            · exfalso
              simp at hg8_31
            have hg8_31' := hg8_31; (try simp only [nrm] at hg8_31'); try (exfalso; first | with_reducible exact absurd hg8_31 Bool.false_ne_true | with_reducible exact absurd hg8_31.symm Bool.false_ne_true | omega | (simp at hg8_31; done))
            all_goals
             refine wl_g (want_y rfl rfl rfl rfl (by rw [hg8_31]; rfl)) ?_; intro K hK
             refine ow_call Try.func58 rfl rfl (evs_nil) (law12_awake_c _) ?_
             rintro e w ⟨rfl, hk⟩
             refine ⟨_, rfl, ?_⟩
             replace hS := hS.kept hk
             clear hk
             refine hK _ _ ?_; clear hK K
             refine wl_v (x_pickT (tmB rfl rfl) hg8_31 (tmB rfl rfl)) ?_
             refine wl_v (x_assign (tmB rfl rfl)) ?_
             refine wl_nil ?_
             refine then_n (hK13 _ _ ?_); clear hK13 K13
             refine wp_ret ?_
             refine ret1 rfl (.tmp rfl (show _ = Value.bool _ from rfl)) ?_
             exact ⟨rfl, hS.kp.below⟩
set_option maxRecDepth 100000 in
theorem walk (v0 v1 : Value) (a2 : Int) (w0 : World) {H : Type} {enc : TypeId × Value → H} {r : Reach} {b0 b1 : Nat} {d0 d1 : DataW H} {p0 p1 : List MemPlace}
    (hval0 : Value.okWide Try.prog w0 r b0 66 v0) (hd0 : DataW.Trod enc Try.prog w0 0 (fun _ => true) true 66 v0 d0 p0) (hlt0 : ∀ p ∈ p0, p.block < w0.heap.size)
    (hval1 : Value.okWide Try.prog w0 r b1 107 v1) (hd1 : DataW.Trod enc Try.prog w0 0 (fun _ => true) true 107 v1 d1 p1) (hlt1 : ∀ p ∈ p1, p.block < w0.heap.size)
    (w2 : 0 ≤ a2 ∧ a2 < 65536) :
    Calls Try.prog 12 #[v0, v1, .int .u16 a2] w0 fun e w' => e = .returned (.bool true) ∧ Below w0.heap.size w0 w' := by
  obtain ⟨x, rfl, hx⟩ := RRing.open_a hval0 hd0 hlt0
  obtain ⟨y, rfl, hy⟩ := GFlow.open_a hval1 hd1 hlt1
  obtain ⟨n, rfl⟩ := Int.eq_ofNat_of_zero_le w2.1
  obtain ⟨k, u⟩ := x
  obtain ⟨s, d, sp, dp, pr⟩ := y
  obtain ⟨y1, y2, y3, y4, y5⟩ := hy
  exact walkC k u s d sp dp pr n w0 hx.1 hx.2 ⟨by have := y1; simp [Ad.ok] at this; omega, by have := y1; simp [Ad.ok] at this; omega⟩ ⟨by have := y2; simp [Ad.ok] at this; omega, by have := y2; simp [Ad.ok] at this; omega⟩ y3 y4 y5 (by omega)
end CookieBack
end Go.Proofs.Ytilgolflpdpfnaa
