/- Proved: TunnelTwice returns true for every two tunnels, header and load, and changes no memory that was there. Conditions: none. -/
import Derived.Test.YtilgolflpdpfnaaTunE
import Derived.Test.YtilgolflpdpfnaaIp4Q
import Derived.Test.YtilgolflpdpfnaaArgs
namespace Go.Proofs.Ytilgolflpdpfnaa
open Go.ChangeShapes Go.WideShapes Go.ChangeAt Go.RowKit
structure RWay where
  src : Ad
  dst : Ad
  ttl : Nat
def RWay.V (s : RWay) : List Value := [.bool s.src.six, .int .u64 (s.src.high : Int), .int .u64 (s.src.low : Int), .bool s.dst.six, .int .u64 (s.dst.high : Int), .int .u64 (s.dst.low : Int), .int .u8 (s.ttl : Int)]
theorem RWay.len (s : RWay) : s.V.length = 7 := rfl
def RWay.ok (w : World) (s : RWay) : Prop := s.src.ok w ∧ s.dst.ok w ∧ s.ttl < 256
instance : Inhabited RWay := ⟨⟨default, default, 0⟩⟩
set_option maxRecDepth 100000 in
theorem RWay.open_t {H : Type} {enc : TypeId × Value → H} {w : World} {fuel : Nat} {cs : List Value} {x : DataW H × List MemPlace} (hf : DataW.trod enc Try.prog w 0 (fun _ => true) true fuel 32 cs = some x) (hlt : ∀ p ∈ x.2, p.block < w.heap.size) : ∃ s : RWay, cs = s.V ∧ s.ok w := by
  have hC : Try.prog.cellsOf 32 = 7 := by kernel_rfl
  have hl := (DataW.trod_struct Try.underlying32 hf).choose_spec.choose_spec.2.2.1
  rw [hC] at hl
  obtain ⟨y0, k0, t0, b0⟩ := field_t Try.underlying32 hf hlt 0 _ rfl
  have hC0 : Try.prog.cellsOf 26 = 3 := by kernel_rfl
  obtain ⟨s0, e0, o0⟩ := Ad.open_t t0 b0
  have d0 := split_drop cs 0 3 (hC0 ▸ e0)
  obtain ⟨y1, k1, t1, b1⟩ := field_t Try.underlying32 hf hlt 1 _ rfl
  have hC1 : Try.prog.cellsOf 26 = 3 := by kernel_rfl
  obtain ⟨s1, e1, o1⟩ := Ad.open_t t1 b1
  have d1 := split_drop cs 3 3 (hC1 ▸ e1)
  obtain ⟨y2, k2, t2, b2⟩ := field_t Try.underlying32 hf hlt 2 _ rfl
  have hC2 : Try.prog.cellsOf 5 = 1 := by kernel_rfl
  obtain ⟨s2, e2, o2⟩ := t_u8 Try.underlying5 t2 b2
  have d2 := split_drop cs 6 1 (hC2 ▸ e2)
  refine ⟨⟨s0, s1, s2⟩, ?_, ⟨o0, o1, o2⟩⟩
  have dn : cs.drop 7 = [] := List.drop_eq_nil_of_le (by omega)
  rw [← List.drop_zero (l := cs)]
  refine d0.trans ?_
  rw [show cs.drop (0 + 3) = _ from d1]
  rw [show cs.drop (3 + 3) = _ from d2]
  rw [show cs.drop (6 + 1) = [] from dn]
  rfl
set_option maxRecDepth 100000 in
theorem RWay.open_a {H : Type} {enc : TypeId × Value → H} {w : World} {r : Reach} {b0 : Nat} {v : Value} {d : DataW H} {ps : List MemPlace} (hval : Value.okWide Try.prog w r b0 32 v) (hd : DataW.Trod enc Try.prog w 0 (fun _ => true) true 32 v d ps) (hlt : ∀ p ∈ ps, p.block < w.heap.size) : ∃ s : RWay, v = .agg s.V.toArray ∧ s.ok w := by
  obtain ⟨cs, rfl, _⟩ := okWide_struct Try.underlying32 hval
  obtain ⟨fuel, hf⟩ := hd
  obtain ⟨s, e, h⟩ := RWay.open_t hf hlt
  exact ⟨s, by rw [← e]; simp [Value.cells], h⟩
structure RH4 where
  tos : Nat
  length : Int
  id : Nat
  stay : Bool
  more : Bool
  offset : Int
  ttl : Nat
  proto : Nat
  sum : Nat
  src : Ad
  dst : Ad
  options : Sl Nat
def RH4.V (s : RH4) : List Value := [.int .u8 (s.tos : Int), .int .i64 s.length, .int .u16 (s.id : Int), .bool s.stay, .bool s.more, .int .i64 s.offset, .int .u8 (s.ttl : Int), .int .u8 (s.proto : Int), .int .u16 (s.sum : Int), .bool s.src.six, .int .u64 (s.src.high : Int), .int .u64 (s.src.low : Int), .bool s.dst.six, .int .u64 (s.dst.high : Int), .int .u64 (s.dst.low : Int), .slice s.options.a s.options.l.length s.options.c]
theorem RH4.len (s : RH4) : s.V.length = 16 := rfl
def RH4.ok (w : World) (s : RH4) : Prop := s.tos < 256 ∧ (-9223372036854775808 ≤ s.length ∧ s.length ≤ 9223372036854775807) ∧ s.id < 65536 ∧ True ∧ True ∧ (-9223372036854775808 ≤ s.offset ∧ s.offset ≤ 9223372036854775807) ∧ s.ttl < 256 ∧ s.proto < 256 ∧ s.sum < 65536 ∧ s.src.ok w ∧ s.dst.ok w ∧ okB w s.options
instance : Inhabited RH4 := ⟨⟨0, 0, 0, false, false, 0, 0, 0, 0, default, default, default⟩⟩
set_option maxRecDepth 100000 in
theorem RH4.open_t {H : Type} {enc : TypeId × Value → H} {w : World} {fuel : Nat} {cs : List Value} {x : DataW H × List MemPlace} (hf : DataW.trod enc Try.prog w 0 (fun _ => true) true fuel 42 cs = some x) (hlt : ∀ p ∈ x.2, p.block < w.heap.size) : ∃ s : RH4, cs = s.V ∧ s.ok w := by
  have hC : Try.prog.cellsOf 42 = 16 := by kernel_rfl
  have hl := (DataW.trod_struct Try.underlying42 hf).choose_spec.choose_spec.2.2.1
  rw [hC] at hl
  obtain ⟨y0, k0, t0, b0⟩ := field_t Try.underlying42 hf hlt 0 _ rfl
  have hC0 : Try.prog.cellsOf 5 = 1 := by kernel_rfl
  obtain ⟨s0, e0, o0⟩ := t_u8 Try.underlying5 t0 b0
  have d0 := split_drop cs 0 1 (hC0 ▸ e0)
  obtain ⟨y1, k1, t1, b1⟩ := field_t Try.underlying42 hf hlt 1 _ rfl
  have hC1 : Try.prog.cellsOf 3 = 1 := by kernel_rfl
  obtain ⟨s1, e1, o1⟩ := t_i64 Try.underlying3 t1 b1
  have d1 := split_drop cs 1 1 (hC1 ▸ e1)
  obtain ⟨y2, k2, t2, b2⟩ := field_t Try.underlying42 hf hlt 2 _ rfl
  have hC2 : Try.prog.cellsOf 40 = 1 := by kernel_rfl
  obtain ⟨s2, e2, o2⟩ := t_u16 Try.underlying40 t2 b2
  have d2 := split_drop cs 2 1 (hC2 ▸ e2)
  obtain ⟨y3, k3, t3, b3⟩ := field_t Try.underlying42 hf hlt 3 _ rfl
  have hC3 : Try.prog.cellsOf 4 = 1 := by kernel_rfl
  obtain ⟨s3, e3, o3⟩ := t_bool Try.underlying4 t3 b3
  have d3 := split_drop cs 3 1 (hC3 ▸ e3)
  obtain ⟨y4, k4, t4, b4⟩ := field_t Try.underlying42 hf hlt 4 _ rfl
  have hC4 : Try.prog.cellsOf 4 = 1 := by kernel_rfl
  obtain ⟨s4, e4, o4⟩ := t_bool Try.underlying4 t4 b4
  have d4 := split_drop cs 4 1 (hC4 ▸ e4)
  obtain ⟨y5, k5, t5, b5⟩ := field_t Try.underlying42 hf hlt 5 _ rfl
  have hC5 : Try.prog.cellsOf 3 = 1 := by kernel_rfl
  obtain ⟨s5, e5, o5⟩ := t_i64 Try.underlying3 t5 b5
  have d5 := split_drop cs 5 1 (hC5 ▸ e5)
  obtain ⟨y6, k6, t6, b6⟩ := field_t Try.underlying42 hf hlt 6 _ rfl
  have hC6 : Try.prog.cellsOf 5 = 1 := by kernel_rfl
  obtain ⟨s6, e6, o6⟩ := t_u8 Try.underlying5 t6 b6
  have d6 := split_drop cs 6 1 (hC6 ▸ e6)
  obtain ⟨y7, k7, t7, b7⟩ := field_t Try.underlying42 hf hlt 7 _ rfl
  have hC7 : Try.prog.cellsOf 5 = 1 := by kernel_rfl
  obtain ⟨s7, e7, o7⟩ := t_u8 Try.underlying5 t7 b7
  have d7 := split_drop cs 7 1 (hC7 ▸ e7)
  obtain ⟨y8, k8, t8, b8⟩ := field_t Try.underlying42 hf hlt 8 _ rfl
  have hC8 : Try.prog.cellsOf 40 = 1 := by kernel_rfl
  obtain ⟨s8, e8, o8⟩ := t_u16 Try.underlying40 t8 b8
  have d8 := split_drop cs 8 1 (hC8 ▸ e8)
  obtain ⟨y9, k9, t9, b9⟩ := field_t Try.underlying42 hf hlt 9 _ rfl
  have hC9 : Try.prog.cellsOf 26 = 3 := by kernel_rfl
  obtain ⟨s9, e9, o9⟩ := Ad.open_t t9 b9
  have d9 := split_drop cs 9 3 (hC9 ▸ e9)
  obtain ⟨y10, k10, t10, b10⟩ := field_t Try.underlying42 hf hlt 10 _ rfl
  have hC10 : Try.prog.cellsOf 26 = 3 := by kernel_rfl
  obtain ⟨s10, e10, o10⟩ := Ad.open_t t10 b10
  have d10 := split_drop cs 12 3 (hC10 ▸ e10)
  obtain ⟨y11, k11, t11, b11⟩ := field_t Try.underlying42 hf hlt 11 _ rfl
  have hC11 : Try.prog.cellsOf 22 = 1 := by kernel_rfl
  obtain ⟨s11, e11, o11⟩ := t_bytes Try.underlying22 Try.underlying5 (by kernel_rfl) t11 b11
  have d11 := split_drop cs 15 1 (hC11 ▸ e11)
  refine ⟨⟨s0, s1, s2, s3, s4, s5, s6, s7, s8, s9, s10, s11⟩, ?_, ⟨o0, o1, o2, o3, o4, o5, o6, o7, o8, o9, o10, o11⟩⟩
  have dn : cs.drop 16 = [] := List.drop_eq_nil_of_le (by omega)
  rw [← List.drop_zero (l := cs)]
  refine d0.trans ?_
  rw [show cs.drop (0 + 1) = _ from d1]
  rw [show cs.drop (1 + 1) = _ from d2]
  rw [show cs.drop (2 + 1) = _ from d3]
  rw [show cs.drop (3 + 1) = _ from d4]
  rw [show cs.drop (4 + 1) = _ from d5]
  rw [show cs.drop (5 + 1) = _ from d6]
  rw [show cs.drop (6 + 1) = _ from d7]
  rw [show cs.drop (7 + 1) = _ from d8]
  rw [show cs.drop (8 + 1) = _ from d9]
  rw [show cs.drop (9 + 3) = _ from d10]
  rw [show cs.drop (12 + 3) = _ from d11]
  rw [show cs.drop (15 + 1) = [] from dn]
  rfl
set_option maxRecDepth 100000 in
theorem RH4.open_a {H : Type} {enc : TypeId × Value → H} {w : World} {r : Reach} {b0 : Nat} {v : Value} {d : DataW H} {ps : List MemPlace} (hval : Value.okWide Try.prog w r b0 42 v) (hd : DataW.Trod enc Try.prog w 0 (fun _ => true) true 42 v d ps) (hlt : ∀ p ∈ ps, p.block < w.heap.size) : ∃ s : RH4, v = .agg s.V.toArray ∧ s.ok w := by
  obtain ⟨cs, rfl, _⟩ := okWide_struct Try.underlying42 hval
  obtain ⟨fuel, hf⟩ := hd
  obtain ⟨s, e, h⟩ := RH4.open_t hf hlt
  exact ⟨s, by rw [← e]; simp [Value.cells], h⟩
namespace TunnelTwice
theorem right4_form {a : Ad} (h : right4P a) : ∃ low, a = ⟨false, 0, low⟩ ∧ low < 4294967296 := by
  obtain ⟨six, high, low⟩ := a
  obtain ⟨h1, h2⟩ := h
  have h2' : six = false := h2
  subst h2'
  rcases h1 with h | h
  · cases h
  · have h3 : high = 0 := h.1
    have h4 : low ≤ 4294967295 := h.2
    subst h3
    exact ⟨low, rfl, by omega⟩
set_option maxRecDepth 100000 in
set_option maxHeartbeats 4000000 in
theorem ends_c (s d : Ad) (ttl : Nat) (w0 : World) :
    Calls Try.prog 23 #[.agg (wayV s d ttl).toArray] w0 fun e w' => ∃ b, e = .returned (.bool b) ∧ (b = true → adRight s ∧ adRight d) ∧ Kp [] w0 w' := by
  have hS := St.sv w0
  refine ent (n := 11) Try.func23 rfl rfl ?_
  refine wp_seq_k ?_; intro K1 hK1
  refine wlit ?_
  refine wl_e rfl ?_; intro K hK
  refine ow_box hS (tmA rfl rfl) rfl ?_
  clear hS; intro g0_0 w hg0_0 hS
  refine hK _ _ ?_; clear hK K
  refine wl_v (x_assign ev_c) ?_
  refine wl_nil ?_
  refine then_n (hK1 _ _ ?_); clear hK1 K1
  refine wp_seq_k ?_; intro K2 hK2
  refine wlit ?_
  refine wl_v (x_fa 0 Try.underlying32 rfl rfl ts_26 (tmP rfl rfl)) ?_
  refine wl_v (x_loadA (cs := [_, _, _]) Try.underlying26 rfl ts_26 (tmP rfl rfl) (rangeB hS.ok 0 rfl rfl)) ?_
  refine wl_e rfl ?_; intro K hK
  refine ow_call Try.func65 rfl rfl (evs_cons (tmA rfl rfl) <| evs_nil) (rad_right_c s _) ?_
  rintro e w ⟨rfl, hk⟩
  refine ⟨_, rfl, ?_⟩
  replace hS := hS.kept hk
  clear hk
  refine hK _ _ ?_; clear hK K
  refine wl_v (x_move (tmB rfl rfl)) ?_
  refine gs_wl (tm (t := 6) rfl) (fun hg1_3 => ?_) (fun hg1_3 => ?_)
  · have hg1_3' := hg1_3; (try simp only [nrm] at hg1_3'); try (exfalso; first | with_reducible exact absurd hg1_3 Bool.false_ne_true | with_reducible exact absurd hg1_3.symm Bool.false_ne_true | omega | (simp at hg1_3; done))
    all_goals
     refine wl_gv (want_y rfl rfl rfl rfl (by rw [hg1_3]; rfl)) (x_fa 3 Try.underlying32 rfl rfl ts_26 (tmP rfl rfl)) ?_
     refine wl_gv (want_y rfl rfl rfl rfl (by rw [hg1_3]; rfl)) (x_loadA (cs := [_, _, _]) Try.underlying26 rfl ts_26 (tmP rfl rfl) (rangeB hS.ok 0 rfl rfl)) ?_
     refine wl_g (want_y rfl rfl rfl rfl (by rw [hg1_3]; rfl)) ?_; intro K hK
     refine ow_call Try.func65 rfl rfl (evs_cons (tmA rfl rfl) <| evs_nil) (rad_right_c d _) ?_
     rintro e w ⟨rfl, hk⟩
     refine ⟨_, rfl, ?_⟩
     replace hS := hS.kept hk
     clear hk
     refine hK _ _ ?_; clear hK K
     refine wl_v (x_pickT (tmB rfl rfl) hg1_3 (tmB rfl rfl)) ?_
     refine wl_v (x_assign (tmB rfl rfl)) ?_
     refine wl_nil ?_
     refine then_n (hK2 _ _ ?_); clear hK2 K2
     refine wp_ret ?_
     refine ret1 rfl (.tmp rfl (show _ = Value.bool _ from rfl)) ?_
     first
       | exact ⟨_, rfl, fun h => ⟨of_decide_eq_true hg1_3, of_decide_eq_true h⟩, hS.kp⟩
       | exact ⟨false, rfl, fun h => (by cases h), hS.kp⟩
  have hg1_3' := hg1_3; (try simp only [nrm] at hg1_3'); try (exfalso; first | with_reducible exact absurd hg1_3 Bool.false_ne_true | with_reducible exact absurd hg1_3.symm Bool.false_ne_true | omega | (simp at hg1_3; done))
  all_goals
   refine wl_s rfl (want_n rfl rfl rfl rfl (by rw [hg1_3]; rfl)) ?_
   refine wl_s rfl (want_n rfl rfl rfl rfl (by rw [hg1_3]; rfl)) ?_
   refine wl_s rfl (want_n rfl rfl rfl rfl (by rw [hg1_3]; rfl)) ?_
   refine wl_v (x_pickF (tmB rfl rfl) hg1_3 ev_c) ?_
   refine wl_v (x_assign (tmB rfl rfl)) ?_
   refine wl_nil ?_
   refine then_n (hK2 _ _ ?_); clear hK2 K2
   refine wp_ret ?_
   refine ret1 rfl (.tmp rfl (show _ = Value.bool _ from rfl)) ?_
   first
     | exact ⟨_, rfl, fun h => ⟨of_decide_eq_true hg1_3, of_decide_eq_true h⟩, hS.kp⟩
     | exact ⟨false, rfl, fun h => (by cases h), hS.kp⟩
set_option maxRecDepth 100000 in
set_option maxHeartbeats 4000000 in
theorem rway_right_c (s d : Ad) (ttl : Nat) (w0 : World) :
    Calls Try.prog 25 #[.agg (wayV s d ttl).toArray] w0 fun e w' => ∃ b, e = .returned (.bool b) ∧ (b = true → s.six = d.six ∧ 0 < ttl) ∧ Kp [] w0 w' := by
  have hS := St.sv w0
  obtain ⟨b, sh, sl⟩ := s
  obtain ⟨b', dh, dl⟩ := d
  refine ent (n := 15) Try.func25 rfl rfl ?_
  refine wp_seq_k ?_; intro K1 hK1
  refine wlit ?_
  refine wl_e rfl ?_; intro K hK
  refine ow_box hS (tmA rfl rfl) rfl ?_
  clear hS; intro g0_0 w hg0_0 hS
  refine hK _ _ ?_; clear hK K
  refine wl_v (x_assign ev_c) ?_
  refine wl_nil ?_
  refine then_n (hK1 _ _ ?_); clear hK1 K1
  refine wp_seq_k ?_; intro K2 hK2
  refine wlit ?_
  refine wl_v (x_fa 0 Try.underlying32 rfl rfl ts_26 (tmP rfl rfl)) ?_
  refine wl_v (x_fa 0 Try.underlying26 rfl rfl ts_4 (tmP rfl rfl)) ?_
  first
   | refine wl_v (x_load Try.underlying4 rfl (tmP rfl rfl) (cellB hS.ok 0 rfl rfl)) ?_
   | refine wl_v (x_load Try.underlying4 rfl (tmP rfl rfl) (cellB hS.ok 0 rfl (getm (by omega)))) ?_
  refine wl_v (x_fa 3 Try.underlying32 rfl rfl ts_26 (tmP rfl rfl)) ?_
  refine wl_v (x_fa 0 Try.underlying26 rfl rfl ts_4 (tmP rfl rfl)) ?_
  first
   | refine wl_v (x_load Try.underlying4 rfl (tmP rfl rfl) (cellB hS.ok 0 rfl rfl)) ?_
   | refine wl_v (x_load Try.underlying4 rfl (tmP rfl rfl) (cellB hS.ok 0 rfl (getm (by omega)))) ?_
  refine wl_v (x_beql Try.underlying4 (tmB rfl rfl) (tmB rfl rfl)) ?_
  refine wl_v (x_move (tmB rfl rfl)) ?_
  refine gs_wl (tm (t := 10) rfl) (fun hg1_7 => ?_) (fun hg1_7 => ?_)
  · have hg1_7' := hg1_7; (try simp only [nrm] at hg1_7'); try (exfalso; first | with_reducible exact absurd hg1_7 Bool.false_ne_true | with_reducible exact absurd hg1_7.symm Bool.false_ne_true | omega | (simp at hg1_7; done))
    all_goals
     refine wl_gv (want_y rfl rfl rfl rfl (by rw [hg1_7]; rfl)) (x_fa 6 Try.underlying32 rfl rfl ts_5 (tmP rfl rfl)) ?_
     first
      | refine wl_gv (want_y rfl rfl rfl rfl (by rw [hg1_7]; rfl)) (x_load Try.underlying5 rfl (tmP rfl rfl) (cellB hS.ok 0 rfl rfl)) ?_
      | refine wl_gv (want_y rfl rfl rfl rfl (by rw [hg1_7]; rfl)) (x_load Try.underlying5 rfl (tmP rfl rfl) (cellB hS.ok 0 rfl (getm (by omega)))) ?_
     refine wl_gv (want_y rfl rfl rfl rfl (by rw [hg1_7]; rfl)) (x_neq (tmI rfl rfl) (ev_cN 0)) ?_
     refine wl_v (x_pickT (tmB rfl rfl) hg1_7 (tmB rfl rfl)) ?_
     refine wl_v (x_assign (tmB rfl rfl)) ?_
     refine wl_nil ?_
     refine then_n (hK2 _ _ ?_); clear hK2 K2
     refine wp_ret ?_
     refine ret1 rfl (.tmp rfl (show _ = Value.bool _ from rfl)) ?_
     first
       | exact ⟨_, rfl, fun h => ⟨by simpa using hg1_7, by simp at h; omega⟩, hS.kp⟩
       | exact ⟨false, rfl, fun h => (by cases h), hS.kp⟩
  have hg1_7' := hg1_7; (try simp only [nrm] at hg1_7'); try (exfalso; first | with_reducible exact absurd hg1_7 Bool.false_ne_true | with_reducible exact absurd hg1_7.symm Bool.false_ne_true | omega | (simp at hg1_7; done))
  all_goals
   refine wl_s rfl (want_n rfl rfl rfl rfl (by rw [hg1_7]; rfl)) ?_
   refine wl_s rfl (want_n rfl rfl rfl rfl (by rw [hg1_7]; rfl)) ?_
   refine wl_s rfl (want_n rfl rfl rfl rfl (by rw [hg1_7]; rfl)) ?_
   refine wl_v (x_pickF (tmB rfl rfl) hg1_7 ev_c) ?_
   refine wl_v (x_assign (tmB rfl rfl)) ?_
   refine wl_nil ?_
   refine then_n (hK2 _ _ ?_); clear hK2 K2
   refine wp_ret ?_
   refine ret1 rfl (.tmp rfl (show _ = Value.bool _ from rfl)) ?_
   first
     | exact ⟨_, rfl, fun h => ⟨by simpa using hg1_7, by simp at h; omega⟩, hS.kp⟩
     | exact ⟨false, rfl, fun h => (by cases h), hS.kp⟩
set_option maxRecDepth 100000 in
set_option maxHeartbeats 4000000 in
theorem right_big (tos : Nat) (len : Int) (id : Nat) (stay more : Bool) (off : Int) (ttl proto sum : Nat) (s d : Ad) (O : Option Addr) (m c : Nat) (w0 : World) (hm : 40 < m) :
    Calls Try.prog 90 #[.agg (hdV tos len id stay more off ttl proto sum s d O m c).toArray] w0 fun e w' => e = .returned (.bool false) ∧ Kp [] w0 w' := by
  have hS := St.sv w0
  refine ent (n := 56) Try.func90 rfl rfl ?_
  refine wp_seq_k ?_; intro K1 hK1
  refine wlit ?_
  refine wl_e rfl ?_; intro K hK
  refine ow_box hS (tmA rfl rfl) rfl ?_
  clear hS; intro g0_0 w hg0_0 hS
  refine hK _ _ ?_; clear hK K
  refine wl_v (x_assign ev_c) ?_
  refine wl_nil ?_
  refine then_n (hK1 _ _ ?_); clear hK1 K1
  refine wp_seq_k ?_; intro K2 hK2
  refine wlit ?_
  refine wl_v (x_fa 15 Try.underlying42 rfl rfl ts_22 (tmP rfl rfl)) ?_
  first
   | refine wl_v (x_load Try.underlying22 rfl (tmP rfl rfl) (cellB hS.ok 0 rfl rfl)) ?_
   | refine wl_v (x_load Try.underlying22 rfl (tmP rfl rfl) (cellB hS.ok 0 rfl (getm (by omega)))) ?_
  refine wl_v (x_len Try.underlying22 (tmS rfl rfl)) ?_
  refine wl_v (x_assign (tmI rfl rfl)) ?_
  refine wl_nil ?_
  refine then_n (hK2 _ _ ?_); clear hK2 K2
  refine wp_seq_k ?_; intro K3 hK3
  refine wp_seq_k ?_; intro K4 hK4
  refine wlit ?_
  refine wl_v (x_move (tmI rfl rfl)) ?_
  refine wl_v (x_gtr (tmI rfl rfl) (ev_cN 40)) ?_
  refine wl_v (x_move (tmB rfl rfl)) ?_
  refine gs_wls (tm (t := 9) rfl) (fun hg2_2 => ?_) (fun hg2_2 => ?_)
  · exfalso
    simp only [nrm] at hg2_2
    omega
  have hg2_2' := hg2_2; (try simp only [nrm] at hg2_2'); try (exfalso; first | with_reducible exact absurd hg2_2 Bool.false_ne_true | with_reducible exact absurd hg2_2.symm Bool.false_ne_true | omega | (simp at hg2_2; done))
  all_goals
   refine wl_s rfl (want_n rfl rfl rfl rfl (by rw [hg2_2]; rfl)) ?_
   refine wl_s rfl (want_n rfl rfl rfl rfl (by rw [hg2_2]; rfl)) ?_
   refine wl_s rfl (want_n rfl rfl rfl rfl (by rw [hg2_2]; rfl)) ?_
   refine wl_v (x_pickT (tmB rfl rfl) hg2_2 ev_c) ?_
   refine wl_v (x_move (tmB rfl rfl)) ?_
   refine wl_s rfl (want_n rfl rfl rfl rfl rfl) ?_
   refine wl_s rfl (want_n rfl rfl rfl rfl rfl) ?_
   refine wl_s rfl (want_n rfl rfl rfl rfl rfl) ?_
   refine wl_s rfl (want_n rfl rfl rfl rfl rfl) ?_
   refine wl_s rfl (want_n rfl rfl rfl rfl rfl) ?_
   refine wl_v (x_pickT (tmB rfl rfl) rfl ev_c) ?_
   refine wl_v (x_move (tmB rfl rfl)) ?_
   refine wl_s rfl (want_n rfl rfl rfl rfl rfl) ?_
   refine wl_s rfl (want_n rfl rfl rfl rfl rfl) ?_
   refine wl_s rfl (want_n rfl rfl rfl rfl rfl) ?_
   refine wl_v (x_pickT (tmB rfl rfl) rfl ev_c) ?_
   refine wl_v (x_move (tmB rfl rfl)) ?_
   refine wl_s rfl (want_n rfl rfl rfl rfl rfl) ?_
   refine wl_s rfl (want_n rfl rfl rfl rfl rfl) ?_
   refine wl_s rfl (want_n rfl rfl rfl rfl rfl) ?_
   refine wl_v (x_pickT (tmB rfl rfl) rfl ev_c) ?_
   refine wl_v (x_move (tmB rfl rfl)) ?_
   refine wl_s rfl (want_n rfl rfl rfl rfl rfl) ?_
   refine wl_s rfl (want_n rfl rfl rfl rfl rfl) ?_
   refine wl_s rfl (want_n rfl rfl rfl rfl rfl) ?_
   refine wl_v (x_pickT (tmB rfl rfl) rfl ev_c) ?_
   refine wl_nil ?_
   refine then_n (hK4 _ _ ?_); clear hK4 K4
   refine cnd_t (tmB rfl rfl) rfl ?_
   refine wp_seq_k ?_; intro K5 hK5
   refine wlit ?_
   refine wl_v (x_assign ev_c) ?_
   refine wl_nil ?_
   refine then_n (hK5 _ _ ?_); clear hK5 K5
   refine wp_ret ?_
   refine then_r ?_
   refine ret1 rfl (.tmp rfl (show _ = Value.bool _ from rfl)) ?_
   exact ⟨rfl, hS.kp⟩
set_option maxRecDepth 100000 in
set_option maxHeartbeats 4000000 in
theorem packet_big (tos : Nat) (len : Int) (id : Nat) (stay more : Bool) (off : Int) (ttl proto sum : Nat) (s d : Ad) (O : Option Addr) (m c : Nat) (L : Option Addr) (k cl : Nat) (w0 : World) (hm : 40 < m) :
    Calls Try.prog 24 #[.agg (hdV tos len id stay more off ttl proto sum s d O m c).toArray, .slice L k cl] w0 fun e w' => (∃ er : Nat, (er = 1 ∨ er = 30) ∧ e = .returned (.tuple #[.slice none 0 0, .int .i64 (er : Int)])) ∧ Kp [] w0 w' := by
  have hS := St.sv w0
  refine ent (n := 24) Try.func24 rfl rfl ?_
  refine wp_seq_k ?_; intro K1 hK1
  refine wlit ?_
  refine wl_e rfl ?_; intro K hK
  refine ow_box hS (tmA rfl rfl) rfl ?_
  clear hS; intro g0_0 w hg0_0 hS
  refine hK _ _ ?_; clear hK K
  refine wl_v (x_assign ev_c) ?_
  refine wl_v (x_assign (ev_cN 0)) ?_
  refine wl_nil ?_
  refine then_n (hK1 _ _ ?_); clear hK1 K1
  refine wp_seq_k ?_; intro K2 hK2
  refine wlit ?_
  refine wl_v (x_fa 15 Try.underlying42 rfl rfl ts_22 (tmP rfl rfl)) ?_
  first
   | refine wl_v (x_load Try.underlying22 rfl (tmP rfl rfl) (cellB hS.ok 0 rfl rfl)) ?_
   | refine wl_v (x_load Try.underlying22 rfl (tmP rfl rfl) (cellB hS.ok 0 rfl (getm (by omega)))) ?_
  refine wl_v (x_len Try.underlying22 (tmS rfl rfl)) ?_
  refine wl_v (x_add (ev_cN 20) (tmI rfl rfl)) ?_
  refine wl_v (x_move (tmS rfl rfl)) ?_
  refine wl_v (x_len Try.underlying22 (tmS rfl rfl)) ?_
  refine wl_v (x_add (tmI rfl rfl) (tmI rfl rfl)) ?_
  refine wl_v (x_fa 1 Try.underlying42 rfl rfl ts_3 (tmP rfl rfl)) ?_
  refine wl_e rfl ?_; intro K hK
  first
   | refine ow_store hS 0 rfl ts_3 (tmP rfl rfl) (tmI rfl rfl) rfl rfl ?_
   | refine ow_storeX hS 0 rfl ts_3 (tmP rfl rfl) (tmI rfl rfl) rfl (by simp; omega) ?_
  clear hS; intro w hS
  try replace hS := St.nm (M' := [.blk _ _ [_, _, _, _, _, _, _, _, _, _, _, _, _, _, _, _], _]) hS rfl
  refine hK _ _ ?_; clear hK K
  refine wl_nil ?_
  refine then_n (hK2 _ _ ?_); clear hK2 K2
  refine wp_seq_k ?_; intro K3 hK3
  refine wp_seq_k ?_; intro K4 hK4
  refine wlit ?_
  refine wl_v (x_fa 1 Try.underlying42 rfl rfl ts_3 (tmP rfl rfl)) ?_
  first
   | refine wl_v (x_load Try.underlying3 rfl (tmP rfl rfl) (cellB hS.ok 0 rfl rfl)) ?_
   | refine wl_v (x_load Try.underlying3 rfl (tmP rfl rfl) (cellB hS.ok 0 rfl (getm (by omega)))) ?_
  refine wl_v (x_gtr (tmI rfl rfl) (ev_cN 65535)) ?_
  refine wl_nil ?_
  refine then_n (hK4 _ _ ?_); clear hK4 K4
  refine cnd (tm rfl) (fun hc0 => ?_) (fun hc0 => ?_)
  · try (exfalso; first | with_reducible exact absurd hc0 Bool.false_ne_true | with_reducible exact absurd hc0.symm Bool.false_ne_true | (simp only [nrm] at hc0; omega) | (simp at hc0; done))
    all_goals
     try simp only [nrm] at hc0
     refine wp_seq_k ?_; intro K5 hK5
     refine wlit ?_
     refine wl_v (x_assign ev_c) ?_
     refine wl_v (x_assign (ev_cN 30)) ?_
     refine wl_nil ?_
     refine then_n (hK5 _ _ ?_); clear hK5 K5
     refine wp_ret ?_
     refine then_r ?_
     refine ret2 rfl (.tmp rfl (show _ = Value.slice _ _ _ from rfl)) (.tmp rfl (show _ = Value.int _ _ from rfl)) ?_
     first
       | exact ⟨⟨30, .inr rfl, rfl⟩, hS.kp⟩
       | exact ⟨⟨1, .inl rfl, rfl⟩, hS.kp⟩
  try (exfalso; first | with_reducible exact absurd hc0 Bool.false_ne_true | with_reducible exact absurd hc0.symm Bool.false_ne_true | (simp only [nrm] at hc0; omega) | (simp at hc0; done))
  all_goals
   try simp only [nrm] at hc0
   refine wp_skip ?_
   refine then_n (hK3 _ _ ?_); clear hK3 K3
   refine wp_seq_k ?_; intro K6 hK6
   refine wp_seq_k ?_; intro K7 hK7
   refine wlit ?_
   refine wl_v (x_loadA (cs := [_, _, _, _, _, _, _, _, _, _, _, _, _, _, _, _]) Try.underlying42 rfl ts_42 (tmP rfl rfl) (rangeB hS.ok 0 rfl rfl)) ?_
   refine wl_e rfl ?_; intro K hK
   refine ow_call Try.func90 rfl rfl (evs_cons (tmA rfl rfl) <| evs_nil) (right_big tos _ id stay more off ttl proto sum s d O m c _ hm) ?_
   rintro e w ⟨rfl, hk⟩
   refine ⟨_, rfl, ?_⟩
   replace hS := hS.kept hk
   clear hk
   refine hK _ _ ?_; clear hK K
   refine wl_v (x_not (tmB rfl rfl)) ?_
   refine wl_nil ?_
   refine then_n (hK7 _ _ ?_); clear hK7 K7
   refine cnds (tm rfl) (fun hc1 => ?_) (fun hc1 => ?_)
   · exfalso
     simp at hc1
   try (exfalso; first | with_reducible exact absurd hc1 Bool.false_ne_true | with_reducible exact absurd hc1.symm Bool.false_ne_true | (simp only [nrm] at hc1; omega) | (simp at hc1; done))
   all_goals
    try simp only [nrm] at hc1
    refine wp_seq_k ?_; intro K8 hK8
    refine wlit ?_
    refine wl_v (x_assign ev_c) ?_
    refine wl_v (x_assign (ev_cN 1)) ?_
    refine wl_nil ?_
    refine then_n (hK8 _ _ ?_); clear hK8 K8
    refine wp_ret ?_
    refine then_r ?_
    refine ret2 rfl (.tmp rfl (show _ = Value.slice _ _ _ from rfl)) (.tmp rfl (show _ = Value.int _ _ from rfl)) ?_
    first
      | exact ⟨⟨30, .inr rfl, rfl⟩, hS.kp⟩
      | exact ⟨⟨1, .inl rfl, rfl⟩, hS.kp⟩
theorem unw {fn : Nat} {r l : List Nat} {ttl : Nat} {s d : Ad} (h : HU fn r l (famP l) ttl 0 s d) (hF : Fam l) (hfn : fn ≠ 19) (w : World) (A : Option Addr) (c : Nat) (hv : View w w.heap.size A (r.map u8v)) (hc : r.length ≤ c) :
    Calls Try.prog fn #[.slice A r.length c] w fun e w' => ∃ (L : Option Addr) (k c' : Nat), k = l.length ∧ k ≤ c' ∧ e = .returned (.tuple #[.slice L k c', .agg (wayV s d ttl).toArray, .int .i64 0]) ∧ NewV w w' L (l.map u8v) ∧ Kp [] w w' := by
  have hP : famP l = 4 ∨ famP l = 41 := by unfold famP; cases decide (sixP l) <;> simp
  have hf : finE 0 (famP l) l = 0 := fin5 rfl hP hF.ok rfl
  refine Calls.mono (h w A c hv hc) fun e w' h => ?_
  rcases h with ⟨L, k, c', _, h1, hkc, h2, h3, h4⟩ | ⟨h, _⟩
  · exact ⟨L, k, c', h1, hkc.resolve_left hfn, h2, h3, h4⟩
  · exact absurd hf h
set_option maxRecDepth 100000 in
set_option maxHeartbeats 8000000 in
theorem walkC (s1 d1 : Ad) (t1 : Nat) (s2 d2 : Ad) (t2 : Nat) (tos : Nat) (len : Int) (id : Nat) (stay more : Bool) (off : Int) (ttl proto sum : Nat) (s d : Ad) (O : Option Addr) (c : Nat) (o : List Nat) (L : Option Addr) (k cl : Nat) (x : List Nat) (w0 : World)
    (ht1 : t1 < 256) (ht2 : t2 < 256) (hl1 : adLim s1) (hl2 : adLim d1) (hl3 : adLim s2) (hl4 : adLim d2)
    (q1 : tos < 256) (q3 : id < 65536) (q7 : ttl < 256) (q8 : proto < 256) (hoc : o.length ≤ maxLen) (hob : Bytes o) (hov : View w0 w0.heap.size O (o.map u8v)) (hx : x.length = k) (hxb : Bytes x) (hxv : View w0 w0.heap.size L (x.map u8v)) :
    Calls Try.prog 4 #[.agg (wayV s1 d1 t1).toArray, .agg (wayV s2 d2 t2).toArray, .agg (hdV tos len id stay more off ttl proto sum s d O o.length c).toArray, .slice L k cl] w0 fun e w' => e = .returned (.bool true) ∧ Below w0.heap.size w0 w' := by
  have hS := ((St.sv w0).vcons rfl hov).vcons rfl hxv
  subst hx
  by_cases hbig : 2000 < x.length
  · skip
    refine ent (n := 116) Try.func4 rfl rfl ?_
    refine wp_seq_k ?_; intro K1 hK1
    refine wlit ?_
    refine wl_e rfl ?_; intro K hK
    refine ow_box hS (tmA rfl rfl) rfl ?_
    clear hS; intro g0_0 w hg0_0 hS
    refine hK _ _ ?_; clear hK K
    refine wl_e rfl ?_; intro K hK
    refine ow_box hS (tmA rfl rfl) rfl ?_
    clear hS; intro g0_1 w hg0_1 hS
    refine hK _ _ ?_; clear hK K
    refine wl_e rfl ?_; intro K hK
    refine ow_box hS (tmA rfl rfl) rfl ?_
    clear hS; intro g0_2 w hg0_2 hS
    refine hK _ _ ?_; clear hK K
    refine wl_v (x_assign ev_c) ?_
    refine wl_nil ?_
    refine then_n (hK1 _ _ ?_); clear hK1 K1
    refine wp_seq_k ?_; intro K2 hK2
    refine wp_seq_k ?_; intro K3 hK3
    refine wlit ?_
    refine wl_v (x_move (tmS rfl rfl)) ?_
    refine wl_v (x_len Try.underlying22 (tmS rfl rfl)) ?_
    refine wl_v (x_gtr (tmI rfl rfl) (ev_cN 2000)) ?_
    refine wl_v (x_move (tmB rfl rfl)) ?_
    refine gs_wls (tm (t := 24) rfl) (fun hg1_3 => ?_) (fun hg1_3 => ?_)
    · exfalso
      simp only [nrm] at hg1_3
      omega
    have hg1_3' := hg1_3; (try simp only [nrm] at hg1_3'); try (exfalso; first | with_reducible exact absurd hg1_3 Bool.false_ne_true | with_reducible exact absurd hg1_3.symm Bool.false_ne_true | omega | (simp at hg1_3; done))
    all_goals
     refine wl_s rfl (want_n rfl rfl rfl rfl (by rw [hg1_3]; rfl)) ?_
     refine wl_s rfl (want_n rfl rfl rfl rfl (by rw [hg1_3]; rfl)) ?_
     refine wl_s rfl (want_n rfl rfl rfl rfl (by rw [hg1_3]; rfl)) ?_
     refine wl_v (x_pickT (tmB rfl rfl) hg1_3 ev_c) ?_
     refine wl_v (x_move (tmB rfl rfl)) ?_
     refine wl_s rfl (want_n rfl rfl rfl rfl rfl) ?_
     refine wl_s rfl (want_n rfl rfl rfl rfl rfl) ?_
     refine wl_s rfl (want_n rfl rfl rfl rfl rfl) ?_
     refine wl_v (x_pickT (tmB rfl rfl) rfl ev_c) ?_
     refine wl_nil ?_
     refine then_n (hK3 _ _ ?_); clear hK3 K3
     refine cnd_t (tmB rfl rfl) rfl ?_
     refine wp_seq_k ?_; intro K4 hK4
     refine wlit ?_
     refine wl_e rfl ?_; intro K hK
     refine ow_call Try.func17 rfl rfl (evs_nil) (law09_awake_c _) ?_
     rintro e w ⟨rfl, hk⟩
     refine ⟨_, rfl, ?_⟩
     replace hS := hS.kept hk
     clear hk
     refine hK _ _ ?_; clear hK K
     refine wl_v (x_assign (tmB rfl rfl)) ?_
     refine wl_nil ?_
     refine then_n (hK4 _ _ ?_); clear hK4 K4
     refine wp_ret ?_
     refine then_r ?_
     refine ret1 rfl (.tmp rfl (show _ = Value.bool _ from rfl)) ?_
     exact ⟨rfl, hS.kp.below⟩
  have hk3 : x.length ≤ 2000 := by omega
  have hP : ∃ (pp : List Nat) (er0 : Nat), Bytes pp ∧ pp.length ≤ 2100 ∧ (er0 = 0 → Fam pp) ∧
      (∀ w, View w w.heap.size O (o.map u8v) → View w w.heap.size L (x.map u8v) → Calls Try.prog 24 #[.agg (hdV tos len id stay more off ttl proto sum s d O o.length c).toArray, .slice L x.length cl] w fun e w' => ∃ er A n c', (er = er0 ∨ er0 ≠ 0 ∧ (er = 1 ∨ er = 30)) ∧ n = pp.length ∧ e = .returned (.tuple #[.slice A n c', .int .i64 (er : Int)]) ∧ New w w' (.row (.slice A n c') 5 1 n (pp.map u8v)) ∧ Kp [] w w') := by
    by_cases hr : hdRight ((20 + o.length + x.length : Nat) : Int) off s d o.length
    · have hr' := hr
      obtain ⟨r1, r2, r3, r4, r5, r6, r7, r8⟩ := hr'
      obtain ⟨sl, rfl, hsl⟩ := right4_form r7
      obtain ⟨dl, rfl, hdl⟩ := right4_form r8
      obtain ⟨off, rfl⟩ := Int.eq_ofNat_of_zero_le (a := off) (by omega)
      have ho : off < 8192 := by omega
      obtain ⟨pp, hpp⟩ : ∃ pp, pp = hd4B tos (20 + o.length + x.length) id (flN off stay more) ttl proto (hd4C tos (20 + o.length + x.length) id (flN off stay more) ttl proto sl dl o) sl dl o ++ x := ⟨_, rfl⟩
      have hppl : pp.length = 20 + o.length + x.length := by rw [hpp, List.length_append, hd4B_len]
      have hppb : Bytes pp := by rw [hpp]; exact (hd4B_bytes _ _ _ _ _ _ _ _ _ hob).append hxb
      have hgot := hd4B_read tos id (flN off stay more) ttl proto sl dl o x q1 q3 (flN_lt ho) q7 q8 hsl hdl r1 r2 (by omega) pp _ rfl hpp
      refine ⟨pp, 0, hppb, by omega, fun _ => ⟨by omega, .inr ⟨hgot.form.four, x, proto, ttl, ⟨false, 0, sl⟩, ⟨false, 0, dl⟩, more, off, fun w A c' hv hc => ?_⟩⟩, fun w h1 h2 => ?_⟩
      · have h := ip4_parse_c pp.length A c' pp w hv rfl hc hppb (by omega) _ _ hgot.form (by omega) hgot.sum
        rw [hgot.g1, hgot.g4, hgot.g6, hgot.g8, hgot.g9, hgot.g10, hgot.g12, hgot.g16, hgot.opt, hgot.load, flN_stay ho, flN_more ho, flN_off ho, show 20 + o.length - 20 = o.length by omega, show 20 + o.length + x.length - (20 + o.length) = x.length by omega] at h
        exact Calls.mono h fun e w' ⟨O, L, h1, h2, h3, h4⟩ => ⟨tos, _, id, stay, _, O, o.length, o.length, L, x.length, x.length, rfl, .inr (Nat.le_refl _), by omega, h1, h3, h4⟩
      · rw [hppl, hpp]; exact Calls.mono (rip4_packet_c tos len id stay more off ttl proto sum sl dl O c o L cl x w h1 hob h2 q1 q3 q7 q8 hr) fun e w' ⟨A, n, c', h1, h2, h3, h4⟩ => ⟨0, A, n, c', .inl rfl, h1, h2, h3, h4⟩
    · by_cases hbo : o.length ≤ 40
      · refine ⟨[], 1, Bytes.nil, by simp, fun h => (by cases h), fun w h1 h2 => ?_⟩
        exact Calls.mono (rip4_packet_bad tos len id stay more off ttl proto sum s d O o.length c L x.length cl w (by omega) (by omega) 1 (.inr ⟨by omega, hr, rfl⟩)) fun e w' h => ⟨1, none, 0, 0, .inl rfl, rfl, h.1, ⟨World.ownsRow_nil w' 0 _ 1, rfl, fun g hg => by cases hg⟩, h.2⟩
      · refine ⟨[], 1, Bytes.nil, by simp, fun h => (by cases h), fun w h1 h2 => ?_⟩
        exact Calls.mono (packet_big tos len id stay more off ttl proto sum s d O o.length c L x.length cl w (by omega)) fun e w' ⟨⟨er, h0, h1⟩, h3⟩ => ⟨er, none, 0, 0, .inr ⟨by omega, h0⟩, rfl, h1, ⟨World.ownsRow_nil w' 0 _ 1, rfl, fun g hg => by cases hg⟩, h3⟩
  obtain ⟨pp, er0, hppb, hpl, hFam, hPR⟩ := hP
  refine ent (n := 116) Try.func4 rfl rfl ?_
  refine wp_seq_k ?_; intro K1 hK1
  refine wlit ?_
  refine wl_e rfl ?_; intro K hK
  refine ow_box hS (tmA rfl rfl) rfl ?_
  clear hS; intro g0_0 w hg0_0 hS
  refine hK _ _ ?_; clear hK K
  refine wl_e rfl ?_; intro K hK
  refine ow_box hS (tmA rfl rfl) rfl ?_
  clear hS; intro g0_1 w hg0_1 hS
  refine hK _ _ ?_; clear hK K
  refine wl_e rfl ?_; intro K hK
  refine ow_box hS (tmA rfl rfl) rfl ?_
  clear hS; intro g0_2 w hg0_2 hS
  refine hK _ _ ?_; clear hK K
  refine wl_v (x_assign ev_c) ?_
  refine wl_nil ?_
  refine then_n (hK1 _ _ ?_); clear hK1 K1
  refine wp_seq_k ?_; intro K2 hK2
  refine wp_seq_k ?_; intro K3 hK3
  refine wlit ?_
  refine wl_v (x_move (tmS rfl rfl)) ?_
  refine wl_v (x_len Try.underlying22 (tmS rfl rfl)) ?_
  refine wl_v (x_gtr (tmI rfl rfl) (ev_cN 2000)) ?_
  refine wl_v (x_move (tmB rfl rfl)) ?_
  refine gs_wl (tm (t := 24) rfl) (fun hg1_3 => ?_) (fun hg1_3 => ?_)
  · exfalso
    simp only [nrm] at hg1_3
    omega
  have hg1_3' := hg1_3; (try simp only [nrm] at hg1_3'); try (exfalso; first | with_reducible exact absurd hg1_3 Bool.false_ne_true | with_reducible exact absurd hg1_3.symm Bool.false_ne_true | omega | (simp at hg1_3; done))
  all_goals
   refine wl_gv (want_y rfl rfl rfl rfl (by rw [hg1_3]; rfl)) (x_loadA (cs := [_, _, _, _, _, _, _]) Try.underlying32 rfl ts_32 (tmP rfl rfl) (rangeB hS.ok 2 rfl rfl)) ?_
   refine wl_g (want_y rfl rfl rfl rfl (by rw [hg1_3]; rfl)) ?_; intro K hK
   refine ow_call Try.func23 rfl rfl (evs_cons (tmA rfl rfl) <| evs_nil) (ends_c s1 d1 t1 _) ?_
   rintro e w ⟨b1, rfl, hb1, hk⟩
   refine ⟨_, rfl, ?_⟩
   replace hS := hS.kept hk
   clear hk
   refine hK _ _ ?_; clear hK K
   refine wl_gv (want_y rfl rfl rfl rfl (by rw [hg1_3]; rfl)) (x_not (tmB rfl rfl)) ?_
   refine wl_v (x_pickF (tmB rfl rfl) hg1_3 (tmB rfl rfl)) ?_
   refine wl_v (x_move (tmB rfl rfl)) ?_
   refine gs_wl (tm (t := 29) rfl) (fun hg1_8 => ?_) (fun hg1_8 => ?_)
   · have hg1_8' := hg1_8; (try simp only [nrm] at hg1_8'); try (exfalso; first | with_reducible exact absurd hg1_8 Bool.false_ne_true | with_reducible exact absurd hg1_8.symm Bool.false_ne_true | omega | (simp at hg1_8; done))
     all_goals
      refine wl_s rfl (want_n rfl rfl rfl rfl (by rw [hg1_8]; rfl)) ?_
      refine wl_s rfl (want_n rfl rfl rfl rfl (by rw [hg1_8]; rfl)) ?_
      refine wl_s rfl (want_n rfl rfl rfl rfl (by rw [hg1_8]; rfl)) ?_
      refine wl_v (x_pickT (tmB rfl rfl) hg1_8 ev_c) ?_
      refine wl_nil ?_
      refine then_n (hK3 _ _ ?_); clear hK3 K3
      refine cnd_t (tmB rfl rfl) rfl ?_
      refine wp_seq_k ?_; intro K4 hK4
      refine wlit ?_
      refine wl_e rfl ?_; intro K hK
      refine ow_call Try.func17 rfl rfl (evs_nil) (law09_awake_c _) ?_
      rintro e w ⟨rfl, hk⟩
      refine ⟨_, rfl, ?_⟩
      replace hS := hS.kept hk
      clear hk
      refine hK _ _ ?_; clear hK K
      refine wl_v (x_assign (tmB rfl rfl)) ?_
      refine wl_nil ?_
      refine then_n (hK4 _ _ ?_); clear hK4 K4
      refine wp_ret ?_
      refine then_r ?_
      refine ret1 rfl (.tmp rfl (show _ = Value.bool _ from rfl)) ?_
      exact ⟨rfl, hS.kp.below⟩
   have hg1_8' := hg1_8; (try simp only [nrm] at hg1_8'); try (exfalso; first | with_reducible exact absurd hg1_8 Bool.false_ne_true | with_reducible exact absurd hg1_8.symm Bool.false_ne_true | omega | (simp at hg1_8; done))
   all_goals
    refine wl_gv (want_y rfl rfl rfl rfl (by rw [hg1_8]; rfl)) (x_loadA (cs := [_, _, _, _, _, _, _]) Try.underlying32 rfl ts_32 (tmP rfl rfl) (rangeB hS.ok 1 rfl rfl)) ?_
    refine wl_g (want_y rfl rfl rfl rfl (by rw [hg1_8]; rfl)) ?_; intro K hK
    refine ow_call Try.func23 rfl rfl (evs_cons (tmA rfl rfl) <| evs_nil) (ends_c s2 d2 t2 _) ?_
    rintro e w ⟨b2, rfl, hb2, hk⟩
    refine ⟨_, rfl, ?_⟩
    replace hS := hS.kept hk
    clear hk
    refine hK _ _ ?_; clear hK K
    refine wl_gv (want_y rfl rfl rfl rfl (by rw [hg1_8]; rfl)) (x_not (tmB rfl rfl)) ?_
    refine wl_v (x_pickF (tmB rfl rfl) hg1_8 (tmB rfl rfl)) ?_
    refine wl_nil ?_
    refine then_n (hK3 _ _ ?_); clear hK3 K3
    refine cnd (tm rfl) (fun hc0 => ?_) (fun hc0 => ?_)
    · try (exfalso; first | with_reducible exact absurd hc0 Bool.false_ne_true | with_reducible exact absurd hc0.symm Bool.false_ne_true | (simp only [nrm] at hc0; omega) | (simp at hc0; done))
      all_goals
       try simp only [nrm] at hc0
       refine wp_seq_k ?_; intro K5 hK5
       refine wlit ?_
       refine wl_e rfl ?_; intro K hK
       refine ow_call Try.func17 rfl rfl (evs_nil) (law09_awake_c _) ?_
       rintro e w ⟨rfl, hk⟩
       refine ⟨_, rfl, ?_⟩
       replace hS := hS.kept hk
       clear hk
       refine hK _ _ ?_; clear hK K
       refine wl_v (x_assign (tmB rfl rfl)) ?_
       refine wl_nil ?_
       refine then_n (hK5 _ _ ?_); clear hK5 K5
       refine wp_ret ?_
       refine then_r ?_
       refine ret1 rfl (.tmp rfl (show _ = Value.bool _ from rfl)) ?_
       exact ⟨rfl, hS.kp.below⟩
    try (exfalso; first | with_reducible exact absurd hc0 Bool.false_ne_true | with_reducible exact absurd hc0.symm Bool.false_ne_true | (simp only [nrm] at hc0; omega) | (simp at hc0; done))
    all_goals
     try simp only [nrm] at hc0
     have hb1' : b1 = true := by simpa using hg1_8
     have hb2' : b2 = true := by simpa using hc0
     obtain ⟨ra1, ra2⟩ := hb1 hb1'
     obtain ⟨ra3, ra4⟩ := hb2 hb2'
     refine wp_skip ?_
     refine then_n (hK2 _ _ ?_); clear hK2 K2
     refine wp_seq_k ?_; intro K6 hK6
     refine wlit ?_
     refine wl_v (x_loadA (cs := [_, _, _, _, _, _, _, _, _, _, _, _, _, _, _, _]) Try.underlying42 rfl ts_42 (tmP rfl rfl) (rangeB hS.ok 0 rfl rfl)) ?_
     refine wl_v (x_move (tmS rfl rfl)) ?_
     refine wl_e rfl ?_; intro K hK
     refine ow_call Try.func24 rfl rfl (evs_cons (tmA rfl rfl) <| evs_cons (tmS rfl rfl) <| evs_nil) (hPR _ (viewV hS.ok 4 rfl) (viewV hS.ok 3 rfl)) ?_
     rintro e w ⟨er, A1, n1, c1, her, rfl, rfl, hn, hk⟩
     refine ⟨_, rfl, ?_⟩
     replace hS := hS.add hk hn -- +rowa
     have hcap1 := row_cap (hS.rowOk 0 rfl) (by omega)
     clear hn hk
     refine hK _ _ ?_; clear hK K
     refine wl_v (x_move (tmT rfl rfl)) ?_
     refine wl_v (x_ext (tmT rfl rfl) rfl) ?_
     refine wl_v (x_ext (tmT rfl rfl) rfl) ?_
     refine wl_v (x_assign (tmS rfl rfl)) ?_
     refine wl_v (x_assign (tmI rfl rfl)) ?_
     refine wl_nil ?_
     refine then_n (hK6 _ _ ?_); clear hK6 K6
     refine wp_seq_k ?_; intro K7 hK7
     refine wp_seq_k ?_; intro K8 hK8
     refine wlit ?_
     refine wl_v (x_move (tmI rfl rfl)) ?_
     refine wl_v (x_neq (tmI rfl rfl) (ev_cN 0)) ?_
     refine wl_v (x_move (tmB rfl rfl)) ?_
     refine gs_wl (tm (t := 43) rfl) (fun hg4_2 => ?_) (fun hg4_2 => ?_)
     · have hg4_2' := hg4_2; (try simp only [nrm] at hg4_2'); try (exfalso; first | with_reducible exact absurd hg4_2 Bool.false_ne_true | with_reducible exact absurd hg4_2.symm Bool.false_ne_true | omega | (simp at hg4_2; done))
       all_goals
        refine wl_s rfl (want_n rfl rfl rfl rfl (by rw [hg4_2]; rfl)) ?_
        refine wl_s rfl (want_n rfl rfl rfl rfl (by rw [hg4_2]; rfl)) ?_
        refine wl_s rfl (want_n rfl rfl rfl rfl (by rw [hg4_2]; rfl)) ?_
        refine wl_v (x_pickT (tmB rfl rfl) hg4_2 ev_c) ?_
        refine wl_v (x_move (tmB rfl rfl)) ?_
        refine wl_s rfl (want_n rfl rfl rfl rfl rfl) ?_
        refine wl_s rfl (want_n rfl rfl rfl rfl rfl) ?_
        refine wl_s rfl (want_n rfl rfl rfl rfl rfl) ?_
        refine wl_v (x_pickT (tmB rfl rfl) rfl ev_c) ?_
        refine wl_nil ?_
        refine then_n (hK8 _ _ ?_); clear hK8 K8
        refine cnd_t (tmB rfl rfl) rfl ?_
        refine wp_seq_k ?_; intro K9 hK9
        refine wlit ?_
        refine wl_e rfl ?_; intro K hK
        refine ow_call Try.func17 rfl rfl (evs_nil) (law09_awake_c _) ?_
        rintro e w ⟨rfl, hk⟩
        refine ⟨_, rfl, ?_⟩
        replace hS := hS.kept hk
        clear hk
        refine hK _ _ ?_; clear hK K
        refine wl_v (x_assign (tmB rfl rfl)) ?_
        refine wl_nil ?_
        refine then_n (hK9 _ _ ?_); clear hK9 K9
        refine wp_ret ?_
        refine then_r ?_
        refine ret1 rfl (.tmp rfl (show _ = Value.bool _ from rfl)) ?_
        exact ⟨rfl, hS.kp.below⟩
     have hg4_2' := hg4_2; (try simp only [nrm] at hg4_2'); try (exfalso; first | with_reducible exact absurd hg4_2 Bool.false_ne_true | with_reducible exact absurd hg4_2.symm Bool.false_ne_true | omega | (simp at hg4_2; done))
     all_goals
      refine wl_gv (want_y rfl rfl rfl rfl (by rw [hg4_2]; rfl)) (x_loadA (cs := [_, _, _, _, _, _, _]) Try.underlying32 rfl ts_32 (tmP rfl rfl) (rangeB hS.ok 3 rfl rfl)) ?_
      refine wl_g (want_y rfl rfl rfl rfl (by rw [hg4_2]; rfl)) ?_; intro K hK
      refine ow_call Try.func25 rfl rfl (evs_cons (tmA rfl rfl) <| evs_nil) (rway_right_c s1 d1 t1 _) ?_
      rintro e w ⟨b3, rfl, hb3, hk⟩
      refine ⟨_, rfl, ?_⟩
      replace hS := hS.kept hk
      clear hk
      refine hK _ _ ?_; clear hK K
      refine wl_gv (want_y rfl rfl rfl rfl (by rw [hg4_2]; rfl)) (x_not (tmB rfl rfl)) ?_
      refine wl_v (x_pickF (tmB rfl rfl) hg4_2 (tmB rfl rfl)) ?_
      refine wl_v (x_move (tmB rfl rfl)) ?_
      refine gs_wl (tm (t := 48) rfl) (fun hg4_7 => ?_) (fun hg4_7 => ?_)
      · have hg4_7' := hg4_7; (try simp only [nrm] at hg4_7'); try (exfalso; first | with_reducible exact absurd hg4_7 Bool.false_ne_true | with_reducible exact absurd hg4_7.symm Bool.false_ne_true | omega | (simp at hg4_7; done))
        all_goals
         refine wl_s rfl (want_n rfl rfl rfl rfl (by rw [hg4_7]; rfl)) ?_
         refine wl_s rfl (want_n rfl rfl rfl rfl (by rw [hg4_7]; rfl)) ?_
         refine wl_s rfl (want_n rfl rfl rfl rfl (by rw [hg4_7]; rfl)) ?_
         refine wl_v (x_pickT (tmB rfl rfl) hg4_7 ev_c) ?_
         refine wl_nil ?_
         refine then_n (hK8 _ _ ?_); clear hK8 K8
         refine cnd_t (tmB rfl rfl) rfl ?_
         refine wp_seq_k ?_; intro K10 hK10
         refine wlit ?_
         refine wl_e rfl ?_; intro K hK
         refine ow_call Try.func17 rfl rfl (evs_nil) (law09_awake_c _) ?_
         rintro e w ⟨rfl, hk⟩
         refine ⟨_, rfl, ?_⟩
         replace hS := hS.kept hk
         clear hk
         refine hK _ _ ?_; clear hK K
         refine wl_v (x_assign (tmB rfl rfl)) ?_
         refine wl_nil ?_
         refine then_n (hK10 _ _ ?_); clear hK10 K10
         refine wp_ret ?_
         refine then_r ?_
         refine ret1 rfl (.tmp rfl (show _ = Value.bool _ from rfl)) ?_
         exact ⟨rfl, hS.kp.below⟩
      have hg4_7' := hg4_7; (try simp only [nrm] at hg4_7'); try (exfalso; first | with_reducible exact absurd hg4_7 Bool.false_ne_true | with_reducible exact absurd hg4_7.symm Bool.false_ne_true | omega | (simp at hg4_7; done))
      all_goals
       refine wl_gv (want_y rfl rfl rfl rfl (by rw [hg4_7]; rfl)) (x_loadA (cs := [_, _, _, _, _, _, _]) Try.underlying32 rfl ts_32 (tmP rfl rfl) (rangeB hS.ok 2 rfl rfl)) ?_
       refine wl_g (want_y rfl rfl rfl rfl (by rw [hg4_7]; rfl)) ?_; intro K hK
       refine ow_call Try.func25 rfl rfl (evs_cons (tmA rfl rfl) <| evs_nil) (rway_right_c s2 d2 t2 _) ?_
       rintro e w ⟨b4, rfl, hb4, hk⟩
       refine ⟨_, rfl, ?_⟩
       replace hS := hS.kept hk
       clear hk
       refine hK _ _ ?_; clear hK K
       refine wl_gv (want_y rfl rfl rfl rfl (by rw [hg4_7]; rfl)) (x_not (tmB rfl rfl)) ?_
       refine wl_v (x_pickF (tmB rfl rfl) hg4_7 (tmB rfl rfl)) ?_
       refine wl_nil ?_
       refine then_n (hK8 _ _ ?_); clear hK8 K8
       refine cnd (tm rfl) (fun hc1 => ?_) (fun hc1 => ?_)
       · try (exfalso; first | with_reducible exact absurd hc1 Bool.false_ne_true | with_reducible exact absurd hc1.symm Bool.false_ne_true | (simp only [nrm] at hc1; omega) | (simp at hc1; done))
         all_goals
          try simp only [nrm] at hc1
          refine wp_seq_k ?_; intro K11 hK11
          refine wlit ?_
          refine wl_e rfl ?_; intro K hK
          refine ow_call Try.func17 rfl rfl (evs_nil) (law09_awake_c _) ?_
          rintro e w ⟨rfl, hk⟩
          refine ⟨_, rfl, ?_⟩
          replace hS := hS.kept hk
          clear hk
          refine hK _ _ ?_; clear hK K
          refine wl_v (x_assign (tmB rfl rfl)) ?_
          refine wl_nil ?_
          refine then_n (hK11 _ _ ?_); clear hK11 K11
          refine wp_ret ?_
          refine then_r ?_
          refine ret1 rfl (.tmp rfl (show _ = Value.bool _ from rfl)) ?_
          exact ⟨rfl, hS.kp.below⟩
       try (exfalso; first | with_reducible exact absurd hc1 Bool.false_ne_true | with_reducible exact absurd hc1.symm Bool.false_ne_true | (simp only [nrm] at hc1; omega) | (simp at hc1; done))
       all_goals
        try simp only [nrm] at hc1
        have her1 : er = 0 := by simpa using hg4_2
        have her0 : er0 = 0 := by omega
        have hF := hFam her0
        obtain ⟨rb1, rb2⟩ := hb3 (by simpa using hg4_7)
        obtain ⟨rb3, rb4⟩ := hb4 (by simpa using hc1)
        have hw1 := wrap_c hppb (by omega) rb2 ht1 rb1 hl1 hl2 ra1 ra2 hF
        refine wp_skip ?_
        refine then_n (hK7 _ _ ?_); clear hK7 K7
        refine wp_seq_k ?_; intro K12 hK12
        refine wlit ?_
        refine wl_v (x_loadA (cs := [_, _, _, _, _, _, _]) Try.underlying32 rfl ts_32 (tmP rfl rfl) (rangeB hS.ok 3 rfl rfl)) ?_
        refine wl_e rfl ?_; intro K hK
        refine ow_call Try.func22 rfl rfl (evs_cons (tmA rfl rfl) <| evs_nil) (to09_c _ _ _ _) ?_
        rintro e w ⟨rfl, hk⟩
        refine ⟨_, rfl, ?_⟩
        replace hS := hS.kept hk
        clear hk
        refine hK _ _ ?_; clear hK K
        refine wl_v (x_move (tmS rfl rfl)) ?_
        refine wl_e rfl ?_; intro K hK
        refine ow_call Try.func26 rfl rfl (evs_cons (tmA rfl rfl) <| evs_cons (tmS rfl rfl) <| evs_nil) (hw1 _ _ _ (viewR hS.ok 0 rfl) hcap1) ?_
        rintro e w ⟨p2, A2, n2, c2, rfl, hp2l, hp2b, hF2, hU2, rfl, hn, hk⟩
        refine ⟨_, rfl, ?_⟩
        replace hS := hS.add hk hn -- +rowb
        have hcap2 := row_cap (hS.rowOk 0 rfl) (by omega)
        have hcd1 : cond d1.six 40 20 ≤ 40 := by cases d1.six <;> simp
        have hw2 := wrap_c hp2b (by omega) rb4 ht2 rb3 hl3 hl4 ra3 ra4 hF2
        have hu2 := unw hU2 hF (by decide)
        clear hn hk hU2
        refine hK _ _ ?_; clear hK K
        refine wl_v (x_move (tmT rfl rfl)) ?_
        refine wl_v (x_ext (tmT rfl rfl) rfl) ?_
        refine wl_v (x_ext (tmT rfl rfl) rfl) ?_
        refine wl_v (x_assign (tmS rfl rfl)) ?_
        refine wl_v (x_assign (tmI rfl rfl)) ?_
        refine wl_nil ?_
        refine then_n (hK12 _ _ ?_); clear hK12 K12
        refine wp_seq_k ?_; intro K13 hK13
        refine wlit ?_
        refine wl_v (x_loadA (cs := [_, _, _, _, _, _, _]) Try.underlying32 rfl ts_32 (tmP rfl rfl) (rangeB hS.ok 3 rfl rfl)) ?_
        refine wl_e rfl ?_; intro K hK
        refine ow_call Try.func22 rfl rfl (evs_cons (tmA rfl rfl) <| evs_nil) (to09_c _ _ _ _) ?_
        rintro e w ⟨rfl, hk⟩
        refine ⟨_, rfl, ?_⟩
        replace hS := hS.kept hk
        clear hk
        refine hK _ _ ?_; clear hK K
        refine wl_v (x_move (tmS rfl rfl)) ?_
        refine wl_e rfl ?_; intro K hK
        refine ow_call Try.func26 rfl rfl (evs_cons (tmA rfl rfl) <| evs_cons (tmS rfl rfl) <| evs_nil) (hw2 _ _ _ (viewR hS.ok 0 rfl) hcap2) ?_
        rintro e w ⟨p3, A3, n3, c3, rfl, hp3l, hp3b, hF3, hU3, rfl, hn, hk⟩
        refine ⟨_, rfl, ?_⟩
        replace hS := hS.add hk hn -- +rowc
        have hcap3 := row_cap (hS.rowOk 0 rfl) (by omega)
        have hu3 := unw hU3 hF2 (by decide)
        clear hn hk hU3
        refine hK _ _ ?_; clear hK K
        refine wl_v (x_move (tmT rfl rfl)) ?_
        refine wl_v (x_ext (tmT rfl rfl) rfl) ?_
        refine wl_v (x_ext (tmT rfl rfl) rfl) ?_
        refine wl_v (x_assign (tmS rfl rfl)) ?_
        refine wl_v (x_assign (tmI rfl rfl)) ?_
        refine wl_nil ?_
        refine then_n (hK13 _ _ ?_); clear hK13 K13
        refine wp_seq_k ?_; intro K14 hK14
        refine wlit ?_
        refine wl_v (x_move (tmS rfl rfl)) ?_
        refine wl_e rfl ?_; intro K hK
        refine ow_call Try.func18 rfl rfl (evs_cons (tmS rfl rfl) <| evs_nil) (hu3 _ _ _ (viewR hS.ok 0 rfl) hcap3) ?_
        rintro e w ⟨A4, n4, c4, rfl, hcap4, rfl, hn, hk⟩
        refine ⟨_, rfl, ?_⟩
        replace hS := hS.addn hk hn -- +v4
        clear hn hk
        refine hK _ _ ?_; clear hK K
        refine wl_v (x_move (tmT rfl rfl)) ?_
        refine wl_v (x_ext (tmT rfl rfl) rfl) ?_
        refine wl_v (x_ext (tmT rfl rfl) rfl) ?_
        refine wl_v (x_ext (tmT rfl rfl) rfl) ?_
        refine wl_e rfl ?_; intro K hK
        refine ow_alloc hS tz_28 rfl ?_
        clear hS; intro g8_6 w hg8_6 hS
        refine hK _ _ ?_; clear hK K
        refine wl_v (x_assign (tmS rfl rfl)) ?_
        refine wl_e rfl ?_; intro K hK
        refine ow_storeA hS 0 rfl ts_28 (tmP rfl rfl) (tmA rfl rfl) rfl rfl rfl ?_
        clear hS; intro w hS
        try replace hS := St.nm (M' := [.blk _ _ [_, _, _, _, _, _, _], .vw _ _, .row _ _ _ _ _, .row _ _ _ _ _, .row _ _ _ _ _, .blk _ _ [_, _, _, _, _, _, _, _, _, _, _, _, _, _, _, _], .blk _ _ [_, _, _, _, _, _, _], .blk _ _ [_, _, _, _, _, _, _], .vw _ _, .vw _ _]) hS rfl
        refine hK _ _ ?_; clear hK K
        refine wl_v (x_assign (tmI rfl rfl)) ?_
        refine wl_nil ?_
        refine then_n (hK14 _ _ ?_); clear hK14 K14
        refine wp_seq_k ?_; intro K15 hK15
        refine wlit ?_
        refine wl_v (x_move (tmS rfl rfl)) ?_
        refine wl_e rfl ?_; intro K hK
        refine ow_call Try.func18 rfl rfl (evs_cons (tmS rfl rfl) <| evs_nil) (hu2 _ _ _ (viewV hS.ok 1 rfl) hcap4) ?_
        rintro e w ⟨A5, n5, c5, rfl, hcap5, rfl, hn, hk⟩
        refine ⟨_, rfl, ?_⟩
        replace hS := hS.addn hk hn -- +v5
        clear hn hk
        refine hK _ _ ?_; clear hK K
        refine wl_v (x_move (tmT rfl rfl)) ?_
        refine wl_v (x_ext (tmT rfl rfl) rfl) ?_
        refine wl_v (x_ext (tmT rfl rfl) rfl) ?_
        refine wl_v (x_ext (tmT rfl rfl) rfl) ?_
        refine wl_e rfl ?_; intro K hK
        refine ow_alloc hS tz_28 rfl ?_
        clear hS; intro g9_6 w hg9_6 hS
        refine hK _ _ ?_; clear hK K
        refine wl_v (x_assign (tmS rfl rfl)) ?_
        refine wl_e rfl ?_; intro K hK
        refine ow_storeA hS 0 rfl ts_28 (tmP rfl rfl) (tmA rfl rfl) rfl rfl rfl ?_
        clear hS; intro w hS
        try replace hS := St.nm (M' := [.blk _ _ [_, _, _, _, _, _, _], .vw _ _, .blk _ _ [_, _, _, _, _, _, _], .vw _ _, .row _ _ _ _ _, .row _ _ _ _ _, .row _ _ _ _ _, .blk _ _ [_, _, _, _, _, _, _, _, _, _, _, _, _, _, _, _], .blk _ _ [_, _, _, _, _, _, _], .blk _ _ [_, _, _, _, _, _, _], .vw _ _, .vw _ _]) hS rfl
        refine hK _ _ ?_; clear hK K
        refine wl_v (x_assign (tmI rfl rfl)) ?_
        refine wl_nil ?_
        refine then_n (hK15 _ _ ?_); clear hK15 K15
        refine wp_seq_k ?_; intro K16 hK16
        refine rg_startk 0 hS mixed_ ?_
        clear hS; intro w hS
        refine rg_take 0 rfl rfl (by kernel_rfl) (by kernel_rfl) (by kernel_rfl) (want_0) (fun w hok => x_move (tmI rfl rfl)) ?_
        refine rg_take 1 rfl rfl (by kernel_rfl) (by kernel_rfl) (by kernel_rfl) (want_0) (fun w hok => x_eql (tmI rfl rfl) (ev_cN 0)) ?_
        refine rg_take 2 rfl rfl (by kernel_rfl) (by kernel_rfl) (by kernel_rfl) (want_0) (fun w hok => x_move (tmB rfl rfl)) ?_
        refine gs_rgs (tm (t := 82) rfl) (fun hg10_2 => ?_) (fun hg10_2 => ?_)
        · exfalso
          simp at hg10_2
        have hg10_2' := hg10_2; (try simp only [nrm] at hg10_2'); try (exfalso; first | with_reducible exact absurd hg10_2 Bool.false_ne_true | with_reducible exact absurd hg10_2.symm Bool.false_ne_true | omega | (simp at hg10_2; done))
        all_goals
         refine rg_take 3 rfl rfl (by kernel_rfl) (by kernel_rfl) (by kernel_rfl) (want_y rfl rfl rfl rfl (by rw [hg10_2]; rfl)) (fun w hok => x_move (tmI rfl rfl)) ?_
         refine rg_take 4 rfl rfl (by kernel_rfl) (by kernel_rfl) (by kernel_rfl) (want_y rfl rfl rfl rfl (by rw [hg10_2]; rfl)) (fun w hok => x_eql (tmI rfl rfl) (ev_cN 0)) ?_
         refine rg_take 5 rfl rfl (by kernel_rfl) (by kernel_rfl) (by kernel_rfl) (want_0) (fun w hok => x_pickT (tmB rfl rfl) hg10_2 (tmB rfl rfl)) ?_
         refine rg_take 6 rfl rfl (by kernel_rfl) (by kernel_rfl) (by kernel_rfl) (want_0) (fun w hok => x_move (tmB rfl rfl)) ?_
         refine gs_rgs (tm (t := 86) rfl) (fun hg10_6 => ?_) (fun hg10_6 => ?_)
         · exfalso
           simp at hg10_6
         have hg10_6' := hg10_6; (try simp only [nrm] at hg10_6'); try (exfalso; first | with_reducible exact absurd hg10_6 Bool.false_ne_true | with_reducible exact absurd hg10_6.symm Bool.false_ne_true | omega | (simp at hg10_6; done))
         all_goals
          refine rg_take 7 rfl rfl (by kernel_rfl) (by kernel_rfl) (by kernel_rfl) (want_y rfl rfl rfl rfl (by rw [hg10_6]; rfl)) (fun w hok => x_move (tmI rfl rfl)) ?_
          refine rg_take 8 rfl rfl (by kernel_rfl) (by kernel_rfl) (by kernel_rfl) (want_y rfl rfl rfl rfl (by rw [hg10_6]; rfl)) (fun w hok => x_eql (tmI rfl rfl) (ev_cN 0)) ?_
          refine rg_take 9 rfl rfl (by kernel_rfl) (by kernel_rfl) (by kernel_rfl) (want_0) (fun w hok => x_pickT (tmB rfl rfl) hg10_6 (tmB rfl rfl)) ?_
          refine rg_take 10 rfl rfl (by kernel_rfl) (by kernel_rfl) (by kernel_rfl) (want_0) (fun w hok => x_move (tmB rfl rfl)) ?_
          refine gs_rgs (tm (t := 90) rfl) (fun hg10_10 => ?_) (fun hg10_10 => ?_)
          · exfalso
            simp at hg10_10
          have hg10_10' := hg10_10; (try simp only [nrm] at hg10_10'); try (exfalso; first | with_reducible exact absurd hg10_10 Bool.false_ne_true | with_reducible exact absurd hg10_10.symm Bool.false_ne_true | omega | (simp at hg10_10; done))
          all_goals
           refine rg_take 11 rfl rfl (by kernel_rfl) (by kernel_rfl) (by kernel_rfl) (want_y rfl rfl rfl rfl (by rw [hg10_10]; rfl)) (fun w hok => x_move (tmI rfl rfl)) ?_
           refine rg_take 12 rfl rfl (by kernel_rfl) (by kernel_rfl) (by kernel_rfl) (want_y rfl rfl rfl rfl (by rw [hg10_10]; rfl)) (fun w hok => x_eql (tmI rfl rfl) (ev_cN 0)) ?_
           refine rg_take 13 rfl rfl (by kernel_rfl) (by kernel_rfl) (by kernel_rfl) (want_0) (fun w hok => x_pickT (tmB rfl rfl) hg10_10 (tmB rfl rfl)) ?_
           refine rg_take 14 rfl rfl (by kernel_rfl) (by kernel_rfl) (by kernel_rfl) (want_0) (fun w hok => x_move (tmB rfl rfl)) ?_
           refine gs_rgs (tm (t := 94) rfl) (fun hg10_14 => ?_) (fun hg10_14 => ?_)
           · exfalso
             simp at hg10_14
           have hg10_14' := hg10_14; (try simp only [nrm] at hg10_14'); try (exfalso; first | with_reducible exact absurd hg10_14 Bool.false_ne_true | with_reducible exact absurd hg10_14.symm Bool.false_ne_true | omega | (simp at hg10_14; done))
           all_goals
            refine rg_take 15 rfl rfl (by kernel_rfl) (by kernel_rfl) (by kernel_rfl) (want_y rfl rfl rfl rfl (by rw [hg10_14]; rfl)) (fun w hok => x_loadA (cs := [_, _, _, _, _, _, _]) Try.underlying28 rfl ts_28 (tmP rfl rfl) (rangeB hok 2 rfl rfl)) ?_
            refine rg_take 16 rfl rfl (by kernel_rfl) (by kernel_rfl) (by kernel_rfl) (want_y rfl rfl rfl rfl (by rw [hg10_14]; rfl)) (fun w hok => x_loadA (cs := [_, _, _, _, _, _, _]) Try.underlying32 rfl ts_32 (tmP rfl rfl) (rangeB hok 8 rfl rfl)) ?_
            refine rg_step 17 rfl (by kernel_rfl) (want_y rfl rfl rfl rfl (by rw [hg10_14]; rfl)) (oks_drop hS 0 rfl) ?_; intro K hK
            refine ow_call Try.func22 rfl rfl (evs_cons (tmA rfl rfl) <| evs_nil) (to09_c _ _ _ _) ?_
            rintro e w ⟨rfl, hk⟩
            refine ⟨_, rfl, ?_⟩
            replace hS := hS.kept hk
            clear hk
            refine hK _ _ ?_; clear hK K
            refine rg_take 18 rfl rfl (by kernel_rfl) (by kernel_rfl) (by kernel_rfl) (want_y rfl rfl rfl rfl (by rw [hg10_14]; rfl)) (fun w hok => x_Aeql (by kernel_rfl) (tmA rfl rfl) (tmA rfl rfl) (eqv_A Try.underlying28 (by kernel_rfl) (fe_cons rfl (pt_A (cs := [_, _, _]) Try.underlying26 rfl ts_26 rfl) (pt_A (cs := [_, _, _]) Try.underlying26 rfl ts_26 rfl) (eqv_A Try.underlying26 (by kernel_rfl) (fe_cons rfl (pt_1 Try.underlying4 rfl rfl) (pt_1 Try.underlying4 rfl rfl) (eqv_b Try.underlying4) <| fe_cons rfl (pt_1 Try.underlying24 rfl rfl) (pt_1 Try.underlying24 rfl rfl) (eqv_i Try.underlying24) <| fe_cons rfl (pt_1 Try.underlying24 rfl rfl) (pt_1 Try.underlying24 rfl rfl) (eqv_i Try.underlying24) <| fe_nil)) <| fe_cons rfl (pt_A (cs := [_, _, _]) Try.underlying26 rfl ts_26 rfl) (pt_A (cs := [_, _, _]) Try.underlying26 rfl ts_26 rfl) (eqv_A Try.underlying26 (by kernel_rfl) (fe_cons rfl (pt_1 Try.underlying4 rfl rfl) (pt_1 Try.underlying4 rfl rfl) (eqv_b Try.underlying4) <| fe_cons rfl (pt_1 Try.underlying24 rfl rfl) (pt_1 Try.underlying24 rfl rfl) (eqv_i Try.underlying24) <| fe_cons rfl (pt_1 Try.underlying24 rfl rfl) (pt_1 Try.underlying24 rfl rfl) (eqv_i Try.underlying24) <| fe_nil)) <| fe_cons rfl (pt_1 Try.underlying5 rfl rfl) (pt_1 Try.underlying5 rfl rfl) (eqv_i Try.underlying5) <| fe_nil))) ?_
            refine rg_take 19 rfl rfl (by kernel_rfl) (by kernel_rfl) (by kernel_rfl) (want_0) (fun w hok => x_pickT (tmB rfl rfl) hg10_14 (tmB rfl rfl)) ?_
            refine rg_take 20 rfl rfl (by kernel_rfl) (by kernel_rfl) (by kernel_rfl) (want_0) (fun w hok => x_move (tmB rfl rfl)) ?_
            refine gs_rgs (tm (t := 100) rfl) (fun hg10_20 => ?_) (fun hg10_20 => ?_)
            · exfalso
              simp at hg10_20
            have hg10_20' := hg10_20; (try simp only [nrm] at hg10_20'); try (exfalso; first | with_reducible exact absurd hg10_20 Bool.false_ne_true | with_reducible exact absurd hg10_20.symm Bool.false_ne_true | omega | (simp at hg10_20; done))
            all_goals
             refine rg_take 21 rfl rfl (by kernel_rfl) (by kernel_rfl) (by kernel_rfl) (want_y rfl rfl rfl rfl (by rw [hg10_20]; rfl)) (fun w hok => x_loadA (cs := [_, _, _, _, _, _, _]) Try.underlying28 rfl ts_28 (tmP rfl rfl) (rangeB hok 0 rfl rfl)) ?_
             refine rg_take 22 rfl rfl (by kernel_rfl) (by kernel_rfl) (by kernel_rfl) (want_y rfl rfl rfl rfl (by rw [hg10_20]; rfl)) (fun w hok => x_loadA (cs := [_, _, _, _, _, _, _]) Try.underlying32 rfl ts_32 (tmP rfl rfl) (rangeB hok 9 rfl rfl)) ?_
             refine rg_step 23 rfl (by kernel_rfl) (want_y rfl rfl rfl rfl (by rw [hg10_20]; rfl)) (oks_drop hS 0 rfl) ?_; intro K hK
             refine ow_call Try.func22 rfl rfl (evs_cons (tmA rfl rfl) <| evs_nil) (to09_c _ _ _ _) ?_
             rintro e w ⟨rfl, hk⟩
             refine ⟨_, rfl, ?_⟩
             replace hS := hS.kept hk
             clear hk
             refine hK _ _ ?_; clear hK K
             refine rg_take 24 rfl rfl (by kernel_rfl) (by kernel_rfl) (by kernel_rfl) (want_y rfl rfl rfl rfl (by rw [hg10_20]; rfl)) (fun w hok => x_Aeql (by kernel_rfl) (tmA rfl rfl) (tmA rfl rfl) (eqv_A Try.underlying28 (by kernel_rfl) (fe_cons rfl (pt_A (cs := [_, _, _]) Try.underlying26 rfl ts_26 rfl) (pt_A (cs := [_, _, _]) Try.underlying26 rfl ts_26 rfl) (eqv_A Try.underlying26 (by kernel_rfl) (fe_cons rfl (pt_1 Try.underlying4 rfl rfl) (pt_1 Try.underlying4 rfl rfl) (eqv_b Try.underlying4) <| fe_cons rfl (pt_1 Try.underlying24 rfl rfl) (pt_1 Try.underlying24 rfl rfl) (eqv_i Try.underlying24) <| fe_cons rfl (pt_1 Try.underlying24 rfl rfl) (pt_1 Try.underlying24 rfl rfl) (eqv_i Try.underlying24) <| fe_nil)) <| fe_cons rfl (pt_A (cs := [_, _, _]) Try.underlying26 rfl ts_26 rfl) (pt_A (cs := [_, _, _]) Try.underlying26 rfl ts_26 rfl) (eqv_A Try.underlying26 (by kernel_rfl) (fe_cons rfl (pt_1 Try.underlying4 rfl rfl) (pt_1 Try.underlying4 rfl rfl) (eqv_b Try.underlying4) <| fe_cons rfl (pt_1 Try.underlying24 rfl rfl) (pt_1 Try.underlying24 rfl rfl) (eqv_i Try.underlying24) <| fe_cons rfl (pt_1 Try.underlying24 rfl rfl) (pt_1 Try.underlying24 rfl rfl) (eqv_i Try.underlying24) <| fe_nil)) <| fe_cons rfl (pt_1 Try.underlying5 rfl rfl) (pt_1 Try.underlying5 rfl rfl) (eqv_i Try.underlying5) <| fe_nil))) ?_
             refine rg_take 25 rfl rfl (by kernel_rfl) (by kernel_rfl) (by kernel_rfl) (want_0) (fun w hok => x_pickT (tmB rfl rfl) hg10_20 (tmB rfl rfl)) ?_
             refine rg_take 26 rfl rfl (by kernel_rfl) (by kernel_rfl) (by kernel_rfl) (want_0) (fun w hok => x_move (tmB rfl rfl)) ?_
             refine gs_rgs (tm (t := 106) rfl) (fun hg10_26 => ?_) (fun hg10_26 => ?_)
             · exfalso
               simp at hg10_26
             have hg10_26' := hg10_26; (try simp only [nrm] at hg10_26'); try (exfalso; first | with_reducible exact absurd hg10_26 Bool.false_ne_true | with_reducible exact absurd hg10_26.symm Bool.false_ne_true | omega | (simp at hg10_26; done))
             all_goals
              refine rg_take 27 rfl rfl (by kernel_rfl) (by kernel_rfl) (by kernel_rfl) (want_y rfl rfl rfl rfl (by rw [hg10_26]; rfl)) (fun w hok => x_move (tmS rfl rfl)) ?_
              first
               | refine rg_take 28 rfl rfl (by kernel_rfl) (by kernel_rfl) (by kernel_rfl) (want_y rfl rfl rfl rfl (by rw [hg10_26]; rfl)) (fun w hok => x_bstr Try.underlying22 Try.underlying5 Try.underlying9 (tmS rfl rfl) (viewV hok 1 rfl) (by first | assumption | exact Bytes.nil | (repeat' (first | assumption | exact Bytes.nil | exact be_bytes _ _ | apply Bytes.append | apply Bytes.take | apply Bytes.drop | apply Bytes.replicate))) (by first | rfl | assumption | (simp; done) | (simp; omega) | omega)) ?_
               | refine rg_take 28 rfl rfl (by kernel_rfl) (by kernel_rfl) (by kernel_rfl) (want_y rfl rfl rfl rfl (by rw [hg10_26]; rfl)) (fun w hok => x_bstr Try.underlying22 Try.underlying5 Try.underlying9 (tmS rfl rfl) (viewV hok 3 rfl) (by first | assumption | exact Bytes.nil | (repeat' (first | assumption | exact Bytes.nil | exact be_bytes _ _ | apply Bytes.append | apply Bytes.take | apply Bytes.drop | apply Bytes.replicate))) (by first | rfl | assumption | (simp; done) | (simp; omega) | omega)) ?_
               | refine rg_take 28 rfl rfl (by kernel_rfl) (by kernel_rfl) (by kernel_rfl) (want_y rfl rfl rfl rfl (by rw [hg10_26]; rfl)) (fun w hok => x_bstr Try.underlying22 Try.underlying5 Try.underlying9 (tmS rfl rfl) (viewR hok 4 rfl) (by first | assumption | exact Bytes.nil | (repeat' (first | assumption | exact Bytes.nil | exact be_bytes _ _ | apply Bytes.append | apply Bytes.take | apply Bytes.drop | apply Bytes.replicate))) (by first | rfl | assumption | (simp; done) | (simp; omega) | omega)) ?_
               | refine rg_take 28 rfl rfl (by kernel_rfl) (by kernel_rfl) (by kernel_rfl) (want_y rfl rfl rfl rfl (by rw [hg10_26]; rfl)) (fun w hok => x_bstr Try.underlying22 Try.underlying5 Try.underlying9 (tmS rfl rfl) (viewR hok 5 rfl) (by first | assumption | exact Bytes.nil | (repeat' (first | assumption | exact Bytes.nil | exact be_bytes _ _ | apply Bytes.append | apply Bytes.take | apply Bytes.drop | apply Bytes.replicate))) (by first | rfl | assumption | (simp; done) | (simp; omega) | omega)) ?_
               | refine rg_take 28 rfl rfl (by kernel_rfl) (by kernel_rfl) (by kernel_rfl) (want_y rfl rfl rfl rfl (by rw [hg10_26]; rfl)) (fun w hok => x_bstr Try.underlying22 Try.underlying5 Try.underlying9 (tmS rfl rfl) (viewR hok 6 rfl) (by first | assumption | exact Bytes.nil | (repeat' (first | assumption | exact Bytes.nil | exact be_bytes _ _ | apply Bytes.append | apply Bytes.take | apply Bytes.drop | apply Bytes.replicate))) (by first | rfl | assumption | (simp; done) | (simp; omega) | omega)) ?_
               | refine rg_take 28 rfl rfl (by kernel_rfl) (by kernel_rfl) (by kernel_rfl) (want_y rfl rfl rfl rfl (by rw [hg10_26]; rfl)) (fun w hok => x_bstr Try.underlying22 Try.underlying5 Try.underlying9 (tmS rfl rfl) (viewV hok 10 rfl) (by first | assumption | exact Bytes.nil | (repeat' (first | assumption | exact Bytes.nil | exact be_bytes _ _ | apply Bytes.append | apply Bytes.take | apply Bytes.drop | apply Bytes.replicate))) (by first | rfl | assumption | (simp; done) | (simp; omega) | omega)) ?_
               | refine rg_take 28 rfl rfl (by kernel_rfl) (by kernel_rfl) (by kernel_rfl) (want_y rfl rfl rfl rfl (by rw [hg10_26]; rfl)) (fun w hok => x_bstr Try.underlying22 Try.underlying5 Try.underlying9 (tmS rfl rfl) (viewV hok 11 rfl) (by first | assumption | exact Bytes.nil | (repeat' (first | assumption | exact Bytes.nil | exact be_bytes _ _ | apply Bytes.append | apply Bytes.take | apply Bytes.drop | apply Bytes.replicate))) (by first | rfl | assumption | (simp; done) | (simp; omega) | omega)) ?_
               | refine rg_take 28 rfl rfl (by kernel_rfl) (by kernel_rfl) (by kernel_rfl) (want_y rfl rfl rfl rfl (by rw [hg10_26]; rfl)) (fun w hok => x_bstr (l := []) Try.underlying22 Try.underlying5 Try.underlying9 (tmS rfl rfl) View.nil_ (by first | assumption | exact Bytes.nil | (repeat' (first | assumption | exact Bytes.nil | exact be_bytes _ _ | apply Bytes.append | apply Bytes.take | apply Bytes.drop | apply Bytes.replicate))) (by first | rfl | assumption | (simp; done) | (simp; omega) | omega)) ?_
              refine rg_take 29 rfl rfl (by kernel_rfl) (by kernel_rfl) (by kernel_rfl) (want_y rfl rfl rfl rfl (by rw [hg10_26]; rfl)) (fun w hok => x_move (tmS rfl rfl)) ?_
              first
               | refine rg_take 30 rfl rfl (by kernel_rfl) (by kernel_rfl) (by kernel_rfl) (want_y rfl rfl rfl rfl (by rw [hg10_26]; rfl)) (fun w hok => x_bstr Try.underlying22 Try.underlying5 Try.underlying9 (tmS rfl rfl) (viewV hok 1 rfl) (by first | assumption | exact Bytes.nil | (repeat' (first | assumption | exact Bytes.nil | exact be_bytes _ _ | apply Bytes.append | apply Bytes.take | apply Bytes.drop | apply Bytes.replicate))) (by first | rfl | assumption | (simp; done) | (simp; omega) | omega)) ?_
               | refine rg_take 30 rfl rfl (by kernel_rfl) (by kernel_rfl) (by kernel_rfl) (want_y rfl rfl rfl rfl (by rw [hg10_26]; rfl)) (fun w hok => x_bstr Try.underlying22 Try.underlying5 Try.underlying9 (tmS rfl rfl) (viewV hok 3 rfl) (by first | assumption | exact Bytes.nil | (repeat' (first | assumption | exact Bytes.nil | exact be_bytes _ _ | apply Bytes.append | apply Bytes.take | apply Bytes.drop | apply Bytes.replicate))) (by first | rfl | assumption | (simp; done) | (simp; omega) | omega)) ?_
               | refine rg_take 30 rfl rfl (by kernel_rfl) (by kernel_rfl) (by kernel_rfl) (want_y rfl rfl rfl rfl (by rw [hg10_26]; rfl)) (fun w hok => x_bstr Try.underlying22 Try.underlying5 Try.underlying9 (tmS rfl rfl) (viewR hok 4 rfl) (by first | assumption | exact Bytes.nil | (repeat' (first | assumption | exact Bytes.nil | exact be_bytes _ _ | apply Bytes.append | apply Bytes.take | apply Bytes.drop | apply Bytes.replicate))) (by first | rfl | assumption | (simp; done) | (simp; omega) | omega)) ?_
               | refine rg_take 30 rfl rfl (by kernel_rfl) (by kernel_rfl) (by kernel_rfl) (want_y rfl rfl rfl rfl (by rw [hg10_26]; rfl)) (fun w hok => x_bstr Try.underlying22 Try.underlying5 Try.underlying9 (tmS rfl rfl) (viewR hok 5 rfl) (by first | assumption | exact Bytes.nil | (repeat' (first | assumption | exact Bytes.nil | exact be_bytes _ _ | apply Bytes.append | apply Bytes.take | apply Bytes.drop | apply Bytes.replicate))) (by first | rfl | assumption | (simp; done) | (simp; omega) | omega)) ?_
               | refine rg_take 30 rfl rfl (by kernel_rfl) (by kernel_rfl) (by kernel_rfl) (want_y rfl rfl rfl rfl (by rw [hg10_26]; rfl)) (fun w hok => x_bstr Try.underlying22 Try.underlying5 Try.underlying9 (tmS rfl rfl) (viewR hok 6 rfl) (by first | assumption | exact Bytes.nil | (repeat' (first | assumption | exact Bytes.nil | exact be_bytes _ _ | apply Bytes.append | apply Bytes.take | apply Bytes.drop | apply Bytes.replicate))) (by first | rfl | assumption | (simp; done) | (simp; omega) | omega)) ?_
               | refine rg_take 30 rfl rfl (by kernel_rfl) (by kernel_rfl) (by kernel_rfl) (want_y rfl rfl rfl rfl (by rw [hg10_26]; rfl)) (fun w hok => x_bstr Try.underlying22 Try.underlying5 Try.underlying9 (tmS rfl rfl) (viewV hok 10 rfl) (by first | assumption | exact Bytes.nil | (repeat' (first | assumption | exact Bytes.nil | exact be_bytes _ _ | apply Bytes.append | apply Bytes.take | apply Bytes.drop | apply Bytes.replicate))) (by first | rfl | assumption | (simp; done) | (simp; omega) | omega)) ?_
               | refine rg_take 30 rfl rfl (by kernel_rfl) (by kernel_rfl) (by kernel_rfl) (want_y rfl rfl rfl rfl (by rw [hg10_26]; rfl)) (fun w hok => x_bstr Try.underlying22 Try.underlying5 Try.underlying9 (tmS rfl rfl) (viewV hok 11 rfl) (by first | assumption | exact Bytes.nil | (repeat' (first | assumption | exact Bytes.nil | exact be_bytes _ _ | apply Bytes.append | apply Bytes.take | apply Bytes.drop | apply Bytes.replicate))) (by first | rfl | assumption | (simp; done) | (simp; omega) | omega)) ?_
               | refine rg_take 30 rfl rfl (by kernel_rfl) (by kernel_rfl) (by kernel_rfl) (want_y rfl rfl rfl rfl (by rw [hg10_26]; rfl)) (fun w hok => x_bstr (l := []) Try.underlying22 Try.underlying5 Try.underlying9 (tmS rfl rfl) View.nil_ (by first | assumption | exact Bytes.nil | (repeat' (first | assumption | exact Bytes.nil | exact be_bytes _ _ | apply Bytes.append | apply Bytes.take | apply Bytes.drop | apply Bytes.replicate))) (by first | rfl | assumption | (simp; done) | (simp; omega) | omega)) ?_
              refine rg_take 31 rfl rfl (by kernel_rfl) (by kernel_rfl) (by kernel_rfl) (want_y rfl rfl rfl rfl (by rw [hg10_26]; rfl)) (fun w hok => x_Geql (tmG rfl rfl) (tmG rfl rfl) (by first | assumption | exact Bytes.nil | (repeat' (first | assumption | exact Bytes.nil | exact be_bytes _ _ | apply Bytes.append | apply Bytes.take | apply Bytes.drop | apply Bytes.replicate))) (by first | assumption | exact Bytes.nil | (repeat' (first | assumption | exact Bytes.nil | exact be_bytes _ _ | apply Bytes.append | apply Bytes.take | apply Bytes.drop | apply Bytes.replicate)))) ?_
              refine rg_take 32 rfl rfl (by kernel_rfl) (by kernel_rfl) (by kernel_rfl) (want_0) (fun w hok => x_pickT (tmB rfl rfl) hg10_26 (tmB rfl rfl)) ?_
              refine rg_take 33 rfl rfl (by kernel_rfl) (by kernel_rfl) (by kernel_rfl) (want_0) (fun w hok => x_move (tmB rfl rfl)) ?_
              refine gs_rgs (tm (t := 113) rfl) (fun hg10_33 => ?_) (fun hg10_33 => ?_)
              · exfalso
                simp at hg10_33
              have hg10_33' := hg10_33; (try simp only [nrm] at hg10_33'); try (exfalso; first | with_reducible exact absurd hg10_33 Bool.false_ne_true | with_reducible exact absurd hg10_33.symm Bool.false_ne_true | omega | (simp at hg10_33; done))
              all_goals
               refine rg_step 34 rfl (by kernel_rfl) (want_y rfl rfl rfl rfl (by rw [hg10_33]; rfl)) (oks_drop hS 0 rfl) ?_; intro K hK
               refine ow_call Try.func17 rfl rfl (evs_nil) (law09_awake_c _) ?_
               rintro e w ⟨rfl, hk⟩
               refine ⟨_, rfl, ?_⟩
               replace hS := hS.kept hk
               clear hk
               refine hK _ _ ?_; clear hK K
               refine rg_take 35 rfl rfl (by kernel_rfl) (by kernel_rfl) (by kernel_rfl) (want_0) (fun w hok => x_pickT (tmB rfl rfl) hg10_33 (tmB rfl rfl)) ?_
               refine rg_take 36 rfl rfl (by kernel_rfl) (by kernel_rfl) (by kernel_rfl) (want_0) (fun w hok => x_assign (tmB rfl rfl)) ?_
               refine rg_done (oks_drop hS 0 rfl) (by kernel_rfl) ?_
               refine then_n (hK16 _ _ ?_); clear hK16 K16
               refine wp_ret ?_
               refine ret1 rfl (.tmp rfl (show _ = Value.bool _ from rfl)) ?_
               exact ⟨rfl, hS.kp.below⟩
set_option maxRecDepth 100000 in
theorem walk (v0 v1 v2 : Value) (A : Option Addr) (n c : Nat) (l : List Nat) (w0 : World) {H : Type} {enc : TypeId × Value → H} {r : Reach} {b0 b1 b2 : Nat} {e0 e1 e2 : DataW H} {p0 p1 p2 : List MemPlace}
    (hval0 : Value.okWide Try.prog w0 r b0 32 v0) (hd0 : DataW.Trod enc Try.prog w0 0 (fun _ => true) true 32 v0 e0 p0) (hlt0 : ∀ p ∈ p0, p.block < w0.heap.size)
    (hval1 : Value.okWide Try.prog w0 r b1 32 v1) (hd1 : DataW.Trod enc Try.prog w0 0 (fun _ => true) true 32 v1 e1 p1) (hlt1 : ∀ p ∈ p1, p.block < w0.heap.size)
    (hval2 : Value.okWide Try.prog w0 r b2 42 v2) (hd2 : DataW.Trod enc Try.prog w0 0 (fun _ => true) true 42 v2 e2 p2) (hlt2 : ∀ p ∈ p2, p.block < w0.heap.size)
    (r1 : l.length = n ∧ (A = none → c = 0) ∧ BView w0 w0.heap.size A l ∧ n ≤ c) :
    Calls Try.prog 4 #[v0, v1, v2, .slice A n c] w0 fun e w' => e = .returned (.bool true) ∧ Below w0.heap.size w0 w' := by
  obtain ⟨x0, rfl, hx0⟩ := RWay.open_a hval0 hd0 hlt0
  obtain ⟨x1, rfl, hx1⟩ := RWay.open_a hval1 hd1 hlt1
  obtain ⟨s, rfl, hs⟩ := RH4.open_a hval2 hd2 hlt2
  obtain ⟨s1, d1, t1⟩ := x0
  obtain ⟨s2, d2, t2⟩ := x1
  obtain ⟨y1, y2, y3⟩ := hx0
  obtain ⟨y4, y5, y6⟩ := hx1
  obtain ⟨tos, len, id, stay, more, off, ttl, proto, sum, src, dst, ⟨O, o, co⟩⟩ := s
  obtain ⟨q1, q2, q3, _, _, q6, q7, q8, q9, _, _, ⟨hoc1, hoc2, hob, hov⟩⟩ := hs
  obtain ⟨hl, _, ⟨hb, hv⟩, _⟩ := r1
  exact walkC s1 d1 t1 s2 d2 t2 tos len id stay more off ttl proto sum src dst O co o A n c l w0 y3 y6 ⟨by have := y1; simp [Ad.ok] at this; omega, by have := y1; simp [Ad.ok] at this; omega⟩ ⟨by have := y2; simp [Ad.ok] at this; omega, by have := y2; simp [Ad.ok] at this; omega⟩ ⟨by have := y4; simp [Ad.ok] at this; omega, by have := y4; simp [Ad.ok] at this; omega⟩ ⟨by have := y5; simp [Ad.ok] at this; omega, by have := y5; simp [Ad.ok] at this; omega⟩ q1 q3 q7 q8 (Nat.le_trans hoc1 hoc2) hob hov hl hb hv
end TunnelTwice
end Go.Proofs.Ytilgolflpdpfnaa
