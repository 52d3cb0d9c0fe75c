/- Proved: PacketCarries returns true for every input, and changes no memory that was there. Conditions: the package-level table packet.names reads as the program's text lays it (the card ties it). -/
import Derived.Test.YtmekadkmmddocaaDoorPkA
import Derived.Test.YtmekadkmmddocaaDoorPkD
import Derived.Test.YtmekadkmmddocaaDoorKitL
import Derived.Test.YtmekadkmmddocaaDoorArgs
namespace Go.Proofs.YtmekadkmmddocaaDoor
open Go.ChangeShapes Go.WideShapes Go.ChangeAt Go.RowKit
structure RSeg where
  srcPort : Nat
  dstPort : Nat
  seq : Nat
  ack : Nat
  flags : Nat
  window : Nat
  sum : Nat
  urgent : Nat
  options : Sl Nat
  load : Sl Nat
def RSeg.V (s : RSeg) : List Value := [.int .u16 (s.srcPort : Int), .int .u16 (s.dstPort : Int), .int .u32 (s.seq : Int), .int .u32 (s.ack : Int), .int .u8 (s.flags : Int), .int .u16 (s.window : Int), .int .u16 (s.sum : Int), .int .u16 (s.urgent : Int), .slice s.options.a s.options.l.length s.options.c, .slice s.load.a s.load.l.length s.load.c]
theorem RSeg.len (s : RSeg) : s.V.length = 10 := rfl
def RSeg.ok (w : World) (s : RSeg) : Prop := s.srcPort < 65536 ∧ s.dstPort < 65536 ∧ s.seq < 4294967296 ∧ s.ack < 4294967296 ∧ s.flags < 256 ∧ s.window < 65536 ∧ s.sum < 65536 ∧ s.urgent < 65536 ∧ okB w s.options ∧ okB w s.load
instance : Inhabited RSeg := ⟨⟨0, 0, 0, 0, 0, 0, 0, 0, default, default⟩⟩
set_option maxRecDepth 100000 in
theorem RSeg.open_t {H : Type} {enc : TypeId × Value → H} {w : World} {fuel : Nat} {cs : List Value} {x : DataW H × List MemPlace} (hf : DataW.trod enc Tryd.prog w 0 (fun _ => true) true fuel 42 cs = some x) (hlt : ∀ p ∈ x.2, p.block < w.heap.size) : ∃ s : RSeg, cs = s.V ∧ s.ok w := by
  have hC : Tryd.prog.cellsOf 42 = 10 := by kernel_rfl
  have hl := (DataW.trod_struct Tryd.underlying42 hf).choose_spec.choose_spec.2.2.1
  rw [hC] at hl
  obtain ⟨y0, k0, t0, b0⟩ := field_t Tryd.underlying42 hf hlt 0 _ rfl
  have hC0 : Tryd.prog.cellsOf 27 = 1 := by kernel_rfl
  obtain ⟨s0, e0, o0⟩ := t_u16 Tryd.underlying27 t0 b0
  have d0 := split_drop cs 0 1 (hC0 ▸ e0)
  obtain ⟨y1, k1, t1, b1⟩ := field_t Tryd.underlying42 hf hlt 1 _ rfl
  have hC1 : Tryd.prog.cellsOf 27 = 1 := by kernel_rfl
  obtain ⟨s1, e1, o1⟩ := t_u16 Tryd.underlying27 t1 b1
  have d1 := split_drop cs 1 1 (hC1 ▸ e1)
  obtain ⟨y2, k2, t2, b2⟩ := field_t Tryd.underlying42 hf hlt 2 _ rfl
  have hC2 : Tryd.prog.cellsOf 30 = 1 := by kernel_rfl
  obtain ⟨s2, e2, o2⟩ := t_u32 Tryd.underlying30 t2 b2
  have d2 := split_drop cs 2 1 (hC2 ▸ e2)
  obtain ⟨y3, k3, t3, b3⟩ := field_t Tryd.underlying42 hf hlt 3 _ rfl
  have hC3 : Tryd.prog.cellsOf 30 = 1 := by kernel_rfl
  obtain ⟨s3, e3, o3⟩ := t_u32 Tryd.underlying30 t3 b3
  have d3 := split_drop cs 3 1 (hC3 ▸ e3)
  obtain ⟨y4, k4, t4, b4⟩ := field_t Tryd.underlying42 hf hlt 4 _ rfl
  have hC4 : Tryd.prog.cellsOf 5 = 1 := by kernel_rfl
  obtain ⟨s4, e4, o4⟩ := t_u8 Tryd.underlying5 t4 b4
  have d4 := split_drop cs 4 1 (hC4 ▸ e4)
  obtain ⟨y5, k5, t5, b5⟩ := field_t Tryd.underlying42 hf hlt 5 _ rfl
  have hC5 : Tryd.prog.cellsOf 27 = 1 := by kernel_rfl
  obtain ⟨s5, e5, o5⟩ := t_u16 Tryd.underlying27 t5 b5
  have d5 := split_drop cs 5 1 (hC5 ▸ e5)
  obtain ⟨y6, k6, t6, b6⟩ := field_t Tryd.underlying42 hf hlt 6 _ rfl
  have hC6 : Tryd.prog.cellsOf 27 = 1 := by kernel_rfl
  obtain ⟨s6, e6, o6⟩ := t_u16 Tryd.underlying27 t6 b6
  have d6 := split_drop cs 6 1 (hC6 ▸ e6)
  obtain ⟨y7, k7, t7, b7⟩ := field_t Tryd.underlying42 hf hlt 7 _ rfl
  have hC7 : Tryd.prog.cellsOf 27 = 1 := by kernel_rfl
  obtain ⟨s7, e7, o7⟩ := t_u16 Tryd.underlying27 t7 b7
  have d7 := split_drop cs 7 1 (hC7 ▸ e7)
  obtain ⟨y8, k8, t8, b8⟩ := field_t Tryd.underlying42 hf hlt 8 _ rfl
  have hC8 : Tryd.prog.cellsOf 22 = 1 := by kernel_rfl
  obtain ⟨s8, e8, o8⟩ := t_bytes Tryd.underlying22 Tryd.underlying5 (by kernel_rfl) t8 b8
  have d8 := split_drop cs 8 1 (hC8 ▸ e8)
  obtain ⟨y9, k9, t9, b9⟩ := field_t Tryd.underlying42 hf hlt 9 _ rfl
  have hC9 : Tryd.prog.cellsOf 22 = 1 := by kernel_rfl
  obtain ⟨s9, e9, o9⟩ := t_bytes Tryd.underlying22 Tryd.underlying5 (by kernel_rfl) t9 b9
  have d9 := split_drop cs 9 1 (hC9 ▸ e9)
  refine ⟨⟨s0, s1, s2, s3, s4, s5, s6, s7, s8, s9⟩, ?_, ⟨o0, o1, o2, o3, o4, o5, o6, o7, o8, o9⟩⟩
  have dn : cs.drop 10 = [] := List.drop_eq_nil_of_le (by omega)
  rw [← List.drop_zero (l := cs)]
  refine d0.trans ?_
  rw [show cs.drop (0 + 1) = _ from d1]
  rw [show cs.drop (1 + 1) = _ from d2]
  rw [show cs.drop (2 + 1) = _ from d3]
  rw [show cs.drop (3 + 1) = _ from d4]
  rw [show cs.drop (4 + 1) = _ from d5]
  rw [show cs.drop (5 + 1) = _ from d6]
  rw [show cs.drop (6 + 1) = _ from d7]
  rw [show cs.drop (7 + 1) = _ from d8]
  rw [show cs.drop (8 + 1) = _ from d9]
  rw [show cs.drop (9 + 1) = [] from dn]
  rfl
set_option maxRecDepth 100000 in
theorem RSeg.open_a {H : Type} {enc : TypeId × Value → H} {w : World} {r : Reach} {b0 : Nat} {v : Value} {d : DataW H} {ps : List MemPlace} (hval : Value.okWide Tryd.prog w r b0 42 v) (hd : DataW.Trod enc Tryd.prog w 0 (fun _ => true) true 42 v d ps) (hlt : ∀ p ∈ ps, p.block < w.heap.size) : ∃ s : RSeg, v = .agg s.V.toArray ∧ s.ok w := by
  obtain ⟨cs, rfl, _⟩ := okWide_struct Tryd.underlying42 hval
  obtain ⟨fuel, hf⟩ := hd
  obtain ⟨s, e, h⟩ := RSeg.open_t hf hlt
  exact ⟨s, by rw [← e]; simp [Value.cells], h⟩
set_option maxRecDepth 100000 in
set_option maxHeartbeats 4000000 in
theorem seg28_c (a1 a2 a3 a4 a5 a6 a7 a8 : Nat) (O : Option Addr) (m c : Nat) (L : Option Addr) (k d : Nat) (w0 : World) :
    Calls Tryd.prog 17 #[.agg (segV a1 a2 a3 a4 a5 a6 a7 a8 O m c L k d).toArray] w0 fun e w' => e = .returned (.agg (segV a1 a2 a3 a4 a5 a6 a7 a8 O m c L k d).toArray) ∧ Kp [] w0 w' := by
  have hS := St.sv w0
  refine ent (n := 24) Tryd.func17 rfl rfl ?_
  refine wp_seq_k ?_; intro K1 hK1
  refine wlit ?_
  refine wl_e rfl ?_; intro K hK
  refine ow_box hS (tmA rfl rfl) rfl ?_
  clear hS; intro g0_0 w hg0_0 hS
  refine hK _ _ ?_; clear hK K
  refine wl_e rfl ?_; intro K hK
  refine ow_alloc hS tz_32 rfl ?_
  clear hS; intro g0_1 w hg0_1 hS
  refine hK _ _ ?_; clear hK K
  refine wl_nil ?_
  refine then_n (hK1 _ _ ?_); clear hK1 K1
  refine wp_seq_k ?_; intro K2 hK2
  refine wlit ?_
  refine wl_v (x_fa 0 Tryd.underlying42 rfl rfl ts_27 (tmP rfl rfl)) ?_
  first
   | refine wl_v (x_load Tryd.underlying27 rfl (tmP rfl rfl) (cellB hS.ok 1 rfl rfl)) ?_
   | refine wl_v (x_load Tryd.underlying27 rfl (tmP rfl rfl) (cellB hS.ok 1 rfl (getm (by omega)))) ?_
  refine wl_v (x_fa 1 Tryd.underlying42 rfl rfl ts_27 (tmP rfl rfl)) ?_
  first
   | refine wl_v (x_load Tryd.underlying27 rfl (tmP rfl rfl) (cellB hS.ok 1 rfl rfl)) ?_
   | refine wl_v (x_load Tryd.underlying27 rfl (tmP rfl rfl) (cellB hS.ok 1 rfl (getm (by omega)))) ?_
  refine wl_v (x_fa 2 Tryd.underlying42 rfl rfl ts_30 (tmP rfl rfl)) ?_
  first
   | refine wl_v (x_load Tryd.underlying30 rfl (tmP rfl rfl) (cellB hS.ok 1 rfl rfl)) ?_
   | refine wl_v (x_load Tryd.underlying30 rfl (tmP rfl rfl) (cellB hS.ok 1 rfl (getm (by omega)))) ?_
  refine wl_v (x_fa 3 Tryd.underlying42 rfl rfl ts_30 (tmP rfl rfl)) ?_
  first
   | refine wl_v (x_load Tryd.underlying30 rfl (tmP rfl rfl) (cellB hS.ok 1 rfl rfl)) ?_
   | refine wl_v (x_load Tryd.underlying30 rfl (tmP rfl rfl) (cellB hS.ok 1 rfl (getm (by omega)))) ?_
  refine wl_v (x_fa 4 Tryd.underlying42 rfl rfl ts_5 (tmP rfl rfl)) ?_
  first
   | refine wl_v (x_load Tryd.underlying5 rfl (tmP rfl rfl) (cellB hS.ok 1 rfl rfl)) ?_
   | refine wl_v (x_load Tryd.underlying5 rfl (tmP rfl rfl) (cellB hS.ok 1 rfl (getm (by omega)))) ?_
  refine wl_v (x_fa 5 Tryd.underlying42 rfl rfl ts_27 (tmP rfl rfl)) ?_
  first
   | refine wl_v (x_load Tryd.underlying27 rfl (tmP rfl rfl) (cellB hS.ok 1 rfl rfl)) ?_
   | refine wl_v (x_load Tryd.underlying27 rfl (tmP rfl rfl) (cellB hS.ok 1 rfl (getm (by omega)))) ?_
  refine wl_v (x_fa 6 Tryd.underlying42 rfl rfl ts_27 (tmP rfl rfl)) ?_
  first
   | refine wl_v (x_load Tryd.underlying27 rfl (tmP rfl rfl) (cellB hS.ok 1 rfl rfl)) ?_
   | refine wl_v (x_load Tryd.underlying27 rfl (tmP rfl rfl) (cellB hS.ok 1 rfl (getm (by omega)))) ?_
  refine wl_v (x_fa 7 Tryd.underlying42 rfl rfl ts_27 (tmP rfl rfl)) ?_
  first
   | refine wl_v (x_load Tryd.underlying27 rfl (tmP rfl rfl) (cellB hS.ok 1 rfl rfl)) ?_
   | refine wl_v (x_load Tryd.underlying27 rfl (tmP rfl rfl) (cellB hS.ok 1 rfl (getm (by omega)))) ?_
  refine wl_v (x_fa 8 Tryd.underlying42 rfl rfl ts_22 (tmP rfl rfl)) ?_
  first
   | refine wl_v (x_load Tryd.underlying22 rfl (tmP rfl rfl) (cellB hS.ok 1 rfl rfl)) ?_
   | refine wl_v (x_load Tryd.underlying22 rfl (tmP rfl rfl) (cellB hS.ok 1 rfl (getm (by omega)))) ?_
  refine wl_v (x_fa 9 Tryd.underlying42 rfl rfl ts_22 (tmP rfl rfl)) ?_
  first
   | refine wl_v (x_load Tryd.underlying22 rfl (tmP rfl rfl) (cellB hS.ok 1 rfl rfl)) ?_
   | refine wl_v (x_load Tryd.underlying22 rfl (tmP rfl rfl) (cellB hS.ok 1 rfl (getm (by omega)))) ?_
  refine wl_v (x_build (bc_take (tmI rfl rfl) <| bc_take (tmI rfl rfl) <| bc_take (tmI rfl rfl) <| bc_take (tmI rfl rfl) <| bc_take (tmI rfl rfl) <| bc_take (tmI rfl rfl) <| bc_take (tmI rfl rfl) <| bc_take (tmI rfl rfl) <| bc_take (tmS rfl rfl) <| bc_take (tmS rfl rfl) <| bc_nil) (by kernel_rfl)) ?_
  refine wl_e rfl ?_; intro K hK
  refine ow_storeA hS 0 rfl ts_32 (tmP rfl rfl) (tmA rfl rfl) rfl rfl rfl ?_
  clear hS; intro w hS
  try replace hS := St.nm (M' := [.blk _ _ [_, _, _, _, _, _, _, _, _, _], .blk _ _ [_, _, _, _, _, _, _, _, _, _], _]) hS rfl
  refine hK _ _ ?_; clear hK K
  refine wl_nil ?_
  refine then_n (hK2 _ _ ?_); clear hK2 K2
  refine wp_ret ?_
  refine ret1 rfl (.cell rfl rfl (load_rowB (cs := [_, _, _, _, _, _, _, _, _, _]) hS.ok 0 rfl Tryd.underlying32 rfl ts_32 rfl)) ?_
  exact ⟨rfl, hS.kp⟩
def Carr (fn : Nat) (a1 a2 a3 a4 a5 a6 a7 a8 : Nat) (l o x pp : List Nat) (er : Nat) : Prop := ∀ (w : World) (A : Option Addr) (c : Nat) (O : Option Addr) (co : Nat) (L : Option Addr) (d : Nat), l.length ≤ c → View w w.heap.size A (l.map u8v) → View w w.heap.size O (o.map u8v) → View w w.heap.size L (x.map u8v) →
  Calls Tryd.prog fn #[.slice A l.length c, .agg (segV a1 a2 a3 a4 a5 a6 a7 a8 O o.length co L x.length d).toArray] w fun e w' => ∃ A' n c', n = pp.length ∧ e = .returned (.tuple #[.slice A' n c', .int .i64 (er : Int)]) ∧ NewV w w' A' (pp.map u8v) ∧ Kp [] w w'
theorem segB_bytes (a1 a2 a3 a4 a5 a6 a7 a8 : Nat) {o x : List Nat} (ho : Bytes o) (hx : Bytes x) : Bytes (segB a1 a2 a3 a4 a5 a6 a7 a8 o x) := by
  unfold segB
  repeat' (first | assumption | exact Bytes.nil | exact be_bytes _ _ | apply Bytes.append)
theorem carr_ex (a1 a2 a3 a4 a5 a6 a7 a8 : Nat) (l o x : List Nat) (q1 : a1 < 65536) (q2 : a2 < 65536) (q3 : a3 < 4294967296) (q4 : a4 < 4294967296) (q5 : a5 < 256) (q6 : a6 < 65536) (q7 : a7 < 65536) (q8 : a8 < 65536)
    (hb : Bytes l) (hn : l.length ≤ 3000) (hob : Bytes o) (ho : o.length ≤ 100) (hxb : Bytes x) (hx : x.length ≤ 2000) : ∃ pp er, Bytes pp ∧ Carr 16 a1 a2 a3 a4 a5 a6 a7 a8 l o x pp er ∧ Carr 18 a1 a2 a3 a4 a5 a6 a7 a8 l o x pp er := by
  by_cases hr : segRight o.length x.length
  · have hbl : (segB a1 a2 a3 a4 a5 a6 a7 a8 o x).length = 20 + o.length + x.length := by simp [segB, be_length]; omega
    have hbb := segB_bytes a1 a2 a3 a4 a5 a6 a7 a8 hob hxb
    by_cases h6 : sixP l
    · obtain ⟨cl, lb, len, pr, ttl, s, d2, x2, e6, b1, b2, b3, b4, b5, -, -, -, hP, hPR⟩ := j6_ex l hb hn h6.2
      obtain ⟨pp, er, hpb, hK, hKR⟩ := p6_ex cl lb len pr ttl s d2 (segB a1 a2 a3 a4 a5 a6 a7 a8 o x) b1 b2 b3 b4 b5 (by omega) hbb
      by_cases h0 : e6 = 0
      · refine ⟨pp, er, hpb, fun w A c O co L d hc hv hov hxv => ?_, fun w A c O co L d hc hv hov hxv => ?_⟩
        · refine (with_six a1 a2 a3 a4 a5 a6 a7 a8 O co L d o x A c l w hv hc hb hn hov hxv ho hx q1 q2 q3 q4 q5 q6 q7 q8 hr h6 cl lb len pr ttl s d2 x2 pp e6 er hP hK).mono ?_
          rintro e w' ⟨A', n, c', P, E, ⟨h, _⟩ | ⟨_, rfl, rfl⟩, h2⟩
          · exact absurd h0 h
          · exact ⟨A', n, c', h2⟩
        · refine (rwith_six a1 a2 a3 a4 a5 a6 a7 a8 O co L d o x A c l w hv hc hb hn hov hxv ho hx q1 q2 q3 q4 q5 q6 q7 q8 hr h6 cl lb len pr ttl s d2 x2 pp e6 er hPR hKR).mono ?_
          rintro e w' ⟨A', n, c', P, E, ⟨h, _⟩ | ⟨_, rfl, rfl⟩, h2⟩
          · exact absurd h0 h
          · exact ⟨A', n, c', h2⟩
      · refine ⟨[], 21, Bytes.nil, fun w A c O co L d hc hv hov hxv => ?_, fun w A c O co L d hc hv hov hxv => ?_⟩
        · refine (with_six a1 a2 a3 a4 a5 a6 a7 a8 O co L d o x A c l w hv hc hb hn hov hxv ho hx q1 q2 q3 q4 q5 q6 q7 q8 hr h6 cl lb len pr ttl s d2 x2 pp e6 er hP hK).mono ?_
          rintro e w' ⟨A', n, c', P, E, ⟨_, rfl, rfl⟩ | ⟨h, _⟩, h2⟩
          · exact ⟨A', n, c', h2⟩
          · exact absurd h h0
        · refine (rwith_six a1 a2 a3 a4 a5 a6 a7 a8 O co L d o x A c l w hv hc hb hn hov hxv ho hx q1 q2 q3 q4 q5 q6 q7 q8 hr h6 cl lb len pr ttl s d2 x2 pp e6 er hPR hKR).mono ?_
          rintro e w' ⟨A', n, c', P, E, ⟨_, rfl, rfl⟩ | ⟨h, _⟩, h2⟩
          · exact ⟨A', n, c', h2⟩
          · exact absurd h h0
    · obtain ⟨tos, len, id, stay, more, off, ttl, pr, sum, s, d2, o2, x2, e6, b1, b2, b3, b4, b5, b6, b7, -, -, -, h04, hP, hPR⟩ := j4_ex l hb hn
      obtain ⟨pp, er, hpb, hK, hKR⟩ := p4_ex tos len id stay more off ttl pr sum s d2 o2 (segB a1 a2 a3 a4 a5 a6 a7 a8 o x) b1 b2 b3 b4 b6 b7 (by omega) hbb
      by_cases h0 : e6 = 0
      · refine ⟨pp, er, hpb, fun w A c O co L d hc hv hov hxv => ?_, fun w A c O co L d hc hv hov hxv => ?_⟩
        · refine (with_four a1 a2 a3 a4 a5 a6 a7 a8 O co L d o x A c l w hv hc hb hn hov hxv ho hx q1 q2 q3 q4 q5 q6 q7 q8 hr h6 tos len id stay more off ttl pr sum s d2 o2 x2 pp e6 er hP hK).mono ?_
          rintro e w' ⟨A', n, c', P, E, ⟨h, _⟩ | ⟨_, rfl, rfl⟩, h2⟩
          · exact absurd h0 h
          · exact ⟨A', n, c', h2⟩
        · refine (rwith_four a1 a2 a3 a4 a5 a6 a7 a8 O co L d o x A c l w hv hc hb hn hov hxv ho hx q1 q2 q3 q4 q5 q6 q7 q8 hr h6 tos len id stay more off ttl pr sum s d2 o2 x2 pp e6 er h04 hPR hKR).mono ?_
          rintro e w' ⟨A', n, c', P, E, ⟨h, _⟩ | ⟨_, rfl, rfl⟩, h2⟩
          · exact absurd h0 h
          · exact ⟨A', n, c', h2⟩
      · refine ⟨[], 21, Bytes.nil, fun w A c O co L d hc hv hov hxv => ?_, fun w A c O co L d hc hv hov hxv => ?_⟩
        · refine (with_four a1 a2 a3 a4 a5 a6 a7 a8 O co L d o x A c l w hv hc hb hn hov hxv ho hx q1 q2 q3 q4 q5 q6 q7 q8 hr h6 tos len id stay more off ttl pr sum s d2 o2 x2 pp e6 er hP hK).mono ?_
          rintro e w' ⟨A', n, c', P, E, ⟨_, rfl, rfl⟩ | ⟨h, _⟩, h2⟩
          · exact ⟨A', n, c', h2⟩
          · exact absurd h h0
        · refine (rwith_four a1 a2 a3 a4 a5 a6 a7 a8 O co L d o x A c l w hv hc hb hn hov hxv ho hx q1 q2 q3 q4 q5 q6 q7 q8 hr h6 tos len id stay more off ttl pr sum s d2 o2 x2 pp e6 er h04 hPR hKR).mono ?_
          rintro e w' ⟨A', n, c', P, E, ⟨_, rfl, rfl⟩ | ⟨h, _⟩, h2⟩
          · exact ⟨A', n, c', h2⟩
          · exact absurd h h0
  · refine ⟨[], 1, Bytes.nil, fun w A c O co L d hc hv hov hxv => ?_, fun w A c O co L d hc hv hov hxv => ?_⟩
    · refine (with_bad a1 a2 a3 a4 a5 a6 a7 a8 O co L d o x A c l w hv hc hb hn hov hxv ho hx hr).mono ?_
      rintro e w' ⟨A', n, c', P, E, ⟨rfl, rfl⟩, h2⟩
      exact ⟨A', n, c', h2⟩
    · refine (rwith_bad a1 a2 a3 a4 a5 a6 a7 a8 O co L d o x A c l w hv hc hb hn hov hxv ho hx hr).mono ?_
      rintro e w' ⟨A', n, c', P, E, ⟨rfl, rfl⟩, h2⟩
      exact ⟨A', n, c', h2⟩
namespace PacketCarries
set_option maxRecDepth 100000 in
set_option maxHeartbeats 4000000 in
theorem walkC (A : Option Addr) (c : Nat) (l : List Nat) (a1 a2 a3 a4 a5 a6 a7 a8 : Nat) (O : Option Addr) (co : Nat) (L : Option Addr) (d : Nat) (o x : List Nat) (w0 : World) (hv : View w0 w0.heap.size A (l.map u8v)) (hc : l.length ≤ c) (hb : Bytes l) (q1 : a1 < 65536) (q2 : a2 < 65536) (q3 : a3 < 4294967296) (q4 : a4 < 4294967296) (q5 : a5 < 256) (q6 : a6 < 65536) (q7 : a7 < 65536) (q8 : a8 < 65536)
    (hob : Bytes o) (hov : View w0 w0.heap.size O (o.map u8v)) (hxb : Bytes x) (hxv : View w0 w0.heap.size L (x.map u8v)) (hN : Names w0) :
    Calls Tryd.prog 5 #[.slice A l.length c, .agg (segV a1 a2 a3 a4 a5 a6 a7 a8 O o.length co L x.length d).toArray] w0 fun e w' => e = .returned (.bool true) ∧ Below w0.heap.size w0 w' := by
  have hS := ((((St.sv w0).vcons rfl hN).vcons rfl hv).vcons rfl hov).vcons rfl hxv
  by_cases hli : l.length ≤ 3000 ∧ o.length ≤ 100 ∧ x.length ≤ 2000
  · obtain ⟨pp, er, hpb, h1, h2⟩ := carr_ex a1 a2 a3 a4 a5 a6 a7 a8 l o x q1 q2 q3 q4 q5 q6 q7 q8 hb hli.1 hob hli.2.1 hxb hli.2.2
    refine ent (n := 51) Tryd.func5 rfl rfl ?_
    refine wp_seq_k ?_; intro K1 hK1
    refine wlit ?_
    refine wl_e rfl ?_; intro K hK
    refine ow_box hS (tmA rfl rfl) rfl ?_
    clear hS; intro g0_0 w hg0_0 hS
    refine hK _ _ ?_; clear hK K
    refine wl_v (x_assign ev_c) ?_
    refine wl_nil ?_
    refine then_n (hK1 _ _ ?_); clear hK1 K1
    refine wp_seq_k ?_; intro K2 hK2
    refine wp_seq_k ?_; intro K3 hK3
    refine wlit ?_
    refine wl_v (x_move (tmS rfl rfl)) ?_
    refine wl_v (x_len Tryd.underlying22 (tmS rfl rfl)) ?_
    refine wl_v (x_gtr (tmI rfl rfl) (ev_cN 3000)) ?_
    refine wl_v (x_move (tmB rfl rfl)) ?_
    refine gs_wl (tm (t := 12) rfl) (fun hg1_3 => ?_) (fun hg1_3 => ?_)
    · have hg1_3' := hg1_3; (try simp only [nrm] at hg1_3'); try (exfalso; first | with_reducible exact absurd hg1_3 Bool.false_ne_true | with_reducible exact absurd hg1_3.symm Bool.false_ne_true | omega | (simp at hg1_3; done))
      all_goals
       refine wl_s rfl (want_n rfl rfl rfl rfl (by rw [hg1_3]; rfl)) ?_
       refine wl_s rfl (want_n rfl rfl rfl rfl (by rw [hg1_3]; rfl)) ?_
       refine wl_s rfl (want_n rfl rfl rfl rfl (by rw [hg1_3]; rfl)) ?_
       refine wl_s rfl (want_n rfl rfl rfl rfl (by rw [hg1_3]; rfl)) ?_
       refine wl_v (x_pickT (tmB rfl rfl) hg1_3 ev_c) ?_
       refine wl_v (x_move (tmB rfl rfl)) ?_
       refine wl_s rfl (want_n rfl rfl rfl rfl rfl) ?_
       refine wl_s rfl (want_n rfl rfl rfl rfl rfl) ?_
       refine wl_s rfl (want_n rfl rfl rfl rfl rfl) ?_
       refine wl_s rfl (want_n rfl rfl rfl rfl rfl) ?_
       refine wl_v (x_pickT (tmB rfl rfl) rfl ev_c) ?_
       refine wl_nil ?_
       refine then_n (hK3 _ _ ?_); clear hK3 K3
       refine cnd_t (tmB rfl rfl) rfl ?_
       refine wp_seq_k ?_; intro K4 hK4
       refine wlit ?_
       refine wl_e rfl ?_; intro K hK
       fail "no contract for counterfoil/counterfoillaw28.awake (r2.0)"
    have hg1_3' := hg1_3; (try simp only [nrm] at hg1_3'); try (exfalso; first | with_reducible exact absurd hg1_3 Bool.false_ne_true | with_reducible exact absurd hg1_3.symm Bool.false_ne_true | omega | (simp at hg1_3; done))
    all_goals
     refine wl_gv (want_y rfl rfl rfl rfl (by rw [hg1_3]; rfl)) (x_fa 8 Tryd.underlying42 rfl rfl ts_22 (tmP rfl rfl)) ?_
     first
      | refine wl_gv (want_y rfl rfl rfl rfl (by rw [hg1_3]; rfl)) (x_load Tryd.underlying22 rfl (tmP rfl rfl) (cellB hS.ok 0 rfl rfl)) ?_
      | refine wl_gv (want_y rfl rfl rfl rfl (by rw [hg1_3]; rfl)) (x_load Tryd.underlying22 rfl (tmP rfl rfl) (cellB hS.ok 0 rfl (getm (by omega)))) ?_
     refine wl_gv (want_y rfl rfl rfl rfl (by rw [hg1_3]; rfl)) (x_len Tryd.underlying22 (tmS rfl rfl)) ?_
     refine wl_gv (want_y rfl rfl rfl rfl (by rw [hg1_3]; rfl)) (x_gtr (tmI rfl rfl) (ev_cN 100)) ?_
     refine wl_v (x_pickF (tmB rfl rfl) hg1_3 (tmB rfl rfl)) ?_
     refine wl_v (x_move (tmB rfl rfl)) ?_
     refine gs_wl (tm (t := 18) rfl) (fun hg1_9 => ?_) (fun hg1_9 => ?_)
     · have hg1_9' := hg1_9; (try simp only [nrm] at hg1_9'); try (exfalso; first | with_reducible exact absurd hg1_9 Bool.false_ne_true | with_reducible exact absurd hg1_9.symm Bool.false_ne_true | omega | (simp at hg1_9; done))
       all_goals
        refine wl_s rfl (want_n rfl rfl rfl rfl (by rw [hg1_9]; rfl)) ?_
        refine wl_s rfl (want_n rfl rfl rfl rfl (by rw [hg1_9]; rfl)) ?_
        refine wl_s rfl (want_n rfl rfl rfl rfl (by rw [hg1_9]; rfl)) ?_
        refine wl_s rfl (want_n rfl rfl rfl rfl (by rw [hg1_9]; rfl)) ?_
        refine wl_v (x_pickT (tmB rfl rfl) hg1_9 ev_c) ?_
        refine wl_nil ?_
        refine then_n (hK3 _ _ ?_); clear hK3 K3
        refine cnd_t (tmB rfl rfl) rfl ?_
        refine wp_seq_k ?_; intro K5 hK5
        refine wlit ?_
        refine wl_e rfl ?_; intro K hK
        fail "no contract for counterfoil/counterfoillaw28.awake (r2.0)"
     have hg1_9' := hg1_9; (try simp only [nrm] at hg1_9'); try (exfalso; first | with_reducible exact absurd hg1_9 Bool.false_ne_true | with_reducible exact absurd hg1_9.symm Bool.false_ne_true | omega | (simp at hg1_9; done))
     all_goals
      refine wl_gv (want_y rfl rfl rfl rfl (by rw [hg1_9]; rfl)) (x_fa 9 Tryd.underlying42 rfl rfl ts_22 (tmP rfl rfl)) ?_
      first
       | refine wl_gv (want_y rfl rfl rfl rfl (by rw [hg1_9]; rfl)) (x_load Tryd.underlying22 rfl (tmP rfl rfl) (cellB hS.ok 0 rfl rfl)) ?_
       | refine wl_gv (want_y rfl rfl rfl rfl (by rw [hg1_9]; rfl)) (x_load Tryd.underlying22 rfl (tmP rfl rfl) (cellB hS.ok 0 rfl (getm (by omega)))) ?_
      refine wl_gv (want_y rfl rfl rfl rfl (by rw [hg1_9]; rfl)) (x_len Tryd.underlying22 (tmS rfl rfl)) ?_
      refine wl_gv (want_y rfl rfl rfl rfl (by rw [hg1_9]; rfl)) (x_gtr (tmI rfl rfl) (ev_cN 2000)) ?_
      refine wl_v (x_pickF (tmB rfl rfl) hg1_9 (tmB rfl rfl)) ?_
      refine wl_nil ?_
      refine then_n (hK3 _ _ ?_); clear hK3 K3
      refine cnd (tm rfl) (fun hc0 => ?_) (fun hc0 => ?_)
      · exfalso
        simp at hc0
        omega
      try (exfalso; first | with_reducible exact absurd hc0 Bool.false_ne_true | with_reducible exact absurd hc0.symm Bool.false_ne_true | (simp only [nrm] at hc0; omega) | (simp at hc0; done))
      all_goals
       try simp only [nrm] at hc0
       refine wp_skip ?_
       refine then_n (hK2 _ _ ?_); clear hK2 K2
       refine wp_seq_k ?_; intro K6 hK6
       refine wlit ?_
       refine wl_v (x_move (tmS rfl rfl)) ?_
       refine wl_v (x_loadA (cs := [_, _, _, _, _, _, _, _, _, _]) Tryd.underlying42 rfl ts_42 (tmP rfl rfl) (rangeB hS.ok 0 rfl rfl)) ?_
       refine wl_e rfl ?_; intro K hK
       refine ow_call Tryd.func17 rfl rfl (evs_cons (tmA rfl rfl) <| evs_nil) (seg28_c a1 a2 a3 a4 a5 a6 a7 a8 O o.length co L x.length d _) ?_
       rintro e w ⟨rfl, hk⟩
       refine ⟨_, rfl, ?_⟩
       replace hS := hS.kept hk
       clear hk
       refine hK _ _ ?_; clear hK K
       refine wl_e rfl ?_; intro K hK
       refine ow_call Tryd.func16 rfl rfl (evs_cons (tmS rfl rfl) <| evs_cons (tmA rfl rfl) <| evs_nil) (h1 _ A c O co L d hc (viewV hS.ok 3 rfl) (viewV hS.ok 2 rfl) (viewV hS.ok 1 rfl)) ?_
       rintro e w ⟨A4, n4, c4, hn4, rfl, hn, hk⟩
       refine ⟨_, rfl, ?_⟩
       replace hS := hS.addn hk hn -- +vp
       clear hn hk
       refine hK _ _ ?_; clear hK K
       refine wl_v (x_move (tmT rfl rfl)) ?_
       refine wl_v (x_ext (tmT rfl rfl) rfl) ?_
       refine wl_v (x_ext (tmT rfl rfl) rfl) ?_
       refine wl_v (x_assign (tmS rfl rfl)) ?_
       refine wl_v (x_assign (tmI rfl rfl)) ?_
       refine wl_nil ?_
       refine then_n (hK6 _ _ ?_); clear hK6 K6
       refine wp_seq_k ?_; intro K7 hK7
       refine wlit ?_
       refine wl_v (x_move (tmS rfl rfl)) ?_
       refine wl_v (x_loadA (cs := [_, _, _, _, _, _, _, _, _, _]) Tryd.underlying42 rfl ts_42 (tmP rfl rfl) (rangeB hS.ok 1 rfl rfl)) ?_
       refine wl_e rfl ?_; intro K hK
       refine ow_call Tryd.func18 rfl rfl (evs_cons (tmS rfl rfl) <| evs_cons (tmA rfl rfl) <| evs_nil) (h2 _ A c O co L d hc (viewV hS.ok 4 rfl) (viewV hS.ok 3 rfl) (viewV hS.ok 2 rfl)) ?_
       rintro e w ⟨A5, n5, c5, hn5, rfl, hn, hk⟩
       refine ⟨_, rfl, ?_⟩
       replace hS := hS.addn hk hn -- +vq
       clear hn hk
       refine hK _ _ ?_; clear hK K
       refine wl_v (x_move (tmT rfl rfl)) ?_
       refine wl_v (x_ext (tmT rfl rfl) rfl) ?_
       refine wl_v (x_ext (tmT rfl rfl) rfl) ?_
       refine wl_v (x_assign (tmS rfl rfl)) ?_
       refine wl_v (x_assign (tmI rfl rfl)) ?_
       refine wl_nil ?_
       refine then_n (hK7 _ _ ?_); clear hK7 K7
       refine wp_seq_k ?_; intro K8 hK8
       refine wlit ?_
       refine wl_v (x_move (tmS rfl rfl)) ?_
       refine wl_v (x_bstr Tryd.underlying22 Tryd.underlying5 Tryd.underlying9 (tmS rfl rfl) (viewV hS.ok 1 rfl) hpb hn4.symm) ?_
       refine wl_v (x_move (tmS rfl rfl)) ?_
       refine wl_v (x_bstr Tryd.underlying22 Tryd.underlying5 Tryd.underlying9 (tmS rfl rfl) (viewV hS.ok 0 rfl) hpb hn5.symm) ?_
       refine wl_v (x_Geql (tmG rfl rfl) (tmG rfl rfl) hpb hpb) ?_
       refine wl_v (x_move (tmB rfl rfl)) ?_
       refine gs_wl (tm (t := 43) rfl) (fun hg5_5 => ?_) (fun hg5_5 => ?_)
       · have hg5_5' := hg5_5; (try simp only [nrm] at hg5_5'); try (exfalso; first | with_reducible exact absurd hg5_5 Bool.false_ne_true | with_reducible exact absurd hg5_5.symm Bool.false_ne_true | omega | (simp at hg5_5; done))
         all_goals
          refine wl_gv (want_y rfl rfl rfl rfl (by rw [hg5_5]; rfl)) (x_move (tmI rfl rfl)) ?_
          refine wl_gv (want_y rfl rfl rfl rfl (by rw [hg5_5]; rfl)) (x_move (tmI rfl rfl)) ?_
          refine wl_gv (want_y rfl rfl rfl rfl (by rw [hg5_5]; rfl)) (x_eql (tmI rfl rfl) (tmI rfl rfl)) ?_
          refine wl_v (x_pickT (tmB rfl rfl) hg5_5 (tmB rfl rfl)) ?_
          refine wl_v (x_move (tmB rfl rfl)) ?_
          refine gs_wl (tm (t := 48) rfl) (fun hg5_10 => ?_) (fun hg5_10 => ?_)
          · have hg5_10' := hg5_10; (try simp only [nrm] at hg5_10'); try (exfalso; first | with_reducible exact absurd hg5_10 Bool.false_ne_true | with_reducible exact absurd hg5_10.symm Bool.false_ne_true | omega | (simp at hg5_10; done))
            all_goals
             refine wl_g (want_y rfl rfl rfl rfl (by rw [hg5_10]; rfl)) ?_; intro K hK
             refine ow_call Tryd.func6 rfl rfl (evs_nil) (law28_awake_c _ (viewV hS.ok 6 rfl)) ?_
             rintro e w ⟨rfl, hk⟩
             refine ⟨_, rfl, ?_⟩
             replace hS := hS.kept hk
             clear hk
             refine hK _ _ ?_; clear hK K
             refine wl_v (x_pickT (tmB rfl rfl) hg5_10 (tmB rfl rfl)) ?_
             refine wl_v (x_assign (tmB rfl rfl)) ?_
             refine wl_nil ?_
             refine then_n (hK8 _ _ ?_); clear hK8 K8
             refine wp_ret ?_
             refine ret1 rfl (.tmp rfl (show _ = Value.bool _ from rfl)) ?_
             exact ⟨by simp, hS.kp.below⟩
          have hg5_10' := hg5_10; (try simp only [nrm] at hg5_10'); try (exfalso; first | with_reducible exact absurd hg5_10 Bool.false_ne_true | with_reducible exact absurd hg5_10.symm Bool.false_ne_true | omega | (simp at hg5_10; done))
          all_goals
           refine wl_s rfl (want_n rfl rfl rfl rfl (by rw [hg5_10]; rfl)) ?_
           refine wl_v (x_pickF (tmB rfl rfl) hg5_10 ev_c) ?_
           refine wl_v (x_assign (tmB rfl rfl)) ?_
           refine wl_nil ?_
           refine then_n (hK8 _ _ ?_); clear hK8 K8
           refine wp_ret ?_
           refine ret1 rfl (.tmp rfl (show _ = Value.bool _ from rfl)) ?_
           exact ⟨by simp, hS.kp.below⟩
       have hg5_5' := hg5_5; (try simp only [nrm] at hg5_5'); try (exfalso; first | with_reducible exact absurd hg5_5 Bool.false_ne_true | with_reducible exact absurd hg5_5.symm Bool.false_ne_true | omega | (simp at hg5_5; done))
       all_goals
        refine wl_s rfl (want_n rfl rfl rfl rfl (by rw [hg5_5]; rfl)) ?_
        refine wl_s rfl (want_n rfl rfl rfl rfl (by rw [hg5_5]; rfl)) ?_
        refine wl_s rfl (want_n rfl rfl rfl rfl (by rw [hg5_5]; rfl)) ?_
        refine wl_v (x_pickF (tmB rfl rfl) hg5_5 ev_c) ?_
        refine wl_v (x_move (tmB rfl rfl)) ?_
        refine wl_s rfl (want_n rfl rfl rfl rfl rfl) ?_
        refine wl_v (x_pickF (tmB rfl rfl) rfl ev_c) ?_
        refine wl_v (x_assign (tmB rfl rfl)) ?_
        refine wl_nil ?_
        refine then_n (hK8 _ _ ?_); clear hK8 K8
        refine wp_ret ?_
        refine ret1 rfl (.tmp rfl (show _ = Value.bool _ from rfl)) ?_
        exact ⟨by simp, hS.kp.below⟩
  · skip
    refine ent (n := 51) Tryd.func5 rfl rfl ?_
    refine wp_seq_k ?_; intro K1 hK1
    refine wlit ?_
    refine wl_e rfl ?_; intro K hK
    refine ow_box hS (tmA rfl rfl) rfl ?_
    clear hS; intro g0_0 w hg0_0 hS
    refine hK _ _ ?_; clear hK K
    refine wl_v (x_assign ev_c) ?_
    refine wl_nil ?_
    refine then_n (hK1 _ _ ?_); clear hK1 K1
    refine wp_seq_k ?_; intro K2 hK2
    refine wp_seq_k ?_; intro K3 hK3
    refine wlit ?_
    refine wl_v (x_move (tmS rfl rfl)) ?_
    refine wl_v (x_len Tryd.underlying22 (tmS rfl rfl)) ?_
    refine wl_v (x_gtr (tmI rfl rfl) (ev_cN 3000)) ?_
    refine wl_v (x_move (tmB rfl rfl)) ?_
    refine gs_wl (tm (t := 12) rfl) (fun hg1_3 => ?_) (fun hg1_3 => ?_)
    · have hg1_3' := hg1_3; (try simp only [nrm] at hg1_3'); try (exfalso; first | with_reducible exact absurd hg1_3 Bool.false_ne_true | with_reducible exact absurd hg1_3.symm Bool.false_ne_true | omega | (simp at hg1_3; done))
      all_goals
       refine wl_s rfl (want_n rfl rfl rfl rfl (by rw [hg1_3]; rfl)) ?_
       refine wl_s rfl (want_n rfl rfl rfl rfl (by rw [hg1_3]; rfl)) ?_
       refine wl_s rfl (want_n rfl rfl rfl rfl (by rw [hg1_3]; rfl)) ?_
       refine wl_s rfl (want_n rfl rfl rfl rfl (by rw [hg1_3]; rfl)) ?_
       refine wl_v (x_pickT (tmB rfl rfl) hg1_3 ev_c) ?_
       refine wl_v (x_move (tmB rfl rfl)) ?_
       refine wl_s rfl (want_n rfl rfl rfl rfl rfl) ?_
       refine wl_s rfl (want_n rfl rfl rfl rfl rfl) ?_
       refine wl_s rfl (want_n rfl rfl rfl rfl rfl) ?_
       refine wl_s rfl (want_n rfl rfl rfl rfl rfl) ?_
       refine wl_v (x_pickT (tmB rfl rfl) rfl ev_c) ?_
       refine wl_nil ?_
       refine then_n (hK3 _ _ ?_); clear hK3 K3
       refine cnd_t (tmB rfl rfl) rfl ?_
       refine wp_seq_k ?_; intro K4 hK4
       refine wlit ?_
       refine wl_e rfl ?_; intro K hK
       refine ow_call Tryd.func6 rfl rfl (evs_nil) (law28_awake_c _ (viewV hS.ok 4 rfl)) ?_
       rintro e w ⟨rfl, hk⟩
       refine ⟨_, rfl, ?_⟩
       replace hS := hS.kept hk
       clear hk
       refine hK _ _ ?_; clear hK K
       refine wl_v (x_assign (tmB rfl rfl)) ?_
       refine wl_nil ?_
       refine then_n (hK4 _ _ ?_); clear hK4 K4
       refine wp_ret ?_
       refine then_r ?_
       refine ret1 rfl (.tmp rfl (show _ = Value.bool _ from rfl)) ?_
       exact ⟨rfl, hS.kp.below⟩
    have hg1_3' := hg1_3; (try simp only [nrm] at hg1_3'); try (exfalso; first | with_reducible exact absurd hg1_3 Bool.false_ne_true | with_reducible exact absurd hg1_3.symm Bool.false_ne_true | omega | (simp at hg1_3; done))
    all_goals
     refine wl_gv (want_y rfl rfl rfl rfl (by rw [hg1_3]; rfl)) (x_fa 8 Tryd.underlying42 rfl rfl ts_22 (tmP rfl rfl)) ?_
     first
      | refine wl_gv (want_y rfl rfl rfl rfl (by rw [hg1_3]; rfl)) (x_load Tryd.underlying22 rfl (tmP rfl rfl) (cellB hS.ok 0 rfl rfl)) ?_
      | refine wl_gv (want_y rfl rfl rfl rfl (by rw [hg1_3]; rfl)) (x_load Tryd.underlying22 rfl (tmP rfl rfl) (cellB hS.ok 0 rfl (getm (by omega)))) ?_
     refine wl_gv (want_y rfl rfl rfl rfl (by rw [hg1_3]; rfl)) (x_len Tryd.underlying22 (tmS rfl rfl)) ?_
     refine wl_gv (want_y rfl rfl rfl rfl (by rw [hg1_3]; rfl)) (x_gtr (tmI rfl rfl) (ev_cN 100)) ?_
     refine wl_v (x_pickF (tmB rfl rfl) hg1_3 (tmB rfl rfl)) ?_
     refine wl_v (x_move (tmB rfl rfl)) ?_
     refine gs_wl (tm (t := 18) rfl) (fun hg1_9 => ?_) (fun hg1_9 => ?_)
     · have hg1_9' := hg1_9; (try simp only [nrm] at hg1_9'); try (exfalso; first | with_reducible exact absurd hg1_9 Bool.false_ne_true | with_reducible exact absurd hg1_9.symm Bool.false_ne_true | omega | (simp at hg1_9; done))
       all_goals
        refine wl_s rfl (want_n rfl rfl rfl rfl (by rw [hg1_9]; rfl)) ?_
        refine wl_s rfl (want_n rfl rfl rfl rfl (by rw [hg1_9]; rfl)) ?_
        refine wl_s rfl (want_n rfl rfl rfl rfl (by rw [hg1_9]; rfl)) ?_
        refine wl_s rfl (want_n rfl rfl rfl rfl (by rw [hg1_9]; rfl)) ?_
        refine wl_v (x_pickT (tmB rfl rfl) hg1_9 ev_c) ?_
        refine wl_nil ?_
        refine then_n (hK3 _ _ ?_); clear hK3 K3
        refine cnd_t (tmB rfl rfl) rfl ?_
        refine wp_seq_k ?_; intro K5 hK5
        refine wlit ?_
        refine wl_e rfl ?_; intro K hK
        refine ow_call Tryd.func6 rfl rfl (evs_nil) (law28_awake_c _ (viewV hS.ok 4 rfl)) ?_
        rintro e w ⟨rfl, hk⟩
        refine ⟨_, rfl, ?_⟩
        replace hS := hS.kept hk
        clear hk
        refine hK _ _ ?_; clear hK K
        refine wl_v (x_assign (tmB rfl rfl)) ?_
        refine wl_nil ?_
        refine then_n (hK5 _ _ ?_); clear hK5 K5
        refine wp_ret ?_
        refine then_r ?_
        refine ret1 rfl (.tmp rfl (show _ = Value.bool _ from rfl)) ?_
        exact ⟨rfl, hS.kp.below⟩
     have hg1_9' := hg1_9; (try simp only [nrm] at hg1_9'); try (exfalso; first | with_reducible exact absurd hg1_9 Bool.false_ne_true | with_reducible exact absurd hg1_9.symm Bool.false_ne_true | omega | (simp at hg1_9; done))
     all_goals
      refine wl_gv (want_y rfl rfl rfl rfl (by rw [hg1_9]; rfl)) (x_fa 9 Tryd.underlying42 rfl rfl ts_22 (tmP rfl rfl)) ?_
      first
       | refine wl_gv (want_y rfl rfl rfl rfl (by rw [hg1_9]; rfl)) (x_load Tryd.underlying22 rfl (tmP rfl rfl) (cellB hS.ok 0 rfl rfl)) ?_
       | refine wl_gv (want_y rfl rfl rfl rfl (by rw [hg1_9]; rfl)) (x_load Tryd.underlying22 rfl (tmP rfl rfl) (cellB hS.ok 0 rfl (getm (by omega)))) ?_
      refine wl_gv (want_y rfl rfl rfl rfl (by rw [hg1_9]; rfl)) (x_len Tryd.underlying22 (tmS rfl rfl)) ?_
      refine wl_gv (want_y rfl rfl rfl rfl (by rw [hg1_9]; rfl)) (x_gtr (tmI rfl rfl) (ev_cN 2000)) ?_
      refine wl_v (x_pickF (tmB rfl rfl) hg1_9 (tmB rfl rfl)) ?_
      refine wl_nil ?_
      refine then_n (hK3 _ _ ?_); clear hK3 K3
      refine cnds (tm rfl) (fun hc0 => ?_) (fun hc0 => ?_)
      · exfalso
        simp at hc0
        omega
      try (exfalso; first | with_reducible exact absurd hc0 Bool.false_ne_true | with_reducible exact absurd hc0.symm Bool.false_ne_true | (simp only [nrm] at hc0; omega) | (simp at hc0; done))
      all_goals
       try simp only [nrm] at hc0
       refine wp_seq_k ?_; intro K6 hK6
       refine wlit ?_
       refine wl_e rfl ?_; intro K hK
       refine ow_call Tryd.func6 rfl rfl (evs_nil) (law28_awake_c _ (viewV hS.ok 4 rfl)) ?_
       rintro e w ⟨rfl, hk⟩
       refine ⟨_, rfl, ?_⟩
       replace hS := hS.kept hk
       clear hk
       refine hK _ _ ?_; clear hK K
       refine wl_v (x_assign (tmB rfl rfl)) ?_
       refine wl_nil ?_
       refine then_n (hK6 _ _ ?_); clear hK6 K6
       refine wp_ret ?_
       refine then_r ?_
       refine ret1 rfl (.tmp rfl (show _ = Value.bool _ from rfl)) ?_
       exact ⟨rfl, hS.kp.below⟩
def laidL : List (Nat × Array Value) := [(0, nmV.toArray)]
theorem laidf {W : World} (h : laidMetH Tryd.prog Rows.packetCarriesRow.laid W) : Names W :=
  strs_of_head (P := Tryd.prog) (name := "counterfoil/packet.names") (ss := nmB) (rest := []) (g := 0) (by kernel_rfl) (by kernel_rfl) Tryd.underlying77 Tryd.underlying9 (by kernel_rfl) (by kernel_rfl) h (by decide)
set_option maxRecDepth 100000 in
theorem walk (A : Option Addr) (n c : Nat) (l : List Nat) (v : Value) (w0 : World) (r1 : l.length = n ∧ (A = none → c = 0) ∧ BView w0 w0.heap.size A l ∧ n ≤ c) {H : Type} {enc : TypeId × Value → H} {r : Reach} {b0 : Nat} {d : DataW H} {ps : List MemPlace} (hval : Value.okWide Tryd.prog w0 r b0 42 v) (hd : DataW.Trod enc Tryd.prog w0 0 (fun _ => true) true 42 v d ps) (hlt : ∀ p ∈ ps, p.block < w0.heap.size) (hN : Names w0) :
    Calls Tryd.prog 5 #[.slice A n c, v] w0 fun e w' => e = .returned (.bool true) ∧ Below w0.heap.size w0 w' := by
  obtain ⟨rfl, _, ⟨hb, hv⟩, hc⟩ := r1
  obtain ⟨s, rfl, hs⟩ := RSeg.open_a hval hd hlt
  obtain ⟨a1, a2, a3, a4, a5, a6, a7, a8, ⟨O, o, co⟩, ⟨L, x, d⟩⟩ := s
  obtain ⟨q1, q2, q3, q4, q5, q6, q7, q8, ⟨_, _, hob, hov⟩, ⟨_, _, hxb, hxv⟩⟩ := hs
  exact walkC A c l a1 a2 a3 a4 a5 a6 a7 a8 O co L d o x w0 hv hc hb q1 q2 q3 q4 q5 q6 q7 q8 hob hov hxb hxv hN
end PacketCarries
end Go.Proofs.YtmekadkmmddocaaDoor
