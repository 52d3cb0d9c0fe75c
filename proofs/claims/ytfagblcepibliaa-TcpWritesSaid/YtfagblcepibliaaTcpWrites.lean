
/- Proved: TcpWrites returns true for every segment, and changes no memory that was there. Conditions: none. -/
import Derived.Test.YtfagblcepibliaaTcpW
import Derived.Test.YtfagblcepibliaaO
namespace Go.Proofs.Ytfagblcepibliaa
open Go.ChangeShapes Go.WideShapes Go.ChangeAt Go.RowKit
structure RSeg where
  srcPort : Nat
  dstPort : Nat
  seq : Nat
  ack : Nat
  flags : Nat
  window : Nat
  sum : Nat
  urgent : Nat
  options : Sl Nat
  load : Sl Nat
def RSeg.V (s : RSeg) : List Value := [.int .u16 (s.srcPort : Int), .int .u16 (s.dstPort : Int), .int .u32 (s.seq : Int), .int .u32 (s.ack : Int), .int .u8 (s.flags : Int), .int .u16 (s.window : Int), .int .u16 (s.sum : Int), .int .u16 (s.urgent : Int), .slice s.options.a s.options.l.length s.options.c, .slice s.load.a s.load.l.length s.load.c]
theorem RSeg.len (s : RSeg) : s.V.length = 10 := rfl
def RSeg.ok (w : World) (s : RSeg) : Prop := s.srcPort < 65536 ∧ s.dstPort < 65536 ∧ s.seq < 4294967296 ∧ s.ack < 4294967296 ∧ s.flags < 256 ∧ s.window < 65536 ∧ s.sum < 65536 ∧ s.urgent < 65536 ∧ okB w s.options ∧ okB w s.load
instance : Inhabited RSeg := ⟨⟨0, 0, 0, 0, 0, 0, 0, 0, default, default⟩⟩
set_option maxRecDepth 100000 in
theorem RSeg.open_t {H : Type} {enc : TypeId × Value → H} {w : World} {fuel : Nat} {cs : List Value} {x : DataW H × List MemPlace} (hf : DataW.trod enc Try.prog w 0 (fun _ => true) true fuel 66 cs = some x) (hlt : ∀ p ∈ x.2, p.block < w.heap.size) : ∃ s : RSeg, cs = s.V ∧ s.ok w := by
  have hC : Try.prog.cellsOf 66 = 10 := by kernel_rfl
  have hl := (DataW.trod_struct Try.underlying66 hf).choose_spec.choose_spec.2.2.1
  rw [hC] at hl
  obtain ⟨y0, k0, t0, b0⟩ := field_t Try.underlying66 hf hlt 0 _ rfl
  have hC0 : Try.prog.cellsOf 24 = 1 := by kernel_rfl
  obtain ⟨s0, e0, o0⟩ := t_u16 Try.underlying24 t0 b0
  have d0 := split_drop cs 0 1 (hC0 ▸ e0)
  obtain ⟨y1, k1, t1, b1⟩ := field_t Try.underlying66 hf hlt 1 _ rfl
  have hC1 : Try.prog.cellsOf 24 = 1 := by kernel_rfl
  obtain ⟨s1, e1, o1⟩ := t_u16 Try.underlying24 t1 b1
  have d1 := split_drop cs 1 1 (hC1 ▸ e1)
  obtain ⟨y2, k2, t2, b2⟩ := field_t Try.underlying66 hf hlt 2 _ rfl
  have hC2 : Try.prog.cellsOf 50 = 1 := by kernel_rfl
  obtain ⟨s2, e2, o2⟩ := t_u32 Try.underlying50 t2 b2
  have d2 := split_drop cs 2 1 (hC2 ▸ e2)
  obtain ⟨y3, k3, t3, b3⟩ := field_t Try.underlying66 hf hlt 3 _ rfl
  have hC3 : Try.prog.cellsOf 50 = 1 := by kernel_rfl
  obtain ⟨s3, e3, o3⟩ := t_u32 Try.underlying50 t3 b3
  have d3 := split_drop cs 3 1 (hC3 ▸ e3)
  obtain ⟨y4, k4, t4, b4⟩ := field_t Try.underlying66 hf hlt 4 _ rfl
  have hC4 : Try.prog.cellsOf 5 = 1 := by kernel_rfl
  obtain ⟨s4, e4, o4⟩ := t_u8 Try.underlying5 t4 b4
  have d4 := split_drop cs 4 1 (hC4 ▸ e4)
  obtain ⟨y5, k5, t5, b5⟩ := field_t Try.underlying66 hf hlt 5 _ rfl
  have hC5 : Try.prog.cellsOf 24 = 1 := by kernel_rfl
  obtain ⟨s5, e5, o5⟩ := t_u16 Try.underlying24 t5 b5
  have d5 := split_drop cs 5 1 (hC5 ▸ e5)
  obtain ⟨y6, k6, t6, b6⟩ := field_t Try.underlying66 hf hlt 6 _ rfl
  have hC6 : Try.prog.cellsOf 24 = 1 := by kernel_rfl
  obtain ⟨s6, e6, o6⟩ := t_u16 Try.underlying24 t6 b6
  have d6 := split_drop cs 6 1 (hC6 ▸ e6)
  obtain ⟨y7, k7, t7, b7⟩ := field_t Try.underlying66 hf hlt 7 _ rfl
  have hC7 : Try.prog.cellsOf 24 = 1 := by kernel_rfl
  obtain ⟨s7, e7, o7⟩ := t_u16 Try.underlying24 t7 b7
  have d7 := split_drop cs 7 1 (hC7 ▸ e7)
  obtain ⟨y8, k8, t8, b8⟩ := field_t Try.underlying66 hf hlt 8 _ rfl
  have hC8 : Try.prog.cellsOf 22 = 1 := by kernel_rfl
  obtain ⟨s8, e8, o8⟩ := t_bytes Try.underlying22 Try.underlying5 (by kernel_rfl) t8 b8
  have d8 := split_drop cs 8 1 (hC8 ▸ e8)
  obtain ⟨y9, k9, t9, b9⟩ := field_t Try.underlying66 hf hlt 9 _ rfl
  have hC9 : Try.prog.cellsOf 22 = 1 := by kernel_rfl
  obtain ⟨s9, e9, o9⟩ := t_bytes Try.underlying22 Try.underlying5 (by kernel_rfl) t9 b9
  have d9 := split_drop cs 9 1 (hC9 ▸ e9)
  refine ⟨⟨s0, s1, s2, s3, s4, s5, s6, s7, s8, s9⟩, ?_, ⟨o0, o1, o2, o3, o4, o5, o6, o7, o8, o9⟩⟩
  have dn : cs.drop 10 = [] := List.drop_eq_nil_of_le (by omega)
  rw [← List.drop_zero (l := cs)]
  refine d0.trans ?_
  rw [show cs.drop (0 + 1) = _ from d1]
  rw [show cs.drop (1 + 1) = _ from d2]
  rw [show cs.drop (2 + 1) = _ from d3]
  rw [show cs.drop (3 + 1) = _ from d4]
  rw [show cs.drop (4 + 1) = _ from d5]
  rw [show cs.drop (5 + 1) = _ from d6]
  rw [show cs.drop (6 + 1) = _ from d7]
  rw [show cs.drop (7 + 1) = _ from d8]
  rw [show cs.drop (8 + 1) = _ from d9]
  rw [show cs.drop (9 + 1) = [] from dn]
  rfl
set_option maxRecDepth 100000 in
theorem RSeg.open_a {H : Type} {enc : TypeId × Value → H} {w : World} {r : Reach} {b0 : Nat} {v : Value} {d : DataW H} {ps : List MemPlace} (hval : Value.okWide Try.prog w r b0 66 v) (hd : DataW.Trod enc Try.prog w 0 (fun _ => true) true 66 v d ps) (hlt : ∀ p ∈ ps, p.block < w.heap.size) : ∃ s : RSeg, v = .agg s.V.toArray ∧ s.ok w := by
  obtain ⟨cs, rfl, _⟩ := okWide_struct Try.underlying66 hval
  obtain ⟨fuel, hf⟩ := hd
  obtain ⟨s, e, h⟩ := RSeg.open_t hf hlt
  exact ⟨s, by rw [← e]; simp [Value.cells], h⟩
set_option maxRecDepth 100000 in
set_option maxHeartbeats 4000000 in
theorem light06_c (a1 a2 a3 a4 a5 a6 a7 a8 : Nat) (O : Option Addr) (m c : Nat) (L : Option Addr) (k d : Nat) (w0 : World) :
    Calls Try.prog 47 #[.agg (segV a1 a2 a3 a4 a5 a6 a7 a8 O m c L k d).toArray] w0 fun e w' => e = .returned (.bool (decide (m ≤ 200 ∧ k ≤ 2000))) ∧ Kp [] w0 w' := by
  have hS := St.sv w0
  refine ent (n := 13) Try.func47 rfl rfl ?_
  refine wp_seq_k ?_; intro K1 hK1
  refine wlit ?_
  refine wl_e rfl ?_; intro K hK
  refine ow_box hS (tmA rfl rfl) rfl ?_
  clear hS; intro g0_0 w hg0_0 hS
  refine hK _ _ ?_; clear hK K
  refine wl_v (x_assign ev_c) ?_
  refine wl_nil ?_
  refine then_n (hK1 _ _ ?_); clear hK1 K1
  refine wp_seq_k ?_; intro K2 hK2
  refine wlit ?_
  refine wl_v (x_fa 8 Try.underlying66 rfl rfl ts_22 (tmP rfl rfl)) ?_
  first
   | refine wl_v (x_load Try.underlying22 rfl (tmP rfl rfl) (cellB hS.ok 0 rfl rfl)) ?_
   | refine wl_v (x_load Try.underlying22 rfl (tmP rfl rfl) (cellB hS.ok 0 rfl (getm (by omega)))) ?_
  refine wl_v (x_len Try.underlying22 (tmS rfl rfl)) ?_
  refine wl_v (x_leq (tmI rfl rfl) (ev_cN 200)) ?_
  refine wl_v (x_move (tmB rfl rfl)) ?_
  refine gs_wl (tm (t := 7) rfl) (fun hg1_4 => ?_) (fun hg1_4 => ?_)
  · have hg1_4' := hg1_4; (try simp only [nrm] at hg1_4'); try (exfalso; first | with_reducible exact absurd hg1_4 Bool.false_ne_true | with_reducible exact absurd hg1_4.symm Bool.false_ne_true | omega | (simp at hg1_4; done))
    all_goals
     refine wl_gv (want_y rfl rfl rfl rfl (by rw [hg1_4]; rfl)) (x_fa 9 Try.underlying66 rfl rfl ts_22 (tmP rfl rfl)) ?_
     first
      | refine wl_gv (want_y rfl rfl rfl rfl (by rw [hg1_4]; rfl)) (x_load Try.underlying22 rfl (tmP rfl rfl) (cellB hS.ok 0 rfl rfl)) ?_
      | refine wl_gv (want_y rfl rfl rfl rfl (by rw [hg1_4]; rfl)) (x_load Try.underlying22 rfl (tmP rfl rfl) (cellB hS.ok 0 rfl (getm (by omega)))) ?_
     refine wl_gv (want_y rfl rfl rfl rfl (by rw [hg1_4]; rfl)) (x_len Try.underlying22 (tmS rfl rfl)) ?_
     refine wl_gv (want_y rfl rfl rfl rfl (by rw [hg1_4]; rfl)) (x_leq (tmI rfl rfl) (ev_cN 2000)) ?_
     refine wl_v (x_pickT (tmB rfl rfl) hg1_4 (tmB rfl rfl)) ?_
     refine wl_v (x_assign (tmB rfl rfl)) ?_
     refine wl_nil ?_
     refine then_n (hK2 _ _ ?_); clear hK2 K2
     refine wp_ret ?_
     refine ret1 rfl (.tmp rfl (show _ = Value.bool _ from rfl)) ?_
     refine ⟨?_, hS.kp⟩
     congr 2
     first
       | (symm; apply decide_eq_false; omega)
       | (apply decide_eq_decide.2; omega)
  have hg1_4' := hg1_4; (try simp only [nrm] at hg1_4'); try (exfalso; first | with_reducible exact absurd hg1_4 Bool.false_ne_true | with_reducible exact absurd hg1_4.symm Bool.false_ne_true | omega | (simp at hg1_4; done))
  all_goals
   refine wl_s rfl (want_n rfl rfl rfl rfl (by rw [hg1_4]; rfl)) ?_
   refine wl_s rfl (want_n rfl rfl rfl rfl (by rw [hg1_4]; rfl)) ?_
   refine wl_s rfl (want_n rfl rfl rfl rfl (by rw [hg1_4]; rfl)) ?_
   refine wl_s rfl (want_n rfl rfl rfl rfl (by rw [hg1_4]; rfl)) ?_
   refine wl_v (x_pickF (tmB rfl rfl) hg1_4 ev_c) ?_
   refine wl_v (x_assign (tmB rfl rfl)) ?_
   refine wl_nil ?_
   refine then_n (hK2 _ _ ?_); clear hK2 K2
   refine wp_ret ?_
   refine ret1 rfl (.tmp rfl (show _ = Value.bool _ from rfl)) ?_
   refine ⟨?_, hS.kp⟩
   congr 2
   first
     | (symm; apply decide_eq_false; omega)
     | (apply decide_eq_decide.2; omega)

theorem segB_len (a1 a2 a3 a4 a5 a6 a7 a8 : Nat) (o x : List Nat) : (segB a1 a2 a3 a4 a5 a6 a7 a8 o x).length = 20 + o.length + x.length := by simp [segB, be_length]; omega
theorem segB_bytes (a1 a2 a3 a4 a5 a6 a7 a8 : Nat) {o x : List Nat} (ho : Bytes o) (hx : Bytes x) : Bytes (segB a1 a2 a3 a4 a5 a6 a7 a8 o x) := by
  unfold segB
  repeat' (first | assumption | exact Bytes.nil | exact be_bytes _ _ | apply Bytes.append)
theorem segB_read (a1 a2 a3 a4 a5 a6 a7 a8 : Nat) (o x : List Nat) (q1 : a1 < 65536) (q2 : a2 < 65536) (q3 : a3 < 4294967296) (q4 : a4 < 4294967296) (q5 : a5 < 256) (q6 : a6 < 65536) (q7 : a7 < 65536) (q8 : a8 < 65536) (hr : segRight o.length x.length) (l : List Nat) (hl : l = segB a1 a2 a3 a4 a5 a6 a7 a8 o x) :
    nth l 12 / 16 * 4 = 20 + o.length ∧ nth l 12 % 16 = 0 ∧ getN l 0 2 = a1 ∧ getN l 2 2 = a2 ∧ getN l 4 4 = a3 ∧ getN l 8 4 = a4 ∧ getN l 13 1 = a5 ∧ getN l 14 2 = a6 ∧ getN l 16 2 = a7 ∧ getN l 18 2 = a8 ∧ (l.drop 20).take (20 + o.length - 20) = o ∧ l.drop (20 + o.length) = x := by
  have hr1 := hr.1
  have hr2 := hr.2.1
  have hr3 := hr.2.2
  subst hl
  have hn : nth (segB a1 a2 a3 a4 a5 a6 a7 a8 o x) 12 = (20 + o.length) / 4 * 2 ^ 4 % 256 ^ 1 := by
    rw [← getN_one (by rw [segB_len]; omega)]
    exact getN_at (P := [] ++ be a1 2 ++ be a2 2 ++ be a3 4 ++ be a4 4) (Q := be a5 1 ++ be a6 2 ++ be a7 2 ++ be a8 2 ++ o ++ x) (by simp only [segB, List.append_assoc]) (by simp [be_length])
  have b1 := getN_at (l := segB a1 a2 a3 a4 a5 a6 a7 a8 o x) (v := a1) (s := 2) (k := 0) (P := []) (Q := be a2 2 ++ be a3 4 ++ be a4 4 ++ be ((20 + o.length) / 4 * 2 ^ 4) 1 ++ be a5 1 ++ be a6 2 ++ be a7 2 ++ be a8 2 ++ o ++ x) (by simp only [segB, List.append_assoc]) (by simp [be_length])
  have b2 := getN_at (l := segB a1 a2 a3 a4 a5 a6 a7 a8 o x) (v := a2) (s := 2) (k := 2) (P := [] ++ be a1 2) (Q := be a3 4 ++ be a4 4 ++ be ((20 + o.length) / 4 * 2 ^ 4) 1 ++ be a5 1 ++ be a6 2 ++ be a7 2 ++ be a8 2 ++ o ++ x) (by simp only [segB, List.append_assoc]) (by simp [be_length])
  have b3 := getN_at (l := segB a1 a2 a3 a4 a5 a6 a7 a8 o x) (v := a3) (s := 4) (k := 4) (P := [] ++ be a1 2 ++ be a2 2) (Q := be a4 4 ++ be ((20 + o.length) / 4 * 2 ^ 4) 1 ++ be a5 1 ++ be a6 2 ++ be a7 2 ++ be a8 2 ++ o ++ x) (by simp only [segB, List.append_assoc]) (by simp [be_length])
  have b4 := getN_at (l := segB a1 a2 a3 a4 a5 a6 a7 a8 o x) (v := a4) (s := 4) (k := 8) (P := [] ++ be a1 2 ++ be a2 2 ++ be a3 4) (Q := be ((20 + o.length) / 4 * 2 ^ 4) 1 ++ be a5 1 ++ be a6 2 ++ be a7 2 ++ be a8 2 ++ o ++ x) (by simp only [segB, List.append_assoc]) (by simp [be_length])
  have b5 := getN_at (l := segB a1 a2 a3 a4 a5 a6 a7 a8 o x) (v := a5) (s := 1) (k := 13) (P := [] ++ be a1 2 ++ be a2 2 ++ be a3 4 ++ be a4 4 ++ be ((20 + o.length) / 4 * 2 ^ 4) 1) (Q := be a6 2 ++ be a7 2 ++ be a8 2 ++ o ++ x) (by simp only [segB, List.append_assoc]) (by simp [be_length])
  have b6 := getN_at (l := segB a1 a2 a3 a4 a5 a6 a7 a8 o x) (v := a6) (s := 2) (k := 14) (P := [] ++ be a1 2 ++ be a2 2 ++ be a3 4 ++ be a4 4 ++ be ((20 + o.length) / 4 * 2 ^ 4) 1 ++ be a5 1) (Q := be a7 2 ++ be a8 2 ++ o ++ x) (by simp only [segB, List.append_assoc]) (by simp [be_length])
  have b7 := getN_at (l := segB a1 a2 a3 a4 a5 a6 a7 a8 o x) (v := a7) (s := 2) (k := 16) (P := [] ++ be a1 2 ++ be a2 2 ++ be a3 4 ++ be a4 4 ++ be ((20 + o.length) / 4 * 2 ^ 4) 1 ++ be a5 1 ++ be a6 2) (Q := be a8 2 ++ o ++ x) (by simp only [segB, List.append_assoc]) (by simp [be_length])
  have b8 := getN_at (l := segB a1 a2 a3 a4 a5 a6 a7 a8 o x) (v := a8) (s := 2) (k := 18) (P := [] ++ be a1 2 ++ be a2 2 ++ be a3 4 ++ be a4 4 ++ be ((20 + o.length) / 4 * 2 ^ 4) 1 ++ be a5 1 ++ be a6 2 ++ be a7 2) (Q := o ++ x) (by simp only [segB, List.append_assoc]) (by simp [be_length])
  have b9 := part_at (l := segB a1 a2 a3 a4 a5 a6 a7 a8 o x) (k := 20) (m := 20 + o.length - 20) (o := o) (P := [] ++ be a1 2 ++ be a2 2 ++ be a3 4 ++ be a4 4 ++ be ((20 + o.length) / 4 * 2 ^ 4) 1 ++ be a5 1 ++ be a6 2 ++ be a7 2 ++ be a8 2) (Q := x) (by simp only [segB, List.append_assoc]) (by simp [be_length]) (by omega)
  have b0 := tail_at (l := segB a1 a2 a3 a4 a5 a6 a7 a8 o x) (k := 20 + o.length) (o := x) (P := [] ++ be a1 2 ++ be a2 2 ++ be a3 4 ++ be a4 4 ++ be ((20 + o.length) / 4 * 2 ^ 4) 1 ++ be a5 1 ++ be a6 2 ++ be a7 2 ++ be a8 2 ++ o) (by simp only [segB, List.append_assoc]) (by simp [be_length]; omega)
  refine ⟨by omega, by omega, by omega, by omega, by omega, by omega, by omega, by omega, by omega, by omega, b9, b0⟩

namespace TcpWrites
set_option maxRecDepth 100000 in
set_option maxHeartbeats 4000000 in
theorem walkC (a1 a2 a3 a4 a5 a6 a7 a8 : Nat) (O : Option Addr) (c : Nat) (L : Option Addr) (d : Nat) (o x : List Nat) (w0 : World) (q1 : a1 < 65536) (q2 : a2 < 65536) (q3 : a3 < 4294967296) (q4 : a4 < 4294967296) (q5 : a5 < 256) (q6 : a6 < 65536) (q7 : a7 < 65536) (q8 : a8 < 65536)
    (hob : Bytes o) (hov : View w0 w0.heap.size O (o.map u8v)) (hxb : Bytes x) (hxv : View w0 w0.heap.size L (x.map u8v)) :
    Calls Try.prog 8 #[.agg (segV a1 a2 a3 a4 a5 a6 a7 a8 O o.length c L x.length d).toArray] w0 fun e w' => e = .returned (.bool true) ∧ Below w0.heap.size w0 w' := by
  have hS := ((St.sv w0).vcons rfl hov).vcons rfl hxv
  by_cases hli : o.length ≤ 200 ∧ x.length ≤ 2000
  · by_cases hr : segRight o.length x.length
    · have hrd := segB_read a1 a2 a3 a4 a5 a6 a7 a8 o x q1 q2 q3 q4 q5 q6 q7 q8 hr _ rfl
      have hlb := segB_len a1 a2 a3 a4 a5 a6 a7 a8 o x
      have hbb := segB_bytes a1 a2 a3 a4 a5 a6 a7 a8 hob hxb
      have hb1 := fun w (h1 : View w w.heap.size O (o.map u8v)) (h2 : View w w.heap.size L (x.map u8v)) => tcp_bytes_c a1 a2 a3 a4 a5 a6 a7 a8 O c L d o x w h1 h2 q1 q2 q3 q4 q5 q6 q7 q8 hr
      have hb2 := fun w (h1 : View w w.heap.size O (o.map u8v)) (h2 : View w w.heap.size L (x.map u8v)) => rtcp_bytes_c a1 a2 a3 a4 a5 a6 a7 a8 O c L d o x w h1 h2 q1 q2 q3 q4 q5 q6 q7 q8 hr
      generalize segB a1 a2 a3 a4 a5 a6 a7 a8 o x = B at *
      obtain ⟨r1, r2, g1, g2, g3, g4, g5, g6, g7, g8, g9, g0⟩ := hrd
      refine ent (n := 53) Try.func8 rfl rfl ?_
      refine wp_seq_k ?_; intro K1 hK1
      refine wlit ?_
      refine wl_e rfl ?_; intro K hK
      refine ow_box hS (tmA rfl rfl) rfl ?_
      clear hS; intro g0_0 w hg0_0 hS
      refine hK _ _ ?_; clear hK K
      refine wl_v (x_assign ev_c) ?_
      refine wl_nil ?_
      refine then_n (hK1 _ _ ?_); clear hK1 K1
      refine wp_seq_k ?_; intro K2 hK2
      refine wp_seq_k ?_; intro K3 hK3
      refine wlit ?_
      refine wl_v (x_loadA (cs := [_, _, _, _, _, _, _, _, _, _]) Try.underlying66 rfl ts_66 (tmP rfl rfl) (rangeB hS.ok 0 rfl rfl)) ?_
      refine wl_e rfl ?_; intro K hK
      refine ow_call Try.func47 rfl rfl (evs_cons (tmA rfl rfl) <| evs_nil) (light06_c _ _ _ _ _ _ _ _ _ _ _ _ _ _ _) ?_
      rintro e w ⟨rfl, hk⟩
      refine ⟨_, rfl, ?_⟩
      replace hS := hS.kept hk
      clear hk
      refine hK _ _ ?_; clear hK K
      refine wl_v (x_not (tmB rfl rfl)) ?_
      refine wl_nil ?_
      refine then_n (hK3 _ _ ?_); clear hK3 K3
      refine cnd (tm rfl) (fun hc0 => ?_) (fun hc0 => ?_)
      · exfalso
        simp at hc0
        omega
      try (exfalso; first | with_reducible exact absurd hc0 Bool.false_ne_true | with_reducible exact absurd hc0.symm Bool.false_ne_true | (simp only [nrm] at hc0; omega) | (simp at hc0; done))
      all_goals
       try simp only [nrm] at hc0
       refine wp_skip ?_
       refine then_n (hK2 _ _ ?_); clear hK2 K2
       refine wp_seq_k ?_; intro K4 hK4
       refine wlit ?_
       refine wl_v (x_loadA (cs := [_, _, _, _, _, _, _, _, _, _]) Try.underlying66 rfl ts_66 (tmP rfl rfl) (rangeB hS.ok 0 rfl rfl)) ?_
       refine wl_e rfl ?_; intro K hK
       refine ow_call Try.func48 rfl rfl (evs_cons (tmA rfl rfl) <| evs_nil) (to06_c _ _ _ _ _ _ _ _ _ _ _ _ _ _ _) ?_
       rintro e w ⟨rfl, hk⟩
       refine ⟨_, rfl, ?_⟩
       replace hS := hS.kept hk
       clear hk
       refine hK _ _ ?_; clear hK K
       refine wl_e rfl ?_; intro K hK
       refine ow_alloc hS tz_63 rfl ?_
       clear hS; intro g3_2 w hg3_2 hS
       refine hK _ _ ?_; clear hK K
       refine wl_e rfl ?_; intro K hK
       refine ow_storeA hS 0 rfl ts_63 (tmP rfl rfl) (tmA rfl rfl) rfl rfl rfl ?_
       clear hS; intro w hS
       refine hK _ _ ?_; clear hK K
       refine wl_nil ?_
       refine then_n (hK4 _ _ ?_); clear hK4 K4
       refine wp_seq_k ?_; intro K5 hK5
       refine wp_seq_k ?_; intro K6 hK6
       refine rg_startk 0 hS mixed_ ?_
       clear hS; intro w hS
       refine rg_take 0 rfl rfl (by kernel_rfl) (by kernel_rfl) (by kernel_rfl) (want_0) (fun w hok => x_loadA (cs := [_, _, _, _, _, _, _, _, _, _]) Try.underlying63 rfl ts_63 (tmP rfl rfl) (rangeB hok 0 rfl rfl)) ?_
       refine rg_take 2 rfl rfl (by kernel_rfl) (by kernel_rfl) (by kernel_rfl) (want_0) (fun w hok => x_loadA (cs := [_, _, _, _, _, _, _, _, _, _]) Try.underlying66 rfl ts_66 (tmP rfl rfl) (rangeB hok 1 rfl rfl)) ?_
       refine rg_step 1 rfl (by kernel_rfl) (want_0) (oks_drop hS 0 rfl) ?_; intro K hK
       refine ow_call Try.func49 rfl rfl (evs_cons (tmA rfl rfl) <| evs_nil) (tcp_right_c _ _ _ _ _ _ _ _ _ _ _ _ _ _ _ (by omega) (by omega)) ?_
       rintro e w ⟨rfl, hk⟩
       refine ⟨_, rfl, ?_⟩
       replace hS := hS.kept hk
       clear hk
       refine hK _ _ ?_; clear hK K
       refine rg_step 3 rfl (by kernel_rfl) (want_0) (oks_drop hS 0 rfl) ?_; intro K hK
       refine ow_call Try.func50 rfl rfl (evs_cons (tmA rfl rfl) <| evs_nil) (rtcp_right_c _ _ _ _ _ _ _ _ _ _ _ _ _ _ _ (by omega) (by omega)) ?_
       rintro e w ⟨rfl, hk⟩
       refine ⟨_, rfl, ?_⟩
       replace hS := hS.kept hk
       clear hk
       refine hK _ _ ?_; clear hK K
       refine rg_take 4 rfl rfl (by kernel_rfl) (by kernel_rfl) (by kernel_rfl) (want_0) (fun w hok => x_bneq Try.underlying4 (tmB rfl rfl) (tmB rfl rfl)) ?_
       refine rg_done (oks_drop hS 0 rfl) (by kernel_rfl) ?_
       refine then_n (hK6 _ _ ?_); clear hK6 K6
       refine cnd (tm rfl) (fun hc1 => ?_) (fun hc1 => ?_)
       · exfalso
         simp at hc1
       try (exfalso; first | with_reducible exact absurd hc1 Bool.false_ne_true | with_reducible exact absurd hc1.symm Bool.false_ne_true | (simp only [nrm] at hc1; omega) | (simp at hc1; done))
       all_goals
        try simp only [nrm] at hc1
        refine wp_skip ?_
        refine then_n (hK5 _ _ ?_); clear hK5 K5
        refine wp_seq_k ?_; intro K7 hK7
        refine wp_seq_k ?_; intro K8 hK8
        refine wlit ?_
        refine wl_v (x_loadA (cs := [_, _, _, _, _, _, _, _, _, _]) Try.underlying66 rfl ts_66 (tmP rfl rfl) (rangeB hS.ok 1 rfl rfl)) ?_
        refine wl_e rfl ?_; intro K hK
        refine ow_call Try.func50 rfl rfl (evs_cons (tmA rfl rfl) <| evs_nil) (rtcp_right_c _ _ _ _ _ _ _ _ _ _ _ _ _ _ _ (by omega) (by omega)) ?_
        rintro e w ⟨rfl, hk⟩
        refine ⟨_, rfl, ?_⟩
        replace hS := hS.kept hk
        clear hk
        refine hK _ _ ?_; clear hK K
        refine wl_v (x_not (tmB rfl rfl)) ?_
        refine wl_nil ?_
        refine then_n (hK8 _ _ ?_); clear hK8 K8
        refine cnd (tm rfl) (fun hc2 => ?_) (fun hc2 => ?_)
        · exfalso
          simp at hc2
          exact hc2 hr
        try (exfalso; first | with_reducible exact absurd hc2 Bool.false_ne_true | with_reducible exact absurd hc2.symm Bool.false_ne_true | (simp only [nrm] at hc2; omega) | (simp at hc2; done))
        all_goals
         try simp only [nrm] at hc2
         refine wp_skip ?_
         refine then_n (hK7 _ _ ?_); clear hK7 K7
         refine wp_seq_k ?_; intro K9 hK9
         refine wlit ?_
         refine wl_v (x_loadA (cs := [_, _, _, _, _, _, _, _, _, _]) Try.underlying63 rfl ts_63 (tmP rfl rfl) (rangeB hS.ok 0 rfl rfl)) ?_
         refine wl_e rfl ?_; intro K hK
         refine ow_call Try.func51 rfl rfl (evs_cons (tmA rfl rfl) <| evs_nil) (hb1 _ (viewV hS.ok 3 rfl) (viewV hS.ok 2 rfl)) ?_
         rintro e w ⟨A1, n1, c1, hn1, rfl, hn, hk⟩
         refine ⟨_, rfl, ?_⟩
         replace hS := hS.add hk hn -- +rowb
         clear hn hk
         refine hK _ _ ?_; clear hK K
         refine wl_e rfl ?_; intro K hK
         refine ow_call Try.func43 rfl rfl (evs_cons (tmS rfl rfl) <| evs_nil) (tcp_parse_c n1 A1 c1 B _ (viewR hS.ok 0 rfl) (by rw [hlb, hn1]) hbb (by omega) (20 + o.length) r1.symm (by omega) r2 (by omega)) ?_
         rintro e w ⟨O1, L1, rfl, hm1, hm2, hk⟩
         refine ⟨_, rfl, ?_⟩
         rw [g1, g2, g3, g4, g5, g6, g7, g8]
         rw [g9] at hm1
         rw [g0] at hm2
         replace hS := hS.addn2 hk hm1 hm2 -- +vo1,vl1
         clear hm1 hm2 hk
         refine hK _ _ ?_; clear hK K
         refine wl_v (x_move (tmT rfl rfl)) ?_
         refine wl_v (x_ext (tmT rfl rfl) rfl) ?_
         refine wl_v (x_ext (tmT rfl rfl) rfl) ?_
         refine wl_e rfl ?_; intro K hK
         refine ow_alloc hS tz_63 rfl ?_
         clear hS; intro g8_6 w hg8_6 hS
         refine hK _ _ ?_; clear hK K
         refine wl_e rfl ?_; intro K hK
         refine ow_storeA hS 0 rfl ts_63 (tmP rfl rfl) (tmA rfl rfl) rfl rfl rfl ?_
         clear hS; intro w hS
         refine hK _ _ ?_; clear hK K
         refine wl_v (x_assign (tmI rfl rfl)) ?_
         refine wl_nil ?_
         refine then_n (hK9 _ _ ?_); clear hK9 K9
         refine wp_seq_k ?_; intro K10 hK10
         refine rg_startk 0 hS mixed_ ?_
         clear hS; intro w hS
         refine rg_take 0 rfl rfl (by kernel_rfl) (by kernel_rfl) (by kernel_rfl) (want_0) (fun w hok => x_loadA (cs := [_, _, _, _, _, _, _, _, _, _]) Try.underlying63 rfl ts_63 (tmP rfl rfl) (rangeB hok 4 rfl rfl)) ?_
         refine rg_take 3 rfl rfl (by kernel_rfl) (by kernel_rfl) (by kernel_rfl) (want_0) (fun w hok => x_loadA (cs := [_, _, _, _, _, _, _, _, _, _]) Try.underlying66 rfl ts_66 (tmP rfl rfl) (rangeB hok 5 rfl rfl)) ?_
         refine rg_step 1 rfl (by kernel_rfl) (want_0) (oks_drop hS 0 rfl) ?_; intro K hK
         refine ow_call Try.func51 rfl rfl (evs_cons (tmA rfl rfl) <| evs_nil) (hb1 _ (viewV hS.ok 7 rfl) (viewV hS.ok 6 rfl)) ?_
         rintro e w ⟨A2, n2, c2, hn2, rfl, hn, hk⟩
         refine ⟨_, rfl, ?_⟩
         replace hS := hS.add hk hn -- +rowc
         clear hn hk
         refine hK _ _ ?_; clear hK K
         refine rg_step2 2 4 rfl rfl (by kernel_rfl) (want_0) (want_0) (oks_drop hS 1 rfl) ?_ ?_
         · intro K hK
           first
            | refine ow_v (x_bstr Try.underlying22 Try.underlying5 Try.underlying9 (tmS rfl rfl) (viewR hS.ok 0 rfl) (by first | assumption | exact Bytes.nil | (repeat' (first | assumption | exact Bytes.nil | exact be_bytes _ _ | apply Bytes.append | apply Bytes.take | apply Bytes.drop | apply Bytes.replicate))) (by first | rfl | assumption | (simp; done) | (simp; omega) | omega)) ?_
            | refine ow_v (x_bstr Try.underlying22 Try.underlying5 Try.underlying9 (tmS rfl rfl) (viewV hS.ok 2 rfl) (by first | assumption | exact Bytes.nil | (repeat' (first | assumption | exact Bytes.nil | exact be_bytes _ _ | apply Bytes.append | apply Bytes.take | apply Bytes.drop | apply Bytes.replicate))) (by first | rfl | assumption | (simp; done) | (simp; omega) | omega)) ?_
            | refine ow_v (x_bstr Try.underlying22 Try.underlying5 Try.underlying9 (tmS rfl rfl) (viewV hS.ok 3 rfl) (by first | assumption | exact Bytes.nil | (repeat' (first | assumption | exact Bytes.nil | exact be_bytes _ _ | apply Bytes.append | apply Bytes.take | apply Bytes.drop | apply Bytes.replicate))) (by first | rfl | assumption | (simp; done) | (simp; omega) | omega)) ?_
            | refine ow_v (x_bstr Try.underlying22 Try.underlying5 Try.underlying9 (tmS rfl rfl) (viewR hS.ok 4 rfl) (by first | assumption | exact Bytes.nil | (repeat' (first | assumption | exact Bytes.nil | exact be_bytes _ _ | apply Bytes.append | apply Bytes.take | apply Bytes.drop | apply Bytes.replicate))) (by first | rfl | assumption | (simp; done) | (simp; omega) | omega)) ?_
            | refine ow_v (x_bstr Try.underlying22 Try.underlying5 Try.underlying9 (tmS rfl rfl) (viewV hS.ok 7 rfl) (by first | assumption | exact Bytes.nil | (repeat' (first | assumption | exact Bytes.nil | exact be_bytes _ _ | apply Bytes.append | apply Bytes.take | apply Bytes.drop | apply Bytes.replicate))) (by first | rfl | assumption | (simp; done) | (simp; omega) | omega)) ?_
            | refine ow_v (x_bstr Try.underlying22 Try.underlying5 Try.underlying9 (tmS rfl rfl) (viewV hS.ok 8 rfl) (by first | assumption | exact Bytes.nil | (repeat' (first | assumption | exact Bytes.nil | exact be_bytes _ _ | apply Bytes.append | apply Bytes.take | apply Bytes.drop | apply Bytes.replicate))) (by first | rfl | assumption | (simp; done) | (simp; omega) | omega)) ?_
            | refine ow_v (x_bstr Try.underlying22 Try.underlying5 Try.underlying9 (tmS rfl rfl) View.nil_ (by first | assumption | exact Bytes.nil | (repeat' (first | assumption | exact Bytes.nil | exact be_bytes _ _ | apply Bytes.append | apply Bytes.take | apply Bytes.drop | apply Bytes.replicate))) (by first | rfl | assumption | (simp; done) | (simp; omega) | omega)) ?_
           refine hK _ _ ?_; clear hK K
           refine rg_step 4 rfl (by kernel_rfl) (want_0) (oks_drop hS 1 rfl) ?_; intro K hK
           refine ow_call Try.func52 rfl rfl (evs_cons (tmA rfl rfl) <| evs_nil) (hb2 _ (viewV hS.ok 8 rfl) (viewV hS.ok 7 rfl)) ?_
           rintro e w ⟨A3, n3, c3, hn3, rfl, hn, hk⟩
           refine ⟨_, rfl, ?_⟩
           replace hS := hS.add hk hn -- +rowd
           clear hn hk
           refine hK _ _ ?_; clear hK K
           refine rg_step 5 rfl (by kernel_rfl) (want_0) (oks_drop hS 2 rfl) ?_; intro K hK
           first
            | refine ow_v (x_bstr Try.underlying22 Try.underlying5 Try.underlying9 (tmS rfl rfl) (viewR hS.ok 0 rfl) (by first | assumption | exact Bytes.nil | (repeat' (first | assumption | exact Bytes.nil | exact be_bytes _ _ | apply Bytes.append | apply Bytes.take | apply Bytes.drop | apply Bytes.replicate))) (by first | rfl | assumption | (simp; done) | (simp; omega) | omega)) ?_
            | refine ow_v (x_bstr Try.underlying22 Try.underlying5 Try.underlying9 (tmS rfl rfl) (viewR hS.ok 1 rfl) (by first | assumption | exact Bytes.nil | (repeat' (first | assumption | exact Bytes.nil | exact be_bytes _ _ | apply Bytes.append | apply Bytes.take | apply Bytes.drop | apply Bytes.replicate))) (by first | rfl | assumption | (simp; done) | (simp; omega) | omega)) ?_
            | refine ow_v (x_bstr Try.underlying22 Try.underlying5 Try.underlying9 (tmS rfl rfl) (viewV hS.ok 3 rfl) (by first | assumption | exact Bytes.nil | (repeat' (first | assumption | exact Bytes.nil | exact be_bytes _ _ | apply Bytes.append | apply Bytes.take | apply Bytes.drop | apply Bytes.replicate))) (by first | rfl | assumption | (simp; done) | (simp; omega) | omega)) ?_
            | refine ow_v (x_bstr Try.underlying22 Try.underlying5 Try.underlying9 (tmS rfl rfl) (viewV hS.ok 4 rfl) (by first | assumption | exact Bytes.nil | (repeat' (first | assumption | exact Bytes.nil | exact be_bytes _ _ | apply Bytes.append | apply Bytes.take | apply Bytes.drop | apply Bytes.replicate))) (by first | rfl | assumption | (simp; done) | (simp; omega) | omega)) ?_
            | refine ow_v (x_bstr Try.underlying22 Try.underlying5 Try.underlying9 (tmS rfl rfl) (viewR hS.ok 5 rfl) (by first | assumption | exact Bytes.nil | (repeat' (first | assumption | exact Bytes.nil | exact be_bytes _ _ | apply Bytes.append | apply Bytes.take | apply Bytes.drop | apply Bytes.replicate))) (by first | rfl | assumption | (simp; done) | (simp; omega) | omega)) ?_
            | refine ow_v (x_bstr Try.underlying22 Try.underlying5 Try.underlying9 (tmS rfl rfl) (viewV hS.ok 8 rfl) (by first | assumption | exact Bytes.nil | (repeat' (first | assumption | exact Bytes.nil | exact be_bytes _ _ | apply Bytes.append | apply Bytes.take | apply Bytes.drop | apply Bytes.replicate))) (by first | rfl | assumption | (simp; done) | (simp; omega) | omega)) ?_
            | refine ow_v (x_bstr Try.underlying22 Try.underlying5 Try.underlying9 (tmS rfl rfl) (viewV hS.ok 9 rfl) (by first | assumption | exact Bytes.nil | (repeat' (first | assumption | exact Bytes.nil | exact be_bytes _ _ | apply Bytes.append | apply Bytes.take | apply Bytes.drop | apply Bytes.replicate))) (by first | rfl | assumption | (simp; done) | (simp; omega) | omega)) ?_
            | refine ow_v (x_bstr Try.underlying22 Try.underlying5 Try.underlying9 (tmS rfl rfl) View.nil_ (by first | assumption | exact Bytes.nil | (repeat' (first | assumption | exact Bytes.nil | exact be_bytes _ _ | apply Bytes.append | apply Bytes.take | apply Bytes.drop | apply Bytes.replicate))) (by first | rfl | assumption | (simp; done) | (simp; omega) | omega)) ?_
           refine hK _ _ ?_; clear hK K
           refine rg_take 6 rfl rfl (by kernel_rfl) (by kernel_rfl) (by kernel_rfl) (want_0) (fun w hok => x_Geql (tmG rfl rfl) (tmG rfl rfl) (by first | assumption | exact Bytes.nil | (repeat' (first | assumption | exact Bytes.nil | exact be_bytes _ _ | apply Bytes.append | apply Bytes.take | apply Bytes.drop | apply Bytes.replicate))) (by first | assumption | exact Bytes.nil | (repeat' (first | assumption | exact Bytes.nil | exact be_bytes _ _ | apply Bytes.append | apply Bytes.take | apply Bytes.drop | apply Bytes.replicate)))) ?_
           refine rg_take 7 rfl rfl (by kernel_rfl) (by kernel_rfl) (by kernel_rfl) (want_0) (fun w hok => x_move (tmB rfl rfl)) ?_
           refine gs_rg (tm (t := 40) rfl) (fun hg9_7 => ?_) (fun hg9_7 => ?_)
           · have hg9_7' := hg9_7; (try simp only [nrm] at hg9_7'); try (exfalso; first | with_reducible exact absurd hg9_7 Bool.false_ne_true | with_reducible exact absurd hg9_7.symm Bool.false_ne_true | omega | (simp at hg9_7; done))
             all_goals
              refine rg_take 8 rfl rfl (by kernel_rfl) (by kernel_rfl) (by kernel_rfl) (want_y rfl rfl rfl rfl (by rw [hg9_7]; rfl)) (fun w hok => x_loadA (cs := [_, _, _, _, _, _, _, _, _, _]) Try.underlying63 rfl ts_63 (tmP rfl rfl) (rangeB hok 0 rfl rfl)) ?_
              refine rg_take 10 rfl rfl (by kernel_rfl) (by kernel_rfl) (by kernel_rfl) (want_y rfl rfl rfl rfl (by rw [hg9_7]; rfl)) (fun w hok => x_loadA (cs := [_, _, _, _, _, _, _, _, _, _]) Try.underlying66 rfl ts_66 (tmP rfl rfl) (rangeB hok 5 rfl rfl)) ?_
              refine rg_step 9 rfl (by kernel_rfl) (want_y rfl rfl rfl rfl (by rw [hg9_7]; rfl)) (oks_drop hS 2 rfl) ?_; intro K hK
              refine ow_call Try.func46 rfl rfl (evs_cons (tmA rfl rfl) <| evs_nil) (of06_c _ _ _ _ _ _ _ _ _ _ _ _ _ _ _) ?_
              rintro e w ⟨rfl, hk⟩
              refine ⟨_, rfl, ?_⟩
              replace hS := hS.kept hk
              clear hk
              refine hK _ _ ?_; clear hK K
              refine rg_step 11 rfl (by kernel_rfl) (want_y rfl rfl rfl rfl (by rw [hg9_7]; rfl)) (oks_drop hS 2 rfl) ?_; intro K hK
              refine ow_call Try.func45 rfl rfl (evs_cons (tmA rfl rfl) <| evs_cons (tmA rfl rfl) <| evs_nil) (same06_c _ _ _ _ _ _ _ _ _ _ _ _ _ _ _ _ _ _ _ _ _ _ _ _ _ _ _ _ _ _ _ _ _ (viewV hS.ok 3 rfl) (by omega) hob (viewV hS.ok 4 rfl) (by omega) hxb (viewV hS.ok 9 rfl) rfl hob (viewV hS.ok 8 rfl) rfl hxb) ?_
              rintro e w ⟨rfl, hk⟩
              refine ⟨_, rfl, ?_⟩
              replace hS := hS.kept hk
              clear hk
              refine hK _ _ ?_; clear hK K
              refine rg_take 12 rfl rfl (by kernel_rfl) (by kernel_rfl) (by kernel_rfl) (want_0) (fun w hok => x_pickT (tmB rfl rfl) hg9_7 (tmB rfl rfl)) ?_
              refine rg_take 13 rfl rfl (by kernel_rfl) (by kernel_rfl) (by kernel_rfl) (want_0) (fun w hok => x_move (tmB rfl rfl)) ?_
              refine gs_rg (tm (t := 46) rfl) (fun hg9_13 => ?_) (fun hg9_13 => ?_)
              · have hg9_13' := hg9_13; (try simp only [nrm] at hg9_13'); try (exfalso; first | with_reducible exact absurd hg9_13 Bool.false_ne_true | with_reducible exact absurd hg9_13.symm Bool.false_ne_true | omega | (simp at hg9_13; done))
                all_goals
                 refine rg_take 14 rfl rfl (by kernel_rfl) (by kernel_rfl) (by kernel_rfl) (want_y rfl rfl rfl rfl (by rw [hg9_13]; rfl)) (fun w hok => x_move (tmI rfl rfl)) ?_
                 refine rg_take 15 rfl rfl (by kernel_rfl) (by kernel_rfl) (by kernel_rfl) (want_y rfl rfl rfl rfl (by rw [hg9_13]; rfl)) (fun w hok => x_eql (tmI rfl rfl) (ev_cN 0)) ?_
                 refine rg_take 16 rfl rfl (by kernel_rfl) (by kernel_rfl) (by kernel_rfl) (want_0) (fun w hok => x_pickT (tmB rfl rfl) hg9_13 (tmB rfl rfl)) ?_
                 refine rg_take 17 rfl rfl (by kernel_rfl) (by kernel_rfl) (by kernel_rfl) (want_0) (fun w hok => x_move (tmB rfl rfl)) ?_
                 refine gs_rg (tm (t := 50) rfl) (fun hg9_17 => ?_) (fun hg9_17 => ?_)
                 · have hg9_17' := hg9_17; (try simp only [nrm] at hg9_17'); try (exfalso; first | with_reducible exact absurd hg9_17 Bool.false_ne_true | with_reducible exact absurd hg9_17.symm Bool.false_ne_true | omega | (simp at hg9_17; done))
                   all_goals
                    refine rg_step 18 rfl (by kernel_rfl) (want_y rfl rfl rfl rfl (by rw [hg9_17]; rfl)) (oks_drop hS 2 rfl) ?_; intro K hK
                    refine ow_call Try.func42 rfl rfl (evs_nil) (law06_awake_c _) ?_
                    rintro e w ⟨rfl, hk⟩
                    refine ⟨_, rfl, ?_⟩
                    replace hS := hS.kept hk
                    clear hk
                    refine hK _ _ ?_; clear hK K
                    refine rg_take 19 rfl rfl (by kernel_rfl) (by kernel_rfl) (by kernel_rfl) (want_0) (fun w hok => x_pickT (tmB rfl rfl) hg9_17 (tmB rfl rfl)) ?_
                    refine rg_take 20 rfl rfl (by kernel_rfl) (by kernel_rfl) (by kernel_rfl) (want_0) (fun w hok => x_assign (tmB rfl rfl)) ?_
                    refine rg_done (oks_drop hS 2 rfl) (by kernel_rfl) ?_
                    refine then_n (hK10 _ _ ?_); clear hK10 K10
                    refine wp_ret ?_
                    refine ret1 rfl (.tmp rfl (show _ = Value.bool _ from rfl)) ?_
                    exact ⟨rfl, hS.kp.below⟩
                 have hg9_17' := hg9_17; (try simp only [nrm] at hg9_17'); try (exfalso; first | with_reducible exact absurd hg9_17 Bool.false_ne_true | with_reducible exact absurd hg9_17.symm Bool.false_ne_true | omega | (simp at hg9_17; done))
                 all_goals
                  refine rg_skip 18 rfl rfl (by kernel_rfl) (by kernel_rfl) (by kernel_rfl) (want_n rfl rfl rfl rfl (by rw [hg9_17]; rfl)) ?_
                  refine rg_take 19 rfl rfl (by kernel_rfl) (by kernel_rfl) (by kernel_rfl) (want_0) (fun w hok => x_pickF (tmB rfl rfl) hg9_17 ev_c) ?_
                  refine rg_take 20 rfl rfl (by kernel_rfl) (by kernel_rfl) (by kernel_rfl) (want_0) (fun w hok => x_assign (tmB rfl rfl)) ?_
                  refine rg_done (oks_drop hS 2 rfl) (by kernel_rfl) ?_
                  refine then_n (hK10 _ _ ?_); clear hK10 K10
                  refine wp_ret ?_
                  refine ret1 rfl (.tmp rfl (show _ = Value.bool _ from rfl)) ?_
                  exact ⟨rfl, hS.kp.below⟩
              have hg9_13' := hg9_13; (try simp only [nrm] at hg9_13'); try (exfalso; first | with_reducible exact absurd hg9_13 Bool.false_ne_true | with_reducible exact absurd hg9_13.symm Bool.false_ne_true | omega | (simp at hg9_13; done))
              all_goals
               refine rg_skip 14 rfl rfl (by kernel_rfl) (by kernel_rfl) (by kernel_rfl) (want_n rfl rfl rfl rfl (by rw [hg9_13]; rfl)) ?_
               refine rg_skip 15 rfl rfl (by kernel_rfl) (by kernel_rfl) (by kernel_rfl) (want_n rfl rfl rfl rfl (by rw [hg9_13]; rfl)) ?_
               refine rg_take 16 rfl rfl (by kernel_rfl) (by kernel_rfl) (by kernel_rfl) (want_0) (fun w hok => x_pickF (tmB rfl rfl) hg9_13 ev_c) ?_
               refine rg_take 17 rfl rfl (by kernel_rfl) (by kernel_rfl) (by kernel_rfl) (want_0) (fun w hok => x_move (tmB rfl rfl)) ?_
               refine rg_skip 18 rfl rfl (by kernel_rfl) (by kernel_rfl) (by kernel_rfl) (want_n rfl rfl rfl rfl rfl) ?_
               refine rg_take 19 rfl rfl (by kernel_rfl) (by kernel_rfl) (by kernel_rfl) (want_0) (fun w hok => x_pickF (tmB rfl rfl) rfl ev_c) ?_
               refine rg_take 20 rfl rfl (by kernel_rfl) (by kernel_rfl) (by kernel_rfl) (want_0) (fun w hok => x_assign (tmB rfl rfl)) ?_
               refine rg_done (oks_drop hS 2 rfl) (by kernel_rfl) ?_
               refine then_n (hK10 _ _ ?_); clear hK10 K10
               refine wp_ret ?_
               refine ret1 rfl (.tmp rfl (show _ = Value.bool _ from rfl)) ?_
               exact ⟨rfl, hS.kp.below⟩
           have hg9_7' := hg9_7; (try simp only [nrm] at hg9_7'); try (exfalso; first | with_reducible exact absurd hg9_7 Bool.false_ne_true | with_reducible exact absurd hg9_7.symm Bool.false_ne_true | omega | (simp at hg9_7; done))
           all_goals
            refine rg_skip 8 rfl rfl (by kernel_rfl) (by kernel_rfl) (by kernel_rfl) (want_n rfl rfl rfl rfl (by rw [hg9_7]; rfl)) ?_
            refine rg_skip 9 rfl rfl (by kernel_rfl) (by kernel_rfl) (by kernel_rfl) (want_n rfl rfl rfl rfl (by rw [hg9_7]; rfl)) ?_
            refine rg_skip 10 rfl rfl (by kernel_rfl) (by kernel_rfl) (by kernel_rfl) (want_n rfl rfl rfl rfl (by rw [hg9_7]; rfl)) ?_
            refine rg_skip 11 rfl rfl (by kernel_rfl) (by kernel_rfl) (by kernel_rfl) (want_n rfl rfl rfl rfl (by rw [hg9_7]; rfl)) ?_
            refine rg_take 12 rfl rfl (by kernel_rfl) (by kernel_rfl) (by kernel_rfl) (want_0) (fun w hok => x_pickF (tmB rfl rfl) hg9_7 ev_c) ?_
            refine rg_take 13 rfl rfl (by kernel_rfl) (by kernel_rfl) (by kernel_rfl) (want_0) (fun w hok => x_move (tmB rfl rfl)) ?_
            refine rg_skip 14 rfl rfl (by kernel_rfl) (by kernel_rfl) (by kernel_rfl) (want_n rfl rfl rfl rfl rfl) ?_
            refine rg_skip 15 rfl rfl (by kernel_rfl) (by kernel_rfl) (by kernel_rfl) (want_n rfl rfl rfl rfl rfl) ?_
            refine rg_take 16 rfl rfl (by kernel_rfl) (by kernel_rfl) (by kernel_rfl) (want_0) (fun w hok => x_pickF (tmB rfl rfl) rfl ev_c) ?_
            refine rg_take 17 rfl rfl (by kernel_rfl) (by kernel_rfl) (by kernel_rfl) (want_0) (fun w hok => x_move (tmB rfl rfl)) ?_
            refine rg_skip 18 rfl rfl (by kernel_rfl) (by kernel_rfl) (by kernel_rfl) (want_n rfl rfl rfl rfl rfl) ?_
            refine rg_take 19 rfl rfl (by kernel_rfl) (by kernel_rfl) (by kernel_rfl) (want_0) (fun w hok => x_pickF (tmB rfl rfl) rfl ev_c) ?_
            refine rg_take 20 rfl rfl (by kernel_rfl) (by kernel_rfl) (by kernel_rfl) (want_0) (fun w hok => x_assign (tmB rfl rfl)) ?_
            refine rg_done (oks_drop hS 2 rfl) (by kernel_rfl) ?_
            refine then_n (hK10 _ _ ?_); clear hK10 K10
            refine wp_ret ?_
            refine ret1 rfl (.tmp rfl (show _ = Value.bool _ from rfl)) ?_
            exact ⟨rfl, hS.kp.below⟩
         · intro K hK
           refine ow_call Try.func52 rfl rfl (evs_cons (tmA rfl rfl) <| evs_nil) (hb2 _ (viewV hS.ok 8 rfl) (viewV hS.ok 7 rfl)) ?_
           rintro e w ⟨A3, n3, c3, hn3, rfl, hn, hk⟩
           refine ⟨_, rfl, ?_⟩
           replace hS := hS.add hk hn -- +rowd
           clear hn hk
           refine hK _ _ ?_; clear hK K
           refine rg_step2 2 5 rfl rfl (by kernel_rfl) (want_0) (want_0) (oks_drop hS 2 rfl) ?_ ?_
           · intro K hK
             first
              | refine ow_v (x_bstr Try.underlying22 Try.underlying5 Try.underlying9 (tmS rfl rfl) (viewR hS.ok 0 rfl) (by first | assumption | exact Bytes.nil | (repeat' (first | assumption | exact Bytes.nil | exact be_bytes _ _ | apply Bytes.append | apply Bytes.take | apply Bytes.drop | apply Bytes.replicate))) (by first | rfl | assumption | (simp; done) | (simp; omega) | omega)) ?_
              | refine ow_v (x_bstr Try.underlying22 Try.underlying5 Try.underlying9 (tmS rfl rfl) (viewR hS.ok 1 rfl) (by first | assumption | exact Bytes.nil | (repeat' (first | assumption | exact Bytes.nil | exact be_bytes _ _ | apply Bytes.append | apply Bytes.take | apply Bytes.drop | apply Bytes.replicate))) (by first | rfl | assumption | (simp; done) | (simp; omega) | omega)) ?_
              | refine ow_v (x_bstr Try.underlying22 Try.underlying5 Try.underlying9 (tmS rfl rfl) (viewV hS.ok 3 rfl) (by first | assumption | exact Bytes.nil | (repeat' (first | assumption | exact Bytes.nil | exact be_bytes _ _ | apply Bytes.append | apply Bytes.take | apply Bytes.drop | apply Bytes.replicate))) (by first | rfl | assumption | (simp; done) | (simp; omega) | omega)) ?_
              | refine ow_v (x_bstr Try.underlying22 Try.underlying5 Try.underlying9 (tmS rfl rfl) (viewV hS.ok 4 rfl) (by first | assumption | exact Bytes.nil | (repeat' (first | assumption | exact Bytes.nil | exact be_bytes _ _ | apply Bytes.append | apply Bytes.take | apply Bytes.drop | apply Bytes.replicate))) (by first | rfl | assumption | (simp; done) | (simp; omega) | omega)) ?_
              | refine ow_v (x_bstr Try.underlying22 Try.underlying5 Try.underlying9 (tmS rfl rfl) (viewR hS.ok 5 rfl) (by first | assumption | exact Bytes.nil | (repeat' (first | assumption | exact Bytes.nil | exact be_bytes _ _ | apply Bytes.append | apply Bytes.take | apply Bytes.drop | apply Bytes.replicate))) (by first | rfl | assumption | (simp; done) | (simp; omega) | omega)) ?_
              | refine ow_v (x_bstr Try.underlying22 Try.underlying5 Try.underlying9 (tmS rfl rfl) (viewV hS.ok 8 rfl) (by first | assumption | exact Bytes.nil | (repeat' (first | assumption | exact Bytes.nil | exact be_bytes _ _ | apply Bytes.append | apply Bytes.take | apply Bytes.drop | apply Bytes.replicate))) (by first | rfl | assumption | (simp; done) | (simp; omega) | omega)) ?_
              | refine ow_v (x_bstr Try.underlying22 Try.underlying5 Try.underlying9 (tmS rfl rfl) (viewV hS.ok 9 rfl) (by first | assumption | exact Bytes.nil | (repeat' (first | assumption | exact Bytes.nil | exact be_bytes _ _ | apply Bytes.append | apply Bytes.take | apply Bytes.drop | apply Bytes.replicate))) (by first | rfl | assumption | (simp; done) | (simp; omega) | omega)) ?_
              | refine ow_v (x_bstr Try.underlying22 Try.underlying5 Try.underlying9 (tmS rfl rfl) View.nil_ (by first | assumption | exact Bytes.nil | (repeat' (first | assumption | exact Bytes.nil | exact be_bytes _ _ | apply Bytes.append | apply Bytes.take | apply Bytes.drop | apply Bytes.replicate))) (by first | rfl | assumption | (simp; done) | (simp; omega) | omega)) ?_
             refine hK _ _ ?_; clear hK K
             refine rg_step 5 rfl (by kernel_rfl) (want_0) (oks_drop hS 2 rfl) ?_; intro K hK
             first
              | refine ow_v (x_bstr Try.underlying22 Try.underlying5 Try.underlying9 (tmS rfl rfl) (viewR hS.ok 0 rfl) (by first | assumption | exact Bytes.nil | (repeat' (first | assumption | exact Bytes.nil | exact be_bytes _ _ | apply Bytes.append | apply Bytes.take | apply Bytes.drop | apply Bytes.replicate))) (by first | rfl | assumption | (simp; done) | (simp; omega) | omega)) ?_
              | refine ow_v (x_bstr Try.underlying22 Try.underlying5 Try.underlying9 (tmS rfl rfl) (viewR hS.ok 1 rfl) (by first | assumption | exact Bytes.nil | (repeat' (first | assumption | exact Bytes.nil | exact be_bytes _ _ | apply Bytes.append | apply Bytes.take | apply Bytes.drop | apply Bytes.replicate))) (by first | rfl | assumption | (simp; done) | (simp; omega) | omega)) ?_
              | refine ow_v (x_bstr Try.underlying22 Try.underlying5 Try.underlying9 (tmS rfl rfl) (viewV hS.ok 3 rfl) (by first | assumption | exact Bytes.nil | (repeat' (first | assumption | exact Bytes.nil | exact be_bytes _ _ | apply Bytes.append | apply Bytes.take | apply Bytes.drop | apply Bytes.replicate))) (by first | rfl | assumption | (simp; done) | (simp; omega) | omega)) ?_
              | refine ow_v (x_bstr Try.underlying22 Try.underlying5 Try.underlying9 (tmS rfl rfl) (viewV hS.ok 4 rfl) (by first | assumption | exact Bytes.nil | (repeat' (first | assumption | exact Bytes.nil | exact be_bytes _ _ | apply Bytes.append | apply Bytes.take | apply Bytes.drop | apply Bytes.replicate))) (by first | rfl | assumption | (simp; done) | (simp; omega) | omega)) ?_
              | refine ow_v (x_bstr Try.underlying22 Try.underlying5 Try.underlying9 (tmS rfl rfl) (viewR hS.ok 5 rfl) (by first | assumption | exact Bytes.nil | (repeat' (first | assumption | exact Bytes.nil | exact be_bytes _ _ | apply Bytes.append | apply Bytes.take | apply Bytes.drop | apply Bytes.replicate))) (by first | rfl | assumption | (simp; done) | (simp; omega) | omega)) ?_
              | refine ow_v (x_bstr Try.underlying22 Try.underlying5 Try.underlying9 (tmS rfl rfl) (viewV hS.ok 8 rfl) (by first | assumption | exact Bytes.nil | (repeat' (first | assumption | exact Bytes.nil | exact be_bytes _ _ | apply Bytes.append | apply Bytes.take | apply Bytes.drop | apply Bytes.replicate))) (by first | rfl | assumption | (simp; done) | (simp; omega) | omega)) ?_
              | refine ow_v (x_bstr Try.underlying22 Try.underlying5 Try.underlying9 (tmS rfl rfl) (viewV hS.ok 9 rfl) (by first | assumption | exact Bytes.nil | (repeat' (first | assumption | exact Bytes.nil | exact be_bytes _ _ | apply Bytes.append | apply Bytes.take | apply Bytes.drop | apply Bytes.replicate))) (by first | rfl | assumption | (simp; done) | (simp; omega) | omega)) ?_
              | refine ow_v (x_bstr Try.underlying22 Try.underlying5 Try.underlying9 (tmS rfl rfl) View.nil_ (by first | assumption | exact Bytes.nil | (repeat' (first | assumption | exact Bytes.nil | exact be_bytes _ _ | apply Bytes.append | apply Bytes.take | apply Bytes.drop | apply Bytes.replicate))) (by first | rfl | assumption | (simp; done) | (simp; omega) | omega)) ?_
             refine hK _ _ ?_; clear hK K
             refine rg_take 6 rfl rfl (by kernel_rfl) (by kernel_rfl) (by kernel_rfl) (want_0) (fun w hok => x_Geql (tmG rfl rfl) (tmG rfl rfl) (by first | assumption | exact Bytes.nil | (repeat' (first | assumption | exact Bytes.nil | exact be_bytes _ _ | apply Bytes.append | apply Bytes.take | apply Bytes.drop | apply Bytes.replicate))) (by first | assumption | exact Bytes.nil | (repeat' (first | assumption | exact Bytes.nil | exact be_bytes _ _ | apply Bytes.append | apply Bytes.take | apply Bytes.drop | apply Bytes.replicate)))) ?_
             refine rg_take 7 rfl rfl (by kernel_rfl) (by kernel_rfl) (by kernel_rfl) (want_0) (fun w hok => x_move (tmB rfl rfl)) ?_
             refine gs_rg (tm (t := 40) rfl) (fun hg9_7 => ?_) (fun hg9_7 => ?_)
             · have hg9_7' := hg9_7; (try simp only [nrm] at hg9_7'); try (exfalso; first | with_reducible exact absurd hg9_7 Bool.false_ne_true | with_reducible exact absurd hg9_7.symm Bool.false_ne_true | omega | (simp at hg9_7; done))
               all_goals
                refine rg_take 8 rfl rfl (by kernel_rfl) (by kernel_rfl) (by kernel_rfl) (want_y rfl rfl rfl rfl (by rw [hg9_7]; rfl)) (fun w hok => x_loadA (cs := [_, _, _, _, _, _, _, _, _, _]) Try.underlying63 rfl ts_63 (tmP rfl rfl) (rangeB hok 0 rfl rfl)) ?_
                refine rg_take 10 rfl rfl (by kernel_rfl) (by kernel_rfl) (by kernel_rfl) (want_y rfl rfl rfl rfl (by rw [hg9_7]; rfl)) (fun w hok => x_loadA (cs := [_, _, _, _, _, _, _, _, _, _]) Try.underlying66 rfl ts_66 (tmP rfl rfl) (rangeB hok 5 rfl rfl)) ?_
                refine rg_step 9 rfl (by kernel_rfl) (want_y rfl rfl rfl rfl (by rw [hg9_7]; rfl)) (oks_drop hS 2 rfl) ?_; intro K hK
                refine ow_call Try.func46 rfl rfl (evs_cons (tmA rfl rfl) <| evs_nil) (of06_c _ _ _ _ _ _ _ _ _ _ _ _ _ _ _) ?_
                rintro e w ⟨rfl, hk⟩
                refine ⟨_, rfl, ?_⟩
                replace hS := hS.kept hk
                clear hk
                refine hK _ _ ?_; clear hK K
                refine rg_step 11 rfl (by kernel_rfl) (want_y rfl rfl rfl rfl (by rw [hg9_7]; rfl)) (oks_drop hS 2 rfl) ?_; intro K hK
                refine ow_call Try.func45 rfl rfl (evs_cons (tmA rfl rfl) <| evs_cons (tmA rfl rfl) <| evs_nil) (same06_c _ _ _ _ _ _ _ _ _ _ _ _ _ _ _ _ _ _ _ _ _ _ _ _ _ _ _ _ _ _ _ _ _ (viewV hS.ok 3 rfl) (by omega) hob (viewV hS.ok 4 rfl) (by omega) hxb (viewV hS.ok 9 rfl) rfl hob (viewV hS.ok 8 rfl) rfl hxb) ?_
                rintro e w ⟨rfl, hk⟩
                refine ⟨_, rfl, ?_⟩
                replace hS := hS.kept hk
                clear hk
                refine hK _ _ ?_; clear hK K
                refine rg_take 12 rfl rfl (by kernel_rfl) (by kernel_rfl) (by kernel_rfl) (want_0) (fun w hok => x_pickT (tmB rfl rfl) hg9_7 (tmB rfl rfl)) ?_
                refine rg_take 13 rfl rfl (by kernel_rfl) (by kernel_rfl) (by kernel_rfl) (want_0) (fun w hok => x_move (tmB rfl rfl)) ?_
                refine gs_rg (tm (t := 46) rfl) (fun hg9_13 => ?_) (fun hg9_13 => ?_)
                · have hg9_13' := hg9_13; (try simp only [nrm] at hg9_13'); try (exfalso; first | with_reducible exact absurd hg9_13 Bool.false_ne_true | with_reducible exact absurd hg9_13.symm Bool.false_ne_true | omega | (simp at hg9_13; done))
                  all_goals
                   refine rg_take 14 rfl rfl (by kernel_rfl) (by kernel_rfl) (by kernel_rfl) (want_y rfl rfl rfl rfl (by rw [hg9_13]; rfl)) (fun w hok => x_move (tmI rfl rfl)) ?_
                   refine rg_take 15 rfl rfl (by kernel_rfl) (by kernel_rfl) (by kernel_rfl) (want_y rfl rfl rfl rfl (by rw [hg9_13]; rfl)) (fun w hok => x_eql (tmI rfl rfl) (ev_cN 0)) ?_
                   refine rg_take 16 rfl rfl (by kernel_rfl) (by kernel_rfl) (by kernel_rfl) (want_0) (fun w hok => x_pickT (tmB rfl rfl) hg9_13 (tmB rfl rfl)) ?_
                   refine rg_take 17 rfl rfl (by kernel_rfl) (by kernel_rfl) (by kernel_rfl) (want_0) (fun w hok => x_move (tmB rfl rfl)) ?_
                   refine gs_rg (tm (t := 50) rfl) (fun hg9_17 => ?_) (fun hg9_17 => ?_)
                   · have hg9_17' := hg9_17; (try simp only [nrm] at hg9_17'); try (exfalso; first | with_reducible exact absurd hg9_17 Bool.false_ne_true | with_reducible exact absurd hg9_17.symm Bool.false_ne_true | omega | (simp at hg9_17; done))
                     all_goals
                      refine rg_step 18 rfl (by kernel_rfl) (want_y rfl rfl rfl rfl (by rw [hg9_17]; rfl)) (oks_drop hS 2 rfl) ?_; intro K hK
                      refine ow_call Try.func42 rfl rfl (evs_nil) (law06_awake_c _) ?_
                      rintro e w ⟨rfl, hk⟩
                      refine ⟨_, rfl, ?_⟩
                      replace hS := hS.kept hk
                      clear hk
                      refine hK _ _ ?_; clear hK K
                      refine rg_take 19 rfl rfl (by kernel_rfl) (by kernel_rfl) (by kernel_rfl) (want_0) (fun w hok => x_pickT (tmB rfl rfl) hg9_17 (tmB rfl rfl)) ?_
                      refine rg_take 20 rfl rfl (by kernel_rfl) (by kernel_rfl) (by kernel_rfl) (want_0) (fun w hok => x_assign (tmB rfl rfl)) ?_
                      refine rg_done (oks_drop hS 2 rfl) (by kernel_rfl) ?_
                      refine then_n (hK10 _ _ ?_); clear hK10 K10
                      refine wp_ret ?_
                      refine ret1 rfl (.tmp rfl (show _ = Value.bool _ from rfl)) ?_
                      exact ⟨rfl, hS.kp.below⟩
                   have hg9_17' := hg9_17; (try simp only [nrm] at hg9_17'); try (exfalso; first | with_reducible exact absurd hg9_17 Bool.false_ne_true | with_reducible exact absurd hg9_17.symm Bool.false_ne_true | omega | (simp at hg9_17; done))
                   all_goals
                    refine rg_skip 18 rfl rfl (by kernel_rfl) (by kernel_rfl) (by kernel_rfl) (want_n rfl rfl rfl rfl (by rw [hg9_17]; rfl)) ?_
                    refine rg_take 19 rfl rfl (by kernel_rfl) (by kernel_rfl) (by kernel_rfl) (want_0) (fun w hok => x_pickF (tmB rfl rfl) hg9_17 ev_c) ?_
                    refine rg_take 20 rfl rfl (by kernel_rfl) (by kernel_rfl) (by kernel_rfl) (want_0) (fun w hok => x_assign (tmB rfl rfl)) ?_
                    refine rg_done (oks_drop hS 2 rfl) (by kernel_rfl) ?_
                    refine then_n (hK10 _ _ ?_); clear hK10 K10
                    refine wp_ret ?_
                    refine ret1 rfl (.tmp rfl (show _ = Value.bool _ from rfl)) ?_
                    exact ⟨rfl, hS.kp.below⟩
                have hg9_13' := hg9_13; (try simp only [nrm] at hg9_13'); try (exfalso; first | with_reducible exact absurd hg9_13 Bool.false_ne_true | with_reducible exact absurd hg9_13.symm Bool.false_ne_true | omega | (simp at hg9_13; done))
                all_goals
                 refine rg_skip 14 rfl rfl (by kernel_rfl) (by kernel_rfl) (by kernel_rfl) (want_n rfl rfl rfl rfl (by rw [hg9_13]; rfl)) ?_
                 refine rg_skip 15 rfl rfl (by kernel_rfl) (by kernel_rfl) (by kernel_rfl) (want_n rfl rfl rfl rfl (by rw [hg9_13]; rfl)) ?_
                 refine rg_take 16 rfl rfl (by kernel_rfl) (by kernel_rfl) (by kernel_rfl) (want_0) (fun w hok => x_pickF (tmB rfl rfl) hg9_13 ev_c) ?_
                 refine rg_take 17 rfl rfl (by kernel_rfl) (by kernel_rfl) (by kernel_rfl) (want_0) (fun w hok => x_move (tmB rfl rfl)) ?_
                 refine rg_skip 18 rfl rfl (by kernel_rfl) (by kernel_rfl) (by kernel_rfl) (want_n rfl rfl rfl rfl rfl) ?_
                 refine rg_take 19 rfl rfl (by kernel_rfl) (by kernel_rfl) (by kernel_rfl) (want_0) (fun w hok => x_pickF (tmB rfl rfl) rfl ev_c) ?_
                 refine rg_take 20 rfl rfl (by kernel_rfl) (by kernel_rfl) (by kernel_rfl) (want_0) (fun w hok => x_assign (tmB rfl rfl)) ?_
                 refine rg_done (oks_drop hS 2 rfl) (by kernel_rfl) ?_
                 refine then_n (hK10 _ _ ?_); clear hK10 K10
                 refine wp_ret ?_
                 refine ret1 rfl (.tmp rfl (show _ = Value.bool _ from rfl)) ?_
                 exact ⟨rfl, hS.kp.below⟩
             have hg9_7' := hg9_7; (try simp only [nrm] at hg9_7'); try (exfalso; first | with_reducible exact absurd hg9_7 Bool.false_ne_true | with_reducible exact absurd hg9_7.symm Bool.false_ne_true | omega | (simp at hg9_7; done))
             all_goals
              refine rg_skip 8 rfl rfl (by kernel_rfl) (by kernel_rfl) (by kernel_rfl) (want_n rfl rfl rfl rfl (by rw [hg9_7]; rfl)) ?_
              refine rg_skip 9 rfl rfl (by kernel_rfl) (by kernel_rfl) (by kernel_rfl) (want_n rfl rfl rfl rfl (by rw [hg9_7]; rfl)) ?_
              refine rg_skip 10 rfl rfl (by kernel_rfl) (by kernel_rfl) (by kernel_rfl) (want_n rfl rfl rfl rfl (by rw [hg9_7]; rfl)) ?_
              refine rg_skip 11 rfl rfl (by kernel_rfl) (by kernel_rfl) (by kernel_rfl) (want_n rfl rfl rfl rfl (by rw [hg9_7]; rfl)) ?_
              refine rg_take 12 rfl rfl (by kernel_rfl) (by kernel_rfl) (by kernel_rfl) (want_0) (fun w hok => x_pickF (tmB rfl rfl) hg9_7 ev_c) ?_
              refine rg_take 13 rfl rfl (by kernel_rfl) (by kernel_rfl) (by kernel_rfl) (want_0) (fun w hok => x_move (tmB rfl rfl)) ?_
              refine rg_skip 14 rfl rfl (by kernel_rfl) (by kernel_rfl) (by kernel_rfl) (want_n rfl rfl rfl rfl rfl) ?_
              refine rg_skip 15 rfl rfl (by kernel_rfl) (by kernel_rfl) (by kernel_rfl) (want_n rfl rfl rfl rfl rfl) ?_
              refine rg_take 16 rfl rfl (by kernel_rfl) (by kernel_rfl) (by kernel_rfl) (want_0) (fun w hok => x_pickF (tmB rfl rfl) rfl ev_c) ?_
              refine rg_take 17 rfl rfl (by kernel_rfl) (by kernel_rfl) (by kernel_rfl) (want_0) (fun w hok => x_move (tmB rfl rfl)) ?_
              refine rg_skip 18 rfl rfl (by kernel_rfl) (by kernel_rfl) (by kernel_rfl) (want_n rfl rfl rfl rfl rfl) ?_
              refine rg_take 19 rfl rfl (by kernel_rfl) (by kernel_rfl) (by kernel_rfl) (want_0) (fun w hok => x_pickF (tmB rfl rfl) rfl ev_c) ?_
              refine rg_take 20 rfl rfl (by kernel_rfl) (by kernel_rfl) (by kernel_rfl) (want_0) (fun w hok => x_assign (tmB rfl rfl)) ?_
              refine rg_done (oks_drop hS 2 rfl) (by kernel_rfl) ?_
              refine then_n (hK10 _ _ ?_); clear hK10 K10
              refine wp_ret ?_
              refine ret1 rfl (.tmp rfl (show _ = Value.bool _ from rfl)) ?_
              exact ⟨rfl, hS.kp.below⟩
           · intro K hK
             first
              | refine ow_v (x_bstr Try.underlying22 Try.underlying5 Try.underlying9 (tmS rfl rfl) (viewR hS.ok 0 rfl) (by first | assumption | exact Bytes.nil | (repeat' (first | assumption | exact Bytes.nil | exact be_bytes _ _ | apply Bytes.append | apply Bytes.take | apply Bytes.drop | apply Bytes.replicate))) (by first | rfl | assumption | (simp; done) | (simp; omega) | omega)) ?_
              | refine ow_v (x_bstr Try.underlying22 Try.underlying5 Try.underlying9 (tmS rfl rfl) (viewR hS.ok 1 rfl) (by first | assumption | exact Bytes.nil | (repeat' (first | assumption | exact Bytes.nil | exact be_bytes _ _ | apply Bytes.append | apply Bytes.take | apply Bytes.drop | apply Bytes.replicate))) (by first | rfl | assumption | (simp; done) | (simp; omega) | omega)) ?_
              | refine ow_v (x_bstr Try.underlying22 Try.underlying5 Try.underlying9 (tmS rfl rfl) (viewV hS.ok 3 rfl) (by first | assumption | exact Bytes.nil | (repeat' (first | assumption | exact Bytes.nil | exact be_bytes _ _ | apply Bytes.append | apply Bytes.take | apply Bytes.drop | apply Bytes.replicate))) (by first | rfl | assumption | (simp; done) | (simp; omega) | omega)) ?_
              | refine ow_v (x_bstr Try.underlying22 Try.underlying5 Try.underlying9 (tmS rfl rfl) (viewV hS.ok 4 rfl) (by first | assumption | exact Bytes.nil | (repeat' (first | assumption | exact Bytes.nil | exact be_bytes _ _ | apply Bytes.append | apply Bytes.take | apply Bytes.drop | apply Bytes.replicate))) (by first | rfl | assumption | (simp; done) | (simp; omega) | omega)) ?_
              | refine ow_v (x_bstr Try.underlying22 Try.underlying5 Try.underlying9 (tmS rfl rfl) (viewR hS.ok 5 rfl) (by first | assumption | exact Bytes.nil | (repeat' (first | assumption | exact Bytes.nil | exact be_bytes _ _ | apply Bytes.append | apply Bytes.take | apply Bytes.drop | apply Bytes.replicate))) (by first | rfl | assumption | (simp; done) | (simp; omega) | omega)) ?_
              | refine ow_v (x_bstr Try.underlying22 Try.underlying5 Try.underlying9 (tmS rfl rfl) (viewV hS.ok 8 rfl) (by first | assumption | exact Bytes.nil | (repeat' (first | assumption | exact Bytes.nil | exact be_bytes _ _ | apply Bytes.append | apply Bytes.take | apply Bytes.drop | apply Bytes.replicate))) (by first | rfl | assumption | (simp; done) | (simp; omega) | omega)) ?_
              | refine ow_v (x_bstr Try.underlying22 Try.underlying5 Try.underlying9 (tmS rfl rfl) (viewV hS.ok 9 rfl) (by first | assumption | exact Bytes.nil | (repeat' (first | assumption | exact Bytes.nil | exact be_bytes _ _ | apply Bytes.append | apply Bytes.take | apply Bytes.drop | apply Bytes.replicate))) (by first | rfl | assumption | (simp; done) | (simp; omega) | omega)) ?_
              | refine ow_v (x_bstr Try.underlying22 Try.underlying5 Try.underlying9 (tmS rfl rfl) View.nil_ (by first | assumption | exact Bytes.nil | (repeat' (first | assumption | exact Bytes.nil | exact be_bytes _ _ | apply Bytes.append | apply Bytes.take | apply Bytes.drop | apply Bytes.replicate))) (by first | rfl | assumption | (simp; done) | (simp; omega) | omega)) ?_
             refine hK _ _ ?_; clear hK K
             refine rg_step 2 rfl (by kernel_rfl) (want_0) (oks_drop hS 2 rfl) ?_; intro K hK
             first
              | refine ow_v (x_bstr Try.underlying22 Try.underlying5 Try.underlying9 (tmS rfl rfl) (viewR hS.ok 0 rfl) (by first | assumption | exact Bytes.nil | (repeat' (first | assumption | exact Bytes.nil | exact be_bytes _ _ | apply Bytes.append | apply Bytes.take | apply Bytes.drop | apply Bytes.replicate))) (by first | rfl | assumption | (simp; done) | (simp; omega) | omega)) ?_
              | refine ow_v (x_bstr Try.underlying22 Try.underlying5 Try.underlying9 (tmS rfl rfl) (viewR hS.ok 1 rfl) (by first | assumption | exact Bytes.nil | (repeat' (first | assumption | exact Bytes.nil | exact be_bytes _ _ | apply Bytes.append | apply Bytes.take | apply Bytes.drop | apply Bytes.replicate))) (by first | rfl | assumption | (simp; done) | (simp; omega) | omega)) ?_
              | refine ow_v (x_bstr Try.underlying22 Try.underlying5 Try.underlying9 (tmS rfl rfl) (viewV hS.ok 3 rfl) (by first | assumption | exact Bytes.nil | (repeat' (first | assumption | exact Bytes.nil | exact be_bytes _ _ | apply Bytes.append | apply Bytes.take | apply Bytes.drop | apply Bytes.replicate))) (by first | rfl | assumption | (simp; done) | (simp; omega) | omega)) ?_
              | refine ow_v (x_bstr Try.underlying22 Try.underlying5 Try.underlying9 (tmS rfl rfl) (viewV hS.ok 4 rfl) (by first | assumption | exact Bytes.nil | (repeat' (first | assumption | exact Bytes.nil | exact be_bytes _ _ | apply Bytes.append | apply Bytes.take | apply Bytes.drop | apply Bytes.replicate))) (by first | rfl | assumption | (simp; done) | (simp; omega) | omega)) ?_
              | refine ow_v (x_bstr Try.underlying22 Try.underlying5 Try.underlying9 (tmS rfl rfl) (viewR hS.ok 5 rfl) (by first | assumption | exact Bytes.nil | (repeat' (first | assumption | exact Bytes.nil | exact be_bytes _ _ | apply Bytes.append | apply Bytes.take | apply Bytes.drop | apply Bytes.replicate))) (by first | rfl | assumption | (simp; done) | (simp; omega) | omega)) ?_
              | refine ow_v (x_bstr Try.underlying22 Try.underlying5 Try.underlying9 (tmS rfl rfl) (viewV hS.ok 8 rfl) (by first | assumption | exact Bytes.nil | (repeat' (first | assumption | exact Bytes.nil | exact be_bytes _ _ | apply Bytes.append | apply Bytes.take | apply Bytes.drop | apply Bytes.replicate))) (by first | rfl | assumption | (simp; done) | (simp; omega) | omega)) ?_
              | refine ow_v (x_bstr Try.underlying22 Try.underlying5 Try.underlying9 (tmS rfl rfl) (viewV hS.ok 9 rfl) (by first | assumption | exact Bytes.nil | (repeat' (first | assumption | exact Bytes.nil | exact be_bytes _ _ | apply Bytes.append | apply Bytes.take | apply Bytes.drop | apply Bytes.replicate))) (by first | rfl | assumption | (simp; done) | (simp; omega) | omega)) ?_
              | refine ow_v (x_bstr Try.underlying22 Try.underlying5 Try.underlying9 (tmS rfl rfl) View.nil_ (by first | assumption | exact Bytes.nil | (repeat' (first | assumption | exact Bytes.nil | exact be_bytes _ _ | apply Bytes.append | apply Bytes.take | apply Bytes.drop | apply Bytes.replicate))) (by first | rfl | assumption | (simp; done) | (simp; omega) | omega)) ?_
             refine hK _ _ ?_; clear hK K
             refine rg_take 6 rfl rfl (by kernel_rfl) (by kernel_rfl) (by kernel_rfl) (want_0) (fun w hok => x_Geql (tmG rfl rfl) (tmG rfl rfl) (by first | assumption | exact Bytes.nil | (repeat' (first | assumption | exact Bytes.nil | exact be_bytes _ _ | apply Bytes.append | apply Bytes.take | apply Bytes.drop | apply Bytes.replicate))) (by first | assumption | exact Bytes.nil | (repeat' (first | assumption | exact Bytes.nil | exact be_bytes _ _ | apply Bytes.append | apply Bytes.take | apply Bytes.drop | apply Bytes.replicate)))) ?_
             refine rg_take 7 rfl rfl (by kernel_rfl) (by kernel_rfl) (by kernel_rfl) (want_0) (fun w hok => x_move (tmB rfl rfl)) ?_
             refine gs_rg (tm (t := 40) rfl) (fun hg9_7 => ?_) (fun hg9_7 => ?_)
             · have hg9_7' := hg9_7; (try simp only [nrm] at hg9_7'); try (exfalso; first | with_reducible exact absurd hg9_7 Bool.false_ne_true | with_reducible exact absurd hg9_7.symm Bool.false_ne_true | omega | (simp at hg9_7; done))
               all_goals
                refine rg_take 8 rfl rfl (by kernel_rfl) (by kernel_rfl) (by kernel_rfl) (want_y rfl rfl rfl rfl (by rw [hg9_7]; rfl)) (fun w hok => x_loadA (cs := [_, _, _, _, _, _, _, _, _, _]) Try.underlying63 rfl ts_63 (tmP rfl rfl) (rangeB hok 0 rfl rfl)) ?_
                refine rg_take 10 rfl rfl (by kernel_rfl) (by kernel_rfl) (by kernel_rfl) (want_y rfl rfl rfl rfl (by rw [hg9_7]; rfl)) (fun w hok => x_loadA (cs := [_, _, _, _, _, _, _, _, _, _]) Try.underlying66 rfl ts_66 (tmP rfl rfl) (rangeB hok 5 rfl rfl)) ?_
                refine rg_step 9 rfl (by kernel_rfl) (want_y rfl rfl rfl rfl (by rw [hg9_7]; rfl)) (oks_drop hS 2 rfl) ?_; intro K hK
                refine ow_call Try.func46 rfl rfl (evs_cons (tmA rfl rfl) <| evs_nil) (of06_c _ _ _ _ _ _ _ _ _ _ _ _ _ _ _) ?_
                rintro e w ⟨rfl, hk⟩
                refine ⟨_, rfl, ?_⟩
                replace hS := hS.kept hk
                clear hk
                refine hK _ _ ?_; clear hK K
                refine rg_step 11 rfl (by kernel_rfl) (want_y rfl rfl rfl rfl (by rw [hg9_7]; rfl)) (oks_drop hS 2 rfl) ?_; intro K hK
                refine ow_call Try.func45 rfl rfl (evs_cons (tmA rfl rfl) <| evs_cons (tmA rfl rfl) <| evs_nil) (same06_c _ _ _ _ _ _ _ _ _ _ _ _ _ _ _ _ _ _ _ _ _ _ _ _ _ _ _ _ _ _ _ _ _ (viewV hS.ok 3 rfl) (by omega) hob (viewV hS.ok 4 rfl) (by omega) hxb (viewV hS.ok 9 rfl) rfl hob (viewV hS.ok 8 rfl) rfl hxb) ?_
                rintro e w ⟨rfl, hk⟩
                refine ⟨_, rfl, ?_⟩
                replace hS := hS.kept hk
                clear hk
                refine hK _ _ ?_; clear hK K
                refine rg_take 12 rfl rfl (by kernel_rfl) (by kernel_rfl) (by kernel_rfl) (want_0) (fun w hok => x_pickT (tmB rfl rfl) hg9_7 (tmB rfl rfl)) ?_
                refine rg_take 13 rfl rfl (by kernel_rfl) (by kernel_rfl) (by kernel_rfl) (want_0) (fun w hok => x_move (tmB rfl rfl)) ?_
                refine gs_rg (tm (t := 46) rfl) (fun hg9_13 => ?_) (fun hg9_13 => ?_)
                · have hg9_13' := hg9_13; (try simp only [nrm] at hg9_13'); try (exfalso; first | with_reducible exact absurd hg9_13 Bool.false_ne_true | with_reducible exact absurd hg9_13.symm Bool.false_ne_true | omega | (simp at hg9_13; done))
                  all_goals
                   refine rg_take 14 rfl rfl (by kernel_rfl) (by kernel_rfl) (by kernel_rfl) (want_y rfl rfl rfl rfl (by rw [hg9_13]; rfl)) (fun w hok => x_move (tmI rfl rfl)) ?_
                   refine rg_take 15 rfl rfl (by kernel_rfl) (by kernel_rfl) (by kernel_rfl) (want_y rfl rfl rfl rfl (by rw [hg9_13]; rfl)) (fun w hok => x_eql (tmI rfl rfl) (ev_cN 0)) ?_
                   refine rg_take 16 rfl rfl (by kernel_rfl) (by kernel_rfl) (by kernel_rfl) (want_0) (fun w hok => x_pickT (tmB rfl rfl) hg9_13 (tmB rfl rfl)) ?_
                   refine rg_take 17 rfl rfl (by kernel_rfl) (by kernel_rfl) (by kernel_rfl) (want_0) (fun w hok => x_move (tmB rfl rfl)) ?_
                   refine gs_rg (tm (t := 50) rfl) (fun hg9_17 => ?_) (fun hg9_17 => ?_)
                   · have hg9_17' := hg9_17; (try simp only [nrm] at hg9_17'); try (exfalso; first | with_reducible exact absurd hg9_17 Bool.false_ne_true | with_reducible exact absurd hg9_17.symm Bool.false_ne_true | omega | (simp at hg9_17; done))
                     all_goals
                      refine rg_step 18 rfl (by kernel_rfl) (want_y rfl rfl rfl rfl (by rw [hg9_17]; rfl)) (oks_drop hS 2 rfl) ?_; intro K hK
                      refine ow_call Try.func42 rfl rfl (evs_nil) (law06_awake_c _) ?_
                      rintro e w ⟨rfl, hk⟩
                      refine ⟨_, rfl, ?_⟩
                      replace hS := hS.kept hk
                      clear hk
                      refine hK _ _ ?_; clear hK K
                      refine rg_take 19 rfl rfl (by kernel_rfl) (by kernel_rfl) (by kernel_rfl) (want_0) (fun w hok => x_pickT (tmB rfl rfl) hg9_17 (tmB rfl rfl)) ?_
                      refine rg_take 20 rfl rfl (by kernel_rfl) (by kernel_rfl) (by kernel_rfl) (want_0) (fun w hok => x_assign (tmB rfl rfl)) ?_
                      refine rg_done (oks_drop hS 2 rfl) (by kernel_rfl) ?_
                      refine then_n (hK10 _ _ ?_); clear hK10 K10
                      refine wp_ret ?_
                      refine ret1 rfl (.tmp rfl (show _ = Value.bool _ from rfl)) ?_
                      exact ⟨rfl, hS.kp.below⟩
                   have hg9_17' := hg9_17; (try simp only [nrm] at hg9_17'); try (exfalso; first | with_reducible exact absurd hg9_17 Bool.false_ne_true | with_reducible exact absurd hg9_17.symm Bool.false_ne_true | omega | (simp at hg9_17; done))
                   all_goals
                    refine rg_skip 18 rfl rfl (by kernel_rfl) (by kernel_rfl) (by kernel_rfl) (want_n rfl rfl rfl rfl (by rw [hg9_17]; rfl)) ?_
                    refine rg_take 19 rfl rfl (by kernel_rfl) (by kernel_rfl) (by kernel_rfl) (want_0) (fun w hok => x_pickF (tmB rfl rfl) hg9_17 ev_c) ?_
                    refine rg_take 20 rfl rfl (by kernel_rfl) (by kernel_rfl) (by kernel_rfl) (want_0) (fun w hok => x_assign (tmB rfl rfl)) ?_
                    refine rg_done (oks_drop hS 2 rfl) (by kernel_rfl) ?_
                    refine then_n (hK10 _ _ ?_); clear hK10 K10
                    refine wp_ret ?_
                    refine ret1 rfl (.tmp rfl (show _ = Value.bool _ from rfl)) ?_
                    exact ⟨rfl, hS.kp.below⟩
                have hg9_13' := hg9_13; (try simp only [nrm] at hg9_13'); try (exfalso; first | with_reducible exact absurd hg9_13 Bool.false_ne_true | with_reducible exact absurd hg9_13.symm Bool.false_ne_true | omega | (simp at hg9_13; done))
                all_goals
                 refine rg_skip 14 rfl rfl (by kernel_rfl) (by kernel_rfl) (by kernel_rfl) (want_n rfl rfl rfl rfl (by rw [hg9_13]; rfl)) ?_
                 refine rg_skip 15 rfl rfl (by kernel_rfl) (by kernel_rfl) (by kernel_rfl) (want_n rfl rfl rfl rfl (by rw [hg9_13]; rfl)) ?_
                 refine rg_take 16 rfl rfl (by kernel_rfl) (by kernel_rfl) (by kernel_rfl) (want_0) (fun w hok => x_pickF (tmB rfl rfl) hg9_13 ev_c) ?_
                 refine rg_take 17 rfl rfl (by kernel_rfl) (by kernel_rfl) (by kernel_rfl) (want_0) (fun w hok => x_move (tmB rfl rfl)) ?_
                 refine rg_skip 18 rfl rfl (by kernel_rfl) (by kernel_rfl) (by kernel_rfl) (want_n rfl rfl rfl rfl rfl) ?_
                 refine rg_take 19 rfl rfl (by kernel_rfl) (by kernel_rfl) (by kernel_rfl) (want_0) (fun w hok => x_pickF (tmB rfl rfl) rfl ev_c) ?_
                 refine rg_take 20 rfl rfl (by kernel_rfl) (by kernel_rfl) (by kernel_rfl) (want_0) (fun w hok => x_assign (tmB rfl rfl)) ?_
                 refine rg_done (oks_drop hS 2 rfl) (by kernel_rfl) ?_
                 refine then_n (hK10 _ _ ?_); clear hK10 K10
                 refine wp_ret ?_
                 refine ret1 rfl (.tmp rfl (show _ = Value.bool _ from rfl)) ?_
                 exact ⟨rfl, hS.kp.below⟩
             have hg9_7' := hg9_7; (try simp only [nrm] at hg9_7'); try (exfalso; first | with_reducible exact absurd hg9_7 Bool.false_ne_true | with_reducible exact absurd hg9_7.symm Bool.false_ne_true | omega | (simp at hg9_7; done))
             all_goals
              refine rg_skip 8 rfl rfl (by kernel_rfl) (by kernel_rfl) (by kernel_rfl) (want_n rfl rfl rfl rfl (by rw [hg9_7]; rfl)) ?_
              refine rg_skip 9 rfl rfl (by kernel_rfl) (by kernel_rfl) (by kernel_rfl) (want_n rfl rfl rfl rfl (by rw [hg9_7]; rfl)) ?_
              refine rg_skip 10 rfl rfl (by kernel_rfl) (by kernel_rfl) (by kernel_rfl) (want_n rfl rfl rfl rfl (by rw [hg9_7]; rfl)) ?_
              refine rg_skip 11 rfl rfl (by kernel_rfl) (by kernel_rfl) (by kernel_rfl) (want_n rfl rfl rfl rfl (by rw [hg9_7]; rfl)) ?_
              refine rg_take 12 rfl rfl (by kernel_rfl) (by kernel_rfl) (by kernel_rfl) (want_0) (fun w hok => x_pickF (tmB rfl rfl) hg9_7 ev_c) ?_
              refine rg_take 13 rfl rfl (by kernel_rfl) (by kernel_rfl) (by kernel_rfl) (want_0) (fun w hok => x_move (tmB rfl rfl)) ?_
              refine rg_skip 14 rfl rfl (by kernel_rfl) (by kernel_rfl) (by kernel_rfl) (want_n rfl rfl rfl rfl rfl) ?_
              refine rg_skip 15 rfl rfl (by kernel_rfl) (by kernel_rfl) (by kernel_rfl) (want_n rfl rfl rfl rfl rfl) ?_
              refine rg_take 16 rfl rfl (by kernel_rfl) (by kernel_rfl) (by kernel_rfl) (want_0) (fun w hok => x_pickF (tmB rfl rfl) rfl ev_c) ?_
              refine rg_take 17 rfl rfl (by kernel_rfl) (by kernel_rfl) (by kernel_rfl) (want_0) (fun w hok => x_move (tmB rfl rfl)) ?_
              refine rg_skip 18 rfl rfl (by kernel_rfl) (by kernel_rfl) (by kernel_rfl) (want_n rfl rfl rfl rfl rfl) ?_
              refine rg_take 19 rfl rfl (by kernel_rfl) (by kernel_rfl) (by kernel_rfl) (want_0) (fun w hok => x_pickF (tmB rfl rfl) rfl ev_c) ?_
              refine rg_take 20 rfl rfl (by kernel_rfl) (by kernel_rfl) (by kernel_rfl) (want_0) (fun w hok => x_assign (tmB rfl rfl)) ?_
              refine rg_done (oks_drop hS 2 rfl) (by kernel_rfl) ?_
              refine then_n (hK10 _ _ ?_); clear hK10 K10
              refine wp_ret ?_
              refine ret1 rfl (.tmp rfl (show _ = Value.bool _ from rfl)) ?_
              exact ⟨rfl, hS.kp.below⟩
    · skip
      refine ent (n := 53) Try.func8 rfl rfl ?_
      refine wp_seq_k ?_; intro K1 hK1
      refine wlit ?_
      refine wl_e rfl ?_; intro K hK
      refine ow_box hS (tmA rfl rfl) rfl ?_
      clear hS; intro g0_0 w hg0_0 hS
      refine hK _ _ ?_; clear hK K
      refine wl_v (x_assign ev_c) ?_
      refine wl_nil ?_
      refine then_n (hK1 _ _ ?_); clear hK1 K1
      refine wp_seq_k ?_; intro K2 hK2
      refine wp_seq_k ?_; intro K3 hK3
      refine wlit ?_
      refine wl_v (x_loadA (cs := [_, _, _, _, _, _, _, _, _, _]) Try.underlying66 rfl ts_66 (tmP rfl rfl) (rangeB hS.ok 0 rfl rfl)) ?_
      refine wl_e rfl ?_; intro K hK
      refine ow_call Try.func47 rfl rfl (evs_cons (tmA rfl rfl) <| evs_nil) (light06_c _ _ _ _ _ _ _ _ _ _ _ _ _ _ _) ?_
      rintro e w ⟨rfl, hk⟩
      refine ⟨_, rfl, ?_⟩
      replace hS := hS.kept hk
      clear hk
      refine hK _ _ ?_; clear hK K
      refine wl_v (x_not (tmB rfl rfl)) ?_
      refine wl_nil ?_
      refine then_n (hK3 _ _ ?_); clear hK3 K3
      refine cnd (tm rfl) (fun hc0 => ?_) (fun hc0 => ?_)
      · exfalso
        simp at hc0
        omega
      try (exfalso; first | with_reducible exact absurd hc0 Bool.false_ne_true | with_reducible exact absurd hc0.symm Bool.false_ne_true | (simp only [nrm] at hc0; omega) | (simp at hc0; done))
      all_goals
       try simp only [nrm] at hc0
       refine wp_skip ?_
       refine then_n (hK2 _ _ ?_); clear hK2 K2
       refine wp_seq_k ?_; intro K4 hK4
       refine wlit ?_
       refine wl_v (x_loadA (cs := [_, _, _, _, _, _, _, _, _, _]) Try.underlying66 rfl ts_66 (tmP rfl rfl) (rangeB hS.ok 0 rfl rfl)) ?_
       refine wl_e rfl ?_; intro K hK
       refine ow_call Try.func48 rfl rfl (evs_cons (tmA rfl rfl) <| evs_nil) (to06_c _ _ _ _ _ _ _ _ _ _ _ _ _ _ _) ?_
       rintro e w ⟨rfl, hk⟩
       refine ⟨_, rfl, ?_⟩
       replace hS := hS.kept hk
       clear hk
       refine hK _ _ ?_; clear hK K
       refine wl_e rfl ?_; intro K hK
       refine ow_alloc hS tz_63 rfl ?_
       clear hS; intro g3_2 w hg3_2 hS
       refine hK _ _ ?_; clear hK K
       refine wl_e rfl ?_; intro K hK
       refine ow_storeA hS 0 rfl ts_63 (tmP rfl rfl) (tmA rfl rfl) rfl rfl rfl ?_
       clear hS; intro w hS
       refine hK _ _ ?_; clear hK K
       refine wl_nil ?_
       refine then_n (hK4 _ _ ?_); clear hK4 K4
       refine wp_seq_k ?_; intro K5 hK5
       refine wp_seq_k ?_; intro K6 hK6
       refine rg_startk 0 hS mixed_ ?_
       clear hS; intro w hS
       refine rg_take 0 rfl rfl (by kernel_rfl) (by kernel_rfl) (by kernel_rfl) (want_0) (fun w hok => x_loadA (cs := [_, _, _, _, _, _, _, _, _, _]) Try.underlying63 rfl ts_63 (tmP rfl rfl) (rangeB hok 0 rfl rfl)) ?_
       refine rg_take 2 rfl rfl (by kernel_rfl) (by kernel_rfl) (by kernel_rfl) (want_0) (fun w hok => x_loadA (cs := [_, _, _, _, _, _, _, _, _, _]) Try.underlying66 rfl ts_66 (tmP rfl rfl) (rangeB hok 1 rfl rfl)) ?_
       refine rg_step 1 rfl (by kernel_rfl) (want_0) (oks_drop hS 0 rfl) ?_; intro K hK
       refine ow_call Try.func49 rfl rfl (evs_cons (tmA rfl rfl) <| evs_nil) (tcp_right_c _ _ _ _ _ _ _ _ _ _ _ _ _ _ _ (by omega) (by omega)) ?_
       rintro e w ⟨rfl, hk⟩
       refine ⟨_, rfl, ?_⟩
       replace hS := hS.kept hk
       clear hk
       refine hK _ _ ?_; clear hK K
       refine rg_step 3 rfl (by kernel_rfl) (want_0) (oks_drop hS 0 rfl) ?_; intro K hK
       refine ow_call Try.func50 rfl rfl (evs_cons (tmA rfl rfl) <| evs_nil) (rtcp_right_c _ _ _ _ _ _ _ _ _ _ _ _ _ _ _ (by omega) (by omega)) ?_
       rintro e w ⟨rfl, hk⟩
       refine ⟨_, rfl, ?_⟩
       replace hS := hS.kept hk
       clear hk
       refine hK _ _ ?_; clear hK K
       refine rg_take 4 rfl rfl (by kernel_rfl) (by kernel_rfl) (by kernel_rfl) (want_0) (fun w hok => x_bneq Try.underlying4 (tmB rfl rfl) (tmB rfl rfl)) ?_
       refine rg_done (oks_drop hS 0 rfl) (by kernel_rfl) ?_
       refine then_n (hK6 _ _ ?_); clear hK6 K6
       refine cnd (tm rfl) (fun hc1 => ?_) (fun hc1 => ?_)
       · exfalso
         simp at hc1
       try (exfalso; first | with_reducible exact absurd hc1 Bool.false_ne_true | with_reducible exact absurd hc1.symm Bool.false_ne_true | (simp only [nrm] at hc1; omega) | (simp at hc1; done))
       all_goals
        try simp only [nrm] at hc1
        refine wp_skip ?_
        refine then_n (hK5 _ _ ?_); clear hK5 K5
        refine wp_seq_k ?_; intro K7 hK7
        refine wp_seq_k ?_; intro K8 hK8
        refine wlit ?_
        refine wl_v (x_loadA (cs := [_, _, _, _, _, _, _, _, _, _]) Try.underlying66 rfl ts_66 (tmP rfl rfl) (rangeB hS.ok 1 rfl rfl)) ?_
        refine wl_e rfl ?_; intro K hK
        refine ow_call Try.func50 rfl rfl (evs_cons (tmA rfl rfl) <| evs_nil) (rtcp_right_c _ _ _ _ _ _ _ _ _ _ _ _ _ _ _ (by omega) (by omega)) ?_
        rintro e w ⟨rfl, hk⟩
        refine ⟨_, rfl, ?_⟩
        replace hS := hS.kept hk
        clear hk
        refine hK _ _ ?_; clear hK K
        refine wl_v (x_not (tmB rfl rfl)) ?_
        refine wl_nil ?_
        refine then_n (hK8 _ _ ?_); clear hK8 K8
        refine cnds (tm rfl) (fun hc2 => ?_) (fun hc2 => ?_)
        · exfalso
          simp at hc2
          exact hr hc2
        try (exfalso; first | with_reducible exact absurd hc2 Bool.false_ne_true | with_reducible exact absurd hc2.symm Bool.false_ne_true | (simp only [nrm] at hc2; omega) | (simp at hc2; done))
        all_goals
         try simp only [nrm] at hc2
         refine wp_seq_k ?_; intro K9 hK9
         refine wlit ?_
         refine wl_v (x_loadA (cs := [_, _, _, _, _, _, _, _, _, _]) Try.underlying63 rfl ts_63 (tmP rfl rfl) (rangeB hS.ok 0 rfl rfl)) ?_
         refine wl_e rfl ?_; intro K hK
         refine ow_call Try.func51 rfl rfl (evs_cons (tmA rfl rfl) <| evs_nil) (tcp_nobytes_c _ _ _ _ _ _ _ _ _ _ _ _ _ _ _ (by omega) (by omega) hr) ?_
         rintro e w ⟨rfl, hk⟩
         refine ⟨_, rfl, ?_⟩
         replace hS := hS.kept hk
         clear hk
         refine hK _ _ ?_; clear hK K
         refine wl_v (x_len Try.underlying22 (tmS rfl rfl)) ?_
         refine wl_v (x_eql (tmI rfl rfl) (ev_cN 0)) ?_
         refine wl_v (x_move (tmB rfl rfl)) ?_
         refine gs_wl (tm (t := 24) rfl) (fun hg7_4 => ?_) (fun hg7_4 => ?_)
         · have hg7_4' := hg7_4; (try simp only [nrm] at hg7_4'); try (exfalso; first | with_reducible exact absurd hg7_4 Bool.false_ne_true | with_reducible exact absurd hg7_4.symm Bool.false_ne_true | omega | (simp at hg7_4; done))
           all_goals
            refine wl_g (want_y rfl rfl rfl rfl (by rw [hg7_4]; rfl)) ?_; intro K hK
            refine ow_call Try.func42 rfl rfl (evs_nil) (law06_awake_c _) ?_
            rintro e w ⟨rfl, hk⟩
            refine ⟨_, rfl, ?_⟩
            replace hS := hS.kept hk
            clear hk
            refine hK _ _ ?_; clear hK K
            refine wl_v (x_pickT (tmB rfl rfl) hg7_4 (tmB rfl rfl)) ?_
            refine wl_v (x_assign (tmB rfl rfl)) ?_
            refine wl_nil ?_
            refine then_n (hK9 _ _ ?_); clear hK9 K9
            refine wp_ret ?_
            refine then_r ?_
            refine ret1 rfl (.tmp rfl (show _ = Value.bool _ from rfl)) ?_
            exact ⟨rfl, hS.kp.below⟩
         have hg7_4' := hg7_4; (try simp only [nrm] at hg7_4'); try (exfalso; first | with_reducible exact absurd hg7_4 Bool.false_ne_true | with_reducible exact absurd hg7_4.symm Bool.false_ne_true | omega | (simp at hg7_4; done))
         all_goals
          refine wl_s rfl (want_n rfl rfl rfl rfl (by rw [hg7_4]; rfl)) ?_
          refine wl_v (x_pickF (tmB rfl rfl) hg7_4 ev_c) ?_
          refine wl_v (x_assign (tmB rfl rfl)) ?_
          refine wl_nil ?_
          refine then_n (hK9 _ _ ?_); clear hK9 K9
          refine wp_ret ?_
          refine then_r ?_
          refine ret1 rfl (.tmp rfl (show _ = Value.bool _ from rfl)) ?_
          exact ⟨rfl, hS.kp.below⟩
  · skip
    refine ent (n := 53) Try.func8 rfl rfl ?_
    refine wp_seq_k ?_; intro K1 hK1
    refine wlit ?_
    refine wl_e rfl ?_; intro K hK
    refine ow_box hS (tmA rfl rfl) rfl ?_
    clear hS; intro g0_0 w hg0_0 hS
    refine hK _ _ ?_; clear hK K
    refine wl_v (x_assign ev_c) ?_
    refine wl_nil ?_
    refine then_n (hK1 _ _ ?_); clear hK1 K1
    refine wp_seq_k ?_; intro K2 hK2
    refine wp_seq_k ?_; intro K3 hK3
    refine wlit ?_
    refine wl_v (x_loadA (cs := [_, _, _, _, _, _, _, _, _, _]) Try.underlying66 rfl ts_66 (tmP rfl rfl) (rangeB hS.ok 0 rfl rfl)) ?_
    refine wl_e rfl ?_; intro K hK
    refine ow_call Try.func47 rfl rfl (evs_cons (tmA rfl rfl) <| evs_nil) (light06_c _ _ _ _ _ _ _ _ _ _ _ _ _ _ _) ?_
    rintro e w ⟨rfl, hk⟩
    refine ⟨_, rfl, ?_⟩
    replace hS := hS.kept hk
    clear hk
    refine hK _ _ ?_; clear hK K
    refine wl_v (x_not (tmB rfl rfl)) ?_
    refine wl_nil ?_
    refine then_n (hK3 _ _ ?_); clear hK3 K3
    refine cnds (tm rfl) (fun hc0 => ?_) (fun hc0 => ?_)
    · exfalso
      simp at hc0
      omega
    try (exfalso; first | with_reducible exact absurd hc0 Bool.false_ne_true | with_reducible exact absurd hc0.symm Bool.false_ne_true | (simp only [nrm] at hc0; omega) | (simp at hc0; done))
    all_goals
     try simp only [nrm] at hc0
     refine wp_seq_k ?_; intro K4 hK4
     refine wlit ?_
     refine wl_e rfl ?_; intro K hK
     refine ow_call Try.func42 rfl rfl (evs_nil) (law06_awake_c _) ?_
     rintro e w ⟨rfl, hk⟩
     refine ⟨_, rfl, ?_⟩
     replace hS := hS.kept hk
     clear hk
     refine hK _ _ ?_; clear hK K
     refine wl_v (x_assign (tmB rfl rfl)) ?_
     refine wl_nil ?_
     refine then_n (hK4 _ _ ?_); clear hK4 K4
     refine wp_ret ?_
     refine then_r ?_
     refine ret1 rfl (.tmp rfl (show _ = Value.bool _ from rfl)) ?_
     exact ⟨rfl, hS.kp.below⟩
set_option maxRecDepth 100000 in
theorem walk (v : Value) (w0 : World) {H : Type} {enc : TypeId × Value → H} {r : Reach} {b0 : Nat} {d : DataW H} {ps : List MemPlace} (hval : Value.okWide Try.prog w0 r b0 66 v) (hd : DataW.Trod enc Try.prog w0 0 (fun _ => true) true 66 v d ps) (hlt : ∀ p ∈ ps, p.block < w0.heap.size) :
    Calls Try.prog 8 #[v] w0 fun e w' => e = .returned (.bool true) ∧ Below w0.heap.size w0 w' := by
  obtain ⟨s, rfl, hs⟩ := RSeg.open_a hval hd hlt
  obtain ⟨a1, a2, a3, a4, a5, a6, a7, a8, ⟨O, o, c⟩, ⟨L, x, d⟩⟩ := s
  obtain ⟨q1, q2, q3, q4, q5, q6, q7, q8, ⟨_, _, hob, hov⟩, ⟨_, _, hxb, hxv⟩⟩ := hs
  exact walkC a1 a2 a3 a4 a5 a6 a7 a8 O c L d o x w0 q1 q2 q3 q4 q5 q6 q7 q8 hob hov hxb hxv
end TcpWrites
end Go.Proofs.Ytfagblcepibliaa
