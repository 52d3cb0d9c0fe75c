
/- Proved: CodecOps returns true for every operation and bytes, and changes no memory that was there. Conditions: none. -/
import Derived.Test.YtoaodcbfehfdoaaCoK
import Derived.Test.YtoaodcbfehfdoaaArgs
namespace Go.Proofs.Ytoaodcbfehfdoaa
open Go.ChangeShapes Go.WideShapes Go.ChangeAt Go.RowKit
structure GMm where
  backend : Int
  weight : Int
def GMm.V (s : GMm) : List Value := [.int .i64 s.backend, .int .i64 s.weight]
theorem GMm.len (s : GMm) : s.V.length = 2 := rfl
def GMm.ok (w : World) (s : GMm) : Prop := (-9223372036854775808 ≤ s.backend ∧ s.backend ≤ 9223372036854775807) ∧ (-9223372036854775808 ≤ s.weight ∧ s.weight ≤ 9223372036854775807)
instance : Inhabited GMm := ⟨⟨0, 0⟩⟩
set_option maxRecDepth 100000 in
theorem GMm.open_t {H : Type} {enc : TypeId × Value → H} {w : World} {fuel : Nat} {cs : List Value} {x : DataW H × List MemPlace} (hf : DataW.trod enc Try.prog w 0 (fun _ => true) true fuel 65 cs = some x) (hlt : ∀ p ∈ x.2, p.block < w.heap.size) : ∃ s : GMm, cs = s.V ∧ s.ok w := by
  have hC : Try.prog.cellsOf 65 = 2 := by kernel_rfl
  have hl := (DataW.trod_struct Try.underlying65 hf).choose_spec.choose_spec.2.2.1
  rw [hC] at hl
  obtain ⟨y0, k0, t0, b0⟩ := field_t Try.underlying65 hf hlt 0 _ rfl
  have hC0 : Try.prog.cellsOf 3 = 1 := by kernel_rfl
  obtain ⟨s0, e0, o0⟩ := t_i64 Try.underlying3 t0 b0
  have d0 := split_drop cs 0 1 (hC0 ▸ e0)
  obtain ⟨y1, k1, t1, b1⟩ := field_t Try.underlying65 hf hlt 1 _ rfl
  have hC1 : Try.prog.cellsOf 3 = 1 := by kernel_rfl
  obtain ⟨s1, e1, o1⟩ := t_i64 Try.underlying3 t1 b1
  have d1 := split_drop cs 1 1 (hC1 ▸ e1)
  refine ⟨⟨s0, s1⟩, ?_, ⟨o0, o1⟩⟩
  have dn : cs.drop 2 = [] := List.drop_eq_nil_of_le (by omega)
  rw [← List.drop_zero (l := cs)]
  refine d0.trans ?_
  rw [show cs.drop (0 + 1) = _ from d1]
  rw [show cs.drop (1 + 1) = [] from dn]
  rfl
set_option maxRecDepth 100000 in
theorem GMm.open_a {H : Type} {enc : TypeId × Value → H} {w : World} {r : Reach} {b0 : Nat} {v : Value} {d : DataW H} {ps : List MemPlace} (hval : Value.okWide Try.prog w r b0 65 v) (hd : DataW.Trod enc Try.prog w 0 (fun _ => true) true 65 v d ps) (hlt : ∀ p ∈ ps, p.block < w.heap.size) : ∃ s : GMm, v = .agg s.V.toArray ∧ s.ok w := by
  obtain ⟨cs, rfl, _⟩ := okWide_struct Try.underlying65 hval
  obtain ⟨fuel, hf⟩ := hd
  obtain ⟨s, e, h⟩ := GMm.open_t hf hlt
  exact ⟨s, by rw [← e]; simp [Value.cells], h⟩
structure GOp where
  kind : Int
  vip : Int
  backend : Int
  version : Int
  addr : Ad
  port : Nat
  proto : Nat
  way : Int
  members : Sl GMm
def GOp.V (s : GOp) : List Value := [.int .i64 s.kind, .int .i64 s.vip, .int .i64 s.backend, .int .i64 s.version, .bool s.addr.six, .int .u64 (s.addr.high : Int), .int .u64 (s.addr.low : Int), .int .u16 (s.port : Int), .int .u8 (s.proto : Int), .int .i64 s.way, .slice s.members.a s.members.l.length s.members.c]
theorem GOp.len (s : GOp) : s.V.length = 11 := rfl
def GOp.ok (w : World) (s : GOp) : Prop := (-9223372036854775808 ≤ s.kind ∧ s.kind ≤ 9223372036854775807) ∧ (-9223372036854775808 ≤ s.vip ∧ s.vip ≤ 9223372036854775807) ∧ (-9223372036854775808 ≤ s.backend ∧ s.backend ≤ 9223372036854775807) ∧ (-9223372036854775808 ≤ s.version ∧ s.version ≤ 9223372036854775807) ∧ s.addr.ok w ∧ s.port < 65536 ∧ s.proto < 256 ∧ (-9223372036854775808 ≤ s.way ∧ s.way ≤ 9223372036854775807) ∧ okS w GMm.V (fun r => r.ok w) s.members
instance : Inhabited GOp := ⟨⟨0, 0, 0, 0, default, 0, 0, 0, default⟩⟩
set_option maxRecDepth 100000 in
theorem GOp.open_t {H : Type} {enc : TypeId × Value → H} {w : World} {fuel : Nat} {cs : List Value} {x : DataW H × List MemPlace} (hf : DataW.trod enc Try.prog w 0 (fun _ => true) true fuel 28 cs = some x) (hlt : ∀ p ∈ x.2, p.block < w.heap.size) : ∃ s : GOp, cs = s.V ∧ s.ok w := by
  have hC : Try.prog.cellsOf 28 = 11 := by kernel_rfl
  have hl := (DataW.trod_struct Try.underlying28 hf).choose_spec.choose_spec.2.2.1
  rw [hC] at hl
  obtain ⟨y0, k0, t0, b0⟩ := field_t Try.underlying28 hf hlt 0 _ rfl
  have hC0 : Try.prog.cellsOf 3 = 1 := by kernel_rfl
  obtain ⟨s0, e0, o0⟩ := t_i64 Try.underlying3 t0 b0
  have d0 := split_drop cs 0 1 (hC0 ▸ e0)
  obtain ⟨y1, k1, t1, b1⟩ := field_t Try.underlying28 hf hlt 1 _ rfl
  have hC1 : Try.prog.cellsOf 3 = 1 := by kernel_rfl
  obtain ⟨s1, e1, o1⟩ := t_i64 Try.underlying3 t1 b1
  have d1 := split_drop cs 1 1 (hC1 ▸ e1)
  obtain ⟨y2, k2, t2, b2⟩ := field_t Try.underlying28 hf hlt 2 _ rfl
  have hC2 : Try.prog.cellsOf 3 = 1 := by kernel_rfl
  obtain ⟨s2, e2, o2⟩ := t_i64 Try.underlying3 t2 b2
  have d2 := split_drop cs 2 1 (hC2 ▸ e2)
  obtain ⟨y3, k3, t3, b3⟩ := field_t Try.underlying28 hf hlt 3 _ rfl
  have hC3 : Try.prog.cellsOf 3 = 1 := by kernel_rfl
  obtain ⟨s3, e3, o3⟩ := t_i64 Try.underlying3 t3 b3
  have d3 := split_drop cs 3 1 (hC3 ▸ e3)
  obtain ⟨y4, k4, t4, b4⟩ := field_t Try.underlying28 hf hlt 4 _ rfl
  have hC4 : Try.prog.cellsOf 24 = 3 := by kernel_rfl
  obtain ⟨s4, e4, o4⟩ := Ad.open_t t4 b4
  have d4 := split_drop cs 4 3 (hC4 ▸ e4)
  obtain ⟨y5, k5, t5, b5⟩ := field_t Try.underlying28 hf hlt 5 _ rfl
  have hC5 : Try.prog.cellsOf 25 = 1 := by kernel_rfl
  obtain ⟨s5, e5, o5⟩ := t_u16 Try.underlying25 t5 b5
  have d5 := split_drop cs 7 1 (hC5 ▸ e5)
  obtain ⟨y6, k6, t6, b6⟩ := field_t Try.underlying28 hf hlt 6 _ rfl
  have hC6 : Try.prog.cellsOf 5 = 1 := by kernel_rfl
  obtain ⟨s6, e6, o6⟩ := t_u8 Try.underlying5 t6 b6
  have d6 := split_drop cs 8 1 (hC6 ▸ e6)
  obtain ⟨y7, k7, t7, b7⟩ := field_t Try.underlying28 hf hlt 7 _ rfl
  have hC7 : Try.prog.cellsOf 3 = 1 := by kernel_rfl
  obtain ⟨s7, e7, o7⟩ := t_i64 Try.underlying3 t7 b7
  have d7 := split_drop cs 9 1 (hC7 ▸ e7)
  obtain ⟨y8, k8, t8, b8⟩ := field_t Try.underlying28 hf hlt 8 _ rfl
  have hC8 : Try.prog.cellsOf 26 = 1 := by kernel_rfl
  obtain ⟨s8, e8, o8⟩ := t_sl (V := GMm.V) (ok := fun r => r.ok w) Try.underlying26 2 (by kernel_rfl) (by omega) GMm.open_t t8 b8
  have d8 := split_drop cs 10 1 (hC8 ▸ e8)
  refine ⟨⟨s0, s1, s2, s3, s4, s5, s6, s7, s8⟩, ?_, ⟨o0, o1, o2, o3, o4, o5, o6, o7, o8⟩⟩
  have dn : cs.drop 11 = [] := List.drop_eq_nil_of_le (by omega)
  rw [← List.drop_zero (l := cs)]
  refine d0.trans ?_
  rw [show cs.drop (0 + 1) = _ from d1]
  rw [show cs.drop (1 + 1) = _ from d2]
  rw [show cs.drop (2 + 1) = _ from d3]
  rw [show cs.drop (3 + 1) = _ from d4]
  rw [show cs.drop (4 + 3) = _ from d5]
  rw [show cs.drop (7 + 1) = _ from d6]
  rw [show cs.drop (8 + 1) = _ from d7]
  rw [show cs.drop (9 + 1) = _ from d8]
  rw [show cs.drop (10 + 1) = [] from dn]
  rfl
set_option maxRecDepth 100000 in
theorem GOp.open_a {H : Type} {enc : TypeId × Value → H} {w : World} {r : Reach} {b0 : Nat} {v : Value} {d : DataW H} {ps : List MemPlace} (hval : Value.okWide Try.prog w r b0 28 v) (hd : DataW.Trod enc Try.prog w 0 (fun _ => true) true 28 v d ps) (hlt : ∀ p ∈ ps, p.block < w.heap.size) : ∃ s : GOp, v = .agg s.V.toArray ∧ s.ok w := by
  obtain ⟨cs, rfl, _⟩ := okWide_struct Try.underlying28 hval
  obtain ⟨fuel, hf⟩ := hd
  obtain ⟨s, e, h⟩ := GOp.open_t hf hlt
  exact ⟨s, by rw [← e]; simp [Value.cells], h⟩
namespace CodecOps
theorem opr_same {w1 w1' w2 w2' : World} {l : List Nat} {n : Nat} {h1 h2 : Hp} {L1 L2 : Option Addr} {n1 n2 : Nat} {l1 l2 : List Mm} (a : OpR w1 w1' l n h1 L1 n1 l1) (b : OpR w2 w2' l n h2 L2 n2 l2) : h1 = h2 ∧ l1 = l2 ∧ n1 = n2 := by
  obtain ⟨_, a2, a3⟩ := a
  obtain ⟨_, b2, b3⟩ := b
  have h : h1 = h2 ∧ l1 = l2 := by
    rcases a3 with ⟨o, d, e⟩ | ⟨o, d, e⟩
    · rcases b3 with ⟨o', d', e'⟩ | ⟨o', d', e'⟩
      · exact ⟨d.trans d'.symm, e.trans e'.symm⟩
      · exact absurd o o'
    · rcases b3 with ⟨o', d', e'⟩ | ⟨o', d', e'⟩
      · exact absurd o' o
      · exact ⟨d.trans d'.symm, e.trans e'.symm⟩
  refine ⟨h.1, h.2, ?_⟩
  rw [← a2, ← b2, h.2]
theorem opr_le {w1 w1' : World} {l : List Nat} {n : Nat} {h1 : Hp} {L1 : Option Addr} {n1 : Nat} {l1 : List Mm} (a : OpR w1 w1' l n h1 L1 n1 l1) : n1 ≤ 64 := by
  obtain ⟨_, a2, ⟨o, _, e⟩ | ⟨_, _, e⟩⟩ := a
  · rw [← a2, e, pms_len]; exact o.2.1
  · rw [← a2, e]; exact Nat.zero_le _
theorem opE_bytes (h : Hp) (l : List Mm) (hok : okOp h l) (hlim : hpLim h) : Bytes (opE h l) := by
  obtain ⟨hms, ⟨o1, o2, o3, o4, o5⟩, o6, o7⟩ := hok
  have hq := hlim.2.2
  have ht : ∀ z, okI z → z.toNat < 256 := fun z hz => by have := hz.1; have := hz.2; omega
  have hn := adN_le h.a
  intro x hx
  unfold opE at hx
  rcases List.mem_append.1 hx with hx | hx
  · rcases List.mem_append.1 hx with hx | hx
    · rcases List.mem_append.1 hx with hx | hx
      · rcases List.mem_append.1 hx with hx | hx
        · simp only [tn, List.map_cons, List.map_nil, List.mem_cons, List.not_mem_nil, or_false] at hx
          rcases hx with rfl | rfl | rfl | rfl
          · exact ht _ o1
          · exact ht _ o2
          · exact ht _ o3
          · exact ht _ o4
        · rcases List.mem_cons.1 hx with rfl | hx
          · omega
          · exact adB_bytes _ x hx
      · exact be_bytes _ _ x hx
    · simp only [tn, List.map_cons, List.map_nil, List.mem_cons, List.not_mem_nil, or_false, Int.toNat_natCast] at hx
      rcases hx with rfl | rfl
      · omega
      · exact ht _ o5
  · rcases List.mem_cons.1 hx with rfl | hx
    · omega
    · unfold msE at hx
      obtain ⟨y, hy, hxy⟩ := List.mem_flatten.1 hx
      obtain ⟨p, hp, rfl⟩ := List.mem_map.1 hy
      have := hms p hp
      simp only [List.mem_cons, List.not_mem_nil, or_false] at hxy
      rcases hxy with rfl | rfl
      · exact ht _ this.1
      · exact ht _ this.2
theorem op_any_c (h : Hp) (L : Option Addr) (n c : Nat) (l : List Mm) (w0 : World) (hv : View w0 w0.heap.size L (flat mmV l)) (hl : l.length = n) (hn : n ≤ 1000) (hlim : hpLim h) :
    Calls Try.prog 12 #[.agg (opV h L n c).toArray] w0 fun e w' => ∃ G m cg l3, e = .returned (.slice G m cg) ∧ NewV w0 w' G (l3.map u8v) ∧ l3.length = m ∧ m ≤ 200 ∧ Bytes l3 ∧ (okOp h l → l3 = opE h l) ∧ (¬ okOp h l → m = 0) ∧ Kp [] w0 w' := by
  by_cases hok : okOp h l
  · refine Calls.mono (coop_c h L n c l w0 hv hl hlim hok) ?_
    rintro e w' ⟨G, m, cg, rfl, hm, hn', hk⟩
    refine ⟨G, m, cg, opE h l, rfl, New.view hn', hm.symm, ?_, opE_bytes h l hok hlim, fun _ => rfl, fun h => absurd hok h, hk⟩
    have := hok.2.2.2
    have := adN_le h.a
    rw [hm, opE_len]
    omega
  · refine Calls.mono (coop_no_c h L n c l w0 hv hl hn hlim hok) ?_
    rintro e w' ⟨rfl, hk⟩
    exact ⟨none, 0, 0, [], rfl, NewV.nil_ _ _ _, rfl, by omega, Bytes.nil, fun h => absurd h hok, fun _ => rfl, hk⟩
set_option maxRecDepth 100000 in
set_option maxHeartbeats 16000000 in
theorem walk_all (h : Hp) (L : Option Addr) (n c : Nat) (l : List Mm) (B : Option Addr) (nb cb : Nat) (b : List Nat) (w0 : World) (hv : View w0 w0.heap.size L (flat mmV l)) (hl : l.length = n) (hn : n ≤ 9223372036854775807) (hlim : hpLim h) (hvb : View w0 w0.heap.size B (b.map u8v)) (hlb : b.length = nb) (hcb : nb ≤ cb) (hbb : Bytes b) :
    Calls Try.prog 3 #[.agg (opV h L n c).toArray, .slice B nb cb] w0 fun e w' => e = .returned (.bool true) ∧ Below w0.heap.size w0 w' := by
  have hS := ((St.sv w0).vcons rfl hvb).vcons rfl hv
  refine ent (n := 95) Try.func3 rfl rfl ?_
  refine wp_seq_k ?_; intro K1 hK1
  refine wlit ?_
  refine wl_e rfl ?_; intro K hK
  refine ow_box hS (tmA rfl rfl) rfl ?_
  clear hS; intro g0_0 w hg0_0 hS
  refine hK _ _ ?_; clear hK K
  refine wl_v (x_assign ev_c) ?_
  refine wl_nil ?_
  refine then_n (hK1 _ _ ?_); clear hK1 K1
  refine wp_seq_k ?_; intro K2 hK2
  refine wp_seq_k ?_; intro K3 hK3
  refine wlit ?_
  refine wl_v (x_loadA (cs := [_, _, _, _, _, _, _, _, _, _, _]) Try.underlying28 rfl ts_28 (tmP rfl rfl) (rangeB hS.ok 0 rfl rfl)) ?_
  refine wl_e rfl ?_; intro K hK
  refine ow_build hS Try.underlying31 tz_28 (bc_takeL (tmA rfl rfl) <| bc_nil) rfl rfl (by kernel_rfl) ?_
  clear hS; intro g1_1 w hg1_1 hS
  refine hK _ _ ?_; clear hK K
  refine wl_e rfl ?_; intro K hK
  refine ow_call Try.func4 rfl rfl (evs_cons (tmS rfl rfl) <| evs_nil) (clight_c g1_1 h L n c _ (viewB hS.ok 0 rfl) hn) ?_
  rintro e w ⟨rfl, hk⟩
  refine ⟨_, rfl, ?_⟩
  replace hS := hS.kept hk
  clear hk
  refine hK _ _ ?_; clear hK K
  refine wl_v (x_not (tmB rfl rfl)) ?_
  refine wl_v (x_move (tmB rfl rfl)) ?_
  refine gs_wl (tm (t := 16) rfl) (fun hg1_4 => ?_) (fun hg1_4 => ?_)
  · have hg1_4' := hg1_4; (try simp only [nrm] at hg1_4'); try (exfalso; first | with_reducible exact absurd hg1_4 Bool.false_ne_true | with_reducible exact absurd hg1_4.symm Bool.false_ne_true | omega | (simp at hg1_4; done))
    all_goals
     refine wl_s rfl (want_n rfl rfl rfl rfl (by rw [hg1_4]; rfl)) ?_
     refine wl_s rfl (want_n rfl rfl rfl rfl (by rw [hg1_4]; rfl)) ?_
     refine wl_s rfl (want_n rfl rfl rfl rfl (by rw [hg1_4]; rfl)) ?_
     refine wl_v (x_pickT (tmB rfl rfl) hg1_4 ev_c) ?_
     refine wl_nil ?_
     refine then_n (hK3 _ _ ?_); clear hK3 K3
     refine cnd_t (tmB rfl rfl) rfl ?_
     refine wp_seq_k ?_; intro K4 hK4
     refine wlit ?_
     refine wl_e rfl ?_; intro K hK
     refine ow_call Try.func5 rfl rfl (evs_nil) (law23_awake_c _) ?_
     rintro e w ⟨rfl, hk⟩
     refine ⟨_, rfl, ?_⟩
     replace hS := hS.kept hk
     clear hk
     refine hK _ _ ?_; clear hK K
     refine wl_v (x_assign (tmB rfl rfl)) ?_
     refine wl_nil ?_
     refine then_n (hK4 _ _ ?_); clear hK4 K4
     refine wp_ret ?_
     refine then_r ?_
     refine ret1 rfl (.tmp rfl (show _ = Value.bool _ from rfl)) ?_
     first
       | exact ⟨rfl, hS.kp.below⟩
       | exact ⟨by simp_all, hS.kp.below⟩
  have hg1_4' := hg1_4; (try simp only [nrm] at hg1_4'); try (exfalso; first | with_reducible exact absurd hg1_4 Bool.false_ne_true | with_reducible exact absurd hg1_4.symm Bool.false_ne_true | omega | (simp at hg1_4; done))
  all_goals
   refine wl_gv (want_y rfl rfl rfl rfl (by rw [hg1_4]; rfl)) (x_move (tmS rfl rfl)) ?_
   refine wl_gv (want_y rfl rfl rfl rfl (by rw [hg1_4]; rfl)) (x_len Try.underlying29 (tmS rfl rfl)) ?_
   refine wl_gv (want_y rfl rfl rfl rfl (by rw [hg1_4]; rfl)) (x_gtr (tmI rfl rfl) (ev_cN 500)) ?_
   refine wl_v (x_pickF (tmB rfl rfl) hg1_4 (tmB rfl rfl)) ?_
   refine wl_nil ?_
   refine then_n (hK3 _ _ ?_); clear hK3 K3
   refine cnd (tm rfl) (fun hc0 => ?_) (fun hc0 => ?_)
   · try (exfalso; first | with_reducible exact absurd hc0 Bool.false_ne_true | with_reducible exact absurd hc0.symm Bool.false_ne_true | (simp only [nrm] at hc0; omega) | (simp at hc0; done))
     all_goals
      try simp only [nrm] at hc0
      refine wp_seq_k ?_; intro K5 hK5
      refine wlit ?_
      refine wl_e rfl ?_; intro K hK
      refine ow_call Try.func5 rfl rfl (evs_nil) (law23_awake_c _) ?_
      rintro e w ⟨rfl, hk⟩
      refine ⟨_, rfl, ?_⟩
      replace hS := hS.kept hk
      clear hk
      refine hK _ _ ?_; clear hK K
      refine wl_v (x_assign (tmB rfl rfl)) ?_
      refine wl_nil ?_
      refine then_n (hK5 _ _ ?_); clear hK5 K5
      refine wp_ret ?_
      refine then_r ?_
      refine ret1 rfl (.tmp rfl (show _ = Value.bool _ from rfl)) ?_
      first
        | exact ⟨rfl, hS.kp.below⟩
        | exact ⟨by simp_all, hS.kp.below⟩
   try (exfalso; first | with_reducible exact absurd hc0 Bool.false_ne_true | with_reducible exact absurd hc0.symm Bool.false_ne_true | (simp only [nrm] at hc0; omega) | (simp at hc0; done))
   all_goals
    try simp only [nrm] at hc0
    have hn100 : n ≤ 100 := by simpa using hg1_4
    refine wp_skip ?_
    refine then_n (hK2 _ _ ?_); clear hK2 K2
    refine wp_seq_k ?_; intro K6 hK6
    refine wlit ?_
    refine wl_v (x_move (tmS rfl rfl)) ?_
    refine wl_e rfl ?_; intro K hK
    refine ow_call Try.func6 rfl rfl (evs_cons (tmS rfl rfl) <| evs_nil) (coparse_c nb B cb b _ (viewV hS.ok 3 rfl) hlb (by omega) hbb) ?_
    rintro e w ⟨h1, L1, n1, c1, l1, er1, rfl, hF1, he1, he1', hk⟩
    refine ⟨_, rfl, ?_⟩
    replace hS := hS.addn hk hF1.1 -- +v1
    clear hk
    refine hK _ _ ?_; clear hK K
    refine wl_v (x_move (tmT rfl rfl)) ?_
    refine wl_v (x_ext (tmT rfl rfl) rfl) ?_
    refine wl_v (x_ext (tmT rfl rfl) rfl) ?_
    refine wl_e rfl ?_; intro K hK
    refine ow_alloc hS tz_35 rfl ?_
    clear hS; intro g3_5 w hg3_5 hS
    refine hK _ _ ?_; clear hK K
    refine wl_e rfl ?_; intro K hK
    refine ow_storeA hS 0 rfl ts_35 (tmP rfl rfl) (tmA rfl rfl) rfl rfl rfl ?_
    clear hS; intro w hS
    try replace hS := St.nm (M' := [.blk _ _ [_, _, _, _, _, _, _, _, _, _, _], .vw _ _, _, .blk _ _ [_, _, _, _, _, _, _, _, _, _, _], .vw _ _, .vw _ _]) hS rfl
    refine hK _ _ ?_; clear hK K
    refine wl_v (x_assign (tmI rfl rfl)) ?_
    refine wl_nil ?_
    refine then_n (hK6 _ _ ?_); clear hK6 K6
    refine wp_seq_k ?_; intro K7 hK7
    refine wlit ?_
    refine wl_v (x_move (tmS rfl rfl)) ?_
    refine wl_e rfl ?_; intro K hK
    refine ow_call Try.func7 rfl rfl (evs_cons (tmS rfl rfl) <| evs_nil) (rcoparse_c nb B cb b _ (viewV hS.ok 5 rfl) hlb hcb (by omega) hbb) ?_
    rintro e w ⟨h2, L2, n2, c2, l2, ok2, rfl, hF2, he2, hk⟩
    refine ⟨_, rfl, ?_⟩
    replace hS := hS.addn hk hF2.1 -- +v2
    clear hk
    obtain ⟨rfl, rfl, rfl⟩ := opr_same hF1 hF2
    have hn1 := opr_le hF1
    have hl1 := hF1.2.1
    have hE : (er1 = 0 ∧ ok2 = true) ∨ (er1 = 21 ∧ ok2 = false) := by
      by_cases hp : pOk b nb
      · exact .inl ⟨he1 hp, he2.2 hp⟩
      · refine .inr ⟨he1' hp, ?_⟩
        cases ok2 with
        | false => rfl
        | true => exact absurd (he2.1 rfl) hp
    clear hF1 hF2 he1 he1' he2
    refine hK _ _ ?_; clear hK K
    refine wl_v (x_move (tmT rfl rfl)) ?_
    refine wl_v (x_ext (tmT rfl rfl) rfl) ?_
    refine wl_v (x_ext (tmT rfl rfl) rfl) ?_
    refine wl_e rfl ?_; intro K hK
    refine ow_alloc hS tz_28 rfl ?_
    clear hS; intro g4_5 w hg4_5 hS
    refine hK _ _ ?_; clear hK K
    refine wl_e rfl ?_; intro K hK
    refine ow_storeA hS 0 rfl ts_28 (tmP rfl rfl) (tmA rfl rfl) rfl rfl rfl ?_
    clear hS; intro w hS
    try replace hS := St.nm (M' := [.blk _ _ [_, _, _, _, _, _, _, _, _, _, _], .vw _ _, .blk _ _ [_, _, _, _, _, _, _, _, _, _, _], .vw _ _, _, .blk _ _ [_, _, _, _, _, _, _, _, _, _, _], .vw _ _, .vw _ _]) hS rfl
    refine hK _ _ ?_; clear hK K
    refine wl_v (x_assign (tmB rfl rfl)) ?_
    refine wl_nil ?_
    refine then_n (hK7 _ _ ?_); clear hK7 K7
    refine wp_seq_k ?_; intro K8 hK8
    refine wp_seq_k ?_; intro K9 hK9
    refine rg_startk 0 hS mixed_ ?_
    clear hS; intro w hS
    refine rg_take 0 rfl rfl (by kernel_rfl) (by kernel_rfl) (by kernel_rfl) (want_0) (fun w hok => x_loadA (cs := [_, _, _, _, _, _, _, _, _, _, _]) Try.underlying35 rfl ts_35 (tmP rfl rfl) (rangeB hok 2 rfl rfl)) ?_
    refine rg_take 1 rfl rfl (by kernel_rfl) (by kernel_rfl) (by kernel_rfl) (want_0) (fun w hok => x_loadA (cs := [_, _, _, _, _, _, _, _, _, _, _]) Try.underlying28 rfl ts_28 (tmP rfl rfl) (rangeB hok 0 rfl rfl)) ?_
    refine rg_step 2 rfl (by kernel_rfl) (want_0) (oks_drop hS 0 rfl) ?_; intro K hK
    refine ow_call Try.func9 rfl rfl (evs_cons (tmA rfl rfl) <| evs_nil) (cto_c h1 L2 n1 c2 l1 _ (viewV hS.ok 1 rfl) hl1 (by omega)) ?_
    rintro e w ⟨L3, c3, rfl, hn3, _, hk⟩
    refine ⟨_, rfl, ?_⟩
    replace hS := hS.addn hk hn3 -- +v3
    clear hk hn3
    refine hK _ _ ?_; clear hK K
    refine rg_step 3 rfl (by kernel_rfl) (want_0) (oks_drop hS 1 rfl) ?_; intro K hK
    refine ow_call Try.func8 rfl rfl (evs_cons (tmA rfl rfl) <| evs_cons (tmA rfl rfl) <| evs_nil) (csame_c h1 L1 n1 c1 L3 c3 l1 _ (viewV hS.ok 4 rfl) (viewV hS.ok 0 rfl) hl1 (by omega)) ?_
    rintro e w ⟨rfl, hk⟩
    refine ⟨_, rfl, ?_⟩
    replace hS := hS.kept hk
    clear hk
    refine hK _ _ ?_; clear hK K
    refine rg_take 4 rfl rfl (by kernel_rfl) (by kernel_rfl) (by kernel_rfl) (want_0) (fun w hok => x_not (tmB rfl rfl)) ?_
    refine rg_take 5 rfl rfl (by kernel_rfl) (by kernel_rfl) (by kernel_rfl) (want_0) (fun w hok => x_move (tmB rfl rfl)) ?_
    refine gs_rg (tm (t := 37) rfl) (fun hg5_5 => ?_) (fun hg5_5 => ?_)
    · exfalso
      simp at hg5_5
    have hg5_5' := hg5_5; (try simp only [nrm] at hg5_5'); try (exfalso; first | with_reducible exact absurd hg5_5 Bool.false_ne_true | with_reducible exact absurd hg5_5.symm Bool.false_ne_true | omega | (simp at hg5_5; done))
    all_goals
     refine rg_take 6 rfl rfl (by kernel_rfl) (by kernel_rfl) (by kernel_rfl) (want_y rfl rfl rfl rfl (by rw [hg5_5]; rfl)) (fun w hok => x_move (tmI rfl rfl)) ?_
     refine rg_take 7 rfl rfl (by kernel_rfl) (by kernel_rfl) (by kernel_rfl) (want_y rfl rfl rfl rfl (by rw [hg5_5]; rfl)) (fun w hok => x_eql (tmI rfl rfl) (ev_cN 0)) ?_
     refine rg_take 8 rfl rfl (by kernel_rfl) (by kernel_rfl) (by kernel_rfl) (want_y rfl rfl rfl rfl (by rw [hg5_5]; rfl)) (fun w hok => x_move (tmB rfl rfl)) ?_
     refine rg_take 9 rfl rfl (by kernel_rfl) (by kernel_rfl) (by kernel_rfl) (want_y rfl rfl rfl rfl (by rw [hg5_5]; rfl)) (fun w hok => x_bneq Try.underlying4 (tmB rfl rfl) (tmB rfl rfl)) ?_
     refine rg_take 10 rfl rfl (by kernel_rfl) (by kernel_rfl) (by kernel_rfl) (want_0) (fun w hok => x_pickF (tmB rfl rfl) hg5_5 (tmB rfl rfl)) ?_
     refine rg_take 11 rfl rfl (by kernel_rfl) (by kernel_rfl) (by kernel_rfl) (want_0) (fun w hok => x_move (tmB rfl rfl)) ?_
     refine gs_rg (tm (t := 43) rfl) (fun hg5_11 => ?_) (fun hg5_11 => ?_)
     · exfalso
       rcases hE with ⟨h1, h2⟩ | ⟨h1, h2⟩ <;> simp [h1, h2] at hg5_11
     have hg5_11' := hg5_11; (try simp only [nrm] at hg5_11'); try (exfalso; first | with_reducible exact absurd hg5_11 Bool.false_ne_true | with_reducible exact absurd hg5_11.symm Bool.false_ne_true | omega | (simp at hg5_11; done))
     all_goals
      refine rg_take 12 rfl rfl (by kernel_rfl) (by kernel_rfl) (by kernel_rfl) (want_y rfl rfl rfl rfl (by rw [hg5_11]; rfl)) (fun w hok => x_move (tmB rfl rfl)) ?_
      refine rg_take 13 rfl rfl (by kernel_rfl) (by kernel_rfl) (by kernel_rfl) (want_y rfl rfl rfl rfl (by rw [hg5_11]; rfl)) (fun w hok => x_not (tmB rfl rfl)) ?_
      refine rg_take 14 rfl rfl (by kernel_rfl) (by kernel_rfl) (by kernel_rfl) (want_y rfl rfl rfl rfl (by rw [hg5_11]; rfl)) (fun w hok => x_move (tmB rfl rfl)) ?_
      refine gs_rg (tm (t := 46) rfl) (fun hg5_14 => ?_) (fun hg5_14 => ?_)
      · have hg5_14' := hg5_14; (try simp only [nrm] at hg5_14'); try (exfalso; first | with_reducible exact absurd hg5_14 Bool.false_ne_true | with_reducible exact absurd hg5_14.symm Bool.false_ne_true | omega | (simp at hg5_14; done))
        all_goals
         refine rg_take 15 rfl rfl (by kernel_rfl) (by kernel_rfl) (by kernel_rfl) (want_y rfl rfl rfl rfl (by rw [hg5_14]; rfl)) (fun w hok => x_move (tmI rfl rfl)) ?_
         refine rg_take 16 rfl rfl (by kernel_rfl) (by kernel_rfl) (by kernel_rfl) (want_y rfl rfl rfl rfl (by rw [hg5_14]; rfl)) (fun w hok => x_neq (tmI rfl rfl) (ev_cN 21)) ?_
         refine rg_take 17 rfl rfl (by kernel_rfl) (by kernel_rfl) (by kernel_rfl) (want_y rfl rfl rfl rfl (by rw [hg5_11]; rfl)) (fun w hok => x_pickT (tmB rfl rfl) hg5_14 (tmB rfl rfl)) ?_
         refine rg_take 18 rfl rfl (by kernel_rfl) (by kernel_rfl) (by kernel_rfl) (want_0) (fun w hok => x_pickF (tmB rfl rfl) hg5_11 (tmB rfl rfl)) ?_
         refine rg_take 19 rfl rfl (by kernel_rfl) (by kernel_rfl) (by kernel_rfl) (want_0) (fun w hok => x_move (tmB rfl rfl)) ?_
         refine gs_rg (tm (t := 51) rfl) (fun hg5_19 => ?_) (fun hg5_19 => ?_)
         · exfalso
           rcases hE with ⟨h1, h2⟩ | ⟨h1, h2⟩ <;> simp_all
         have hg5_19' := hg5_19; (try simp only [nrm] at hg5_19'); try (exfalso; first | with_reducible exact absurd hg5_19 Bool.false_ne_true | with_reducible exact absurd hg5_19.symm Bool.false_ne_true | omega | (simp at hg5_19; done))
         all_goals
          refine rg_take 20 rfl rfl (by kernel_rfl) (by kernel_rfl) (by kernel_rfl) (want_y rfl rfl rfl rfl (by rw [hg5_19]; rfl)) (fun w hok => x_loadA (cs := [_, _, _, _, _, _, _, _, _, _, _]) Try.underlying28 rfl ts_28 (tmP rfl rfl) (rangeB hok 5 rfl rfl)) ?_
          refine rg_take 23 rfl rfl (by kernel_rfl) (by kernel_rfl) (by kernel_rfl) (want_y rfl rfl rfl rfl (by rw [hg5_19]; rfl)) (fun w hok => x_loadA (cs := [_, _, _, _, _, _, _, _, _, _, _]) Try.underlying28 rfl ts_28 (tmP rfl rfl) (rangeB hok 5 rfl rfl)) ?_
          refine rg_step 21 rfl (by kernel_rfl) (want_y rfl rfl rfl rfl (by rw [hg5_19]; rfl)) (oks_drop hS 1 rfl) ?_; intro K hK
          refine ow_call Try.func9 rfl rfl (evs_cons (tmA rfl rfl) <| evs_nil) (cto_c h L n c l _ (viewV hS.ok 7 rfl) hl (by omega)) ?_
          rintro e w ⟨L4, c4, rfl, hn4, _, hk⟩
          refine ⟨_, rfl, ?_⟩
          replace hS := hS.addn hk hn4 -- +v4
          clear hk hn4
          refine hK _ _ ?_; clear hK K
          refine rg_step 22 rfl (by kernel_rfl) (want_y rfl rfl rfl rfl (by rw [hg5_19]; rfl)) (oks_drop hS 2 rfl) ?_; intro K hK
          refine ow_call Try.func10 rfl rfl (evs_cons (tmA rfl rfl) <| evs_nil) (coright_c h L4 n c4 l _ (viewV hS.ok 0 rfl) hl (by omega) hlim) ?_
          rintro e w ⟨rfl, hk⟩
          refine ⟨_, rfl, ?_⟩
          replace hS := hS.kept hk
          clear hk
          refine hK _ _ ?_; clear hK K
          refine rg_step 24 rfl (by kernel_rfl) (want_y rfl rfl rfl rfl (by rw [hg5_19]; rfl)) (oks_drop hS 2 rfl) ?_; intro K hK
          refine ow_call Try.func11 rfl rfl (evs_cons (tmA rfl rfl) <| evs_nil) (rcoright_c h L n c l _ (viewV hS.ok 8 rfl) hl (by omega) hlim) ?_
          rintro e w ⟨rfl, hk⟩
          refine ⟨_, rfl, ?_⟩
          replace hS := hS.kept hk
          clear hk
          refine hK _ _ ?_; clear hK K
          refine rg_take 25 rfl rfl (by kernel_rfl) (by kernel_rfl) (by kernel_rfl) (want_y rfl rfl rfl rfl (by rw [hg5_19]; rfl)) (fun w hok => x_bneq Try.underlying4 (tmB rfl rfl) (tmB rfl rfl)) ?_
          refine rg_take 26 rfl rfl (by kernel_rfl) (by kernel_rfl) (by kernel_rfl) (want_0) (fun w hok => x_pickF (tmB rfl rfl) hg5_19 (tmB rfl rfl)) ?_
          refine rg_done (oks_drop hS 2 rfl) (by kernel_rfl) ?_
          refine then_n (hK9 _ _ ?_); clear hK9 K9
          refine cnd (tm rfl) (fun hc1 => ?_) (fun hc1 => ?_)
          · exfalso
            simp at hc1
          try (exfalso; first | with_reducible exact absurd hc1 Bool.false_ne_true | with_reducible exact absurd hc1.symm Bool.false_ne_true | (simp only [nrm] at hc1; omega) | (simp at hc1; done))
          all_goals
           try simp only [nrm] at hc1
           refine wp_skip ?_
           refine then_n (hK8 _ _ ?_); clear hK8 K8
           refine wp_seq_k ?_; intro K10 hK10
           refine wlit ?_
           refine wl_v (x_loadA (cs := [_, _, _, _, _, _, _, _, _, _, _]) Try.underlying28 rfl ts_28 (tmP rfl rfl) (rangeB hS.ok 7 rfl rfl)) ?_
           refine wl_e rfl ?_; intro K hK
           refine ow_call Try.func9 rfl rfl (evs_cons (tmA rfl rfl) <| evs_nil) (cto_c h L n c l _ (viewV hS.ok 8 rfl) hl (by omega)) ?_
           rintro e w ⟨L5, c5, rfl, hn5, _, hk⟩
           refine ⟨_, rfl, ?_⟩
           replace hS := hS.addn hk hn5 -- +v5
           clear hk hn5
           refine hK _ _ ?_; clear hK K
           refine wl_e rfl ?_; intro K hK
           refine ow_call Try.func12 rfl rfl (evs_cons (tmA rfl rfl) <| evs_nil) (op_any_c h L5 n c5 l _ (viewV hS.ok 0 rfl) hl (by omega) hlim) ?_
           rintro e w ⟨G, m, cg, l3, rfl, hnv, hl3, hm3, hb3, hyes, hno, hk⟩
           refine ⟨_, rfl, ?_⟩
           replace hS := hS.addn hk hnv -- +vg
           clear hk hnv
           refine hK _ _ ?_; clear hK K
           refine wl_v (x_assign (tmS rfl rfl)) ?_
           refine wl_nil ?_
           refine then_n (hK10 _ _ ?_); clear hK10 K10
           refine wp_seq_k ?_; intro K11 hK11
           refine wp_seq_k ?_; intro K12 hK12
           refine wlit ?_
           refine wl_v (x_loadA (cs := [_, _, _, _, _, _, _, _, _, _, _]) Try.underlying28 rfl ts_28 (tmP rfl rfl) (rangeB hS.ok 9 rfl rfl)) ?_
           refine wl_e rfl ?_; intro K hK
           refine ow_call Try.func11 rfl rfl (evs_cons (tmA rfl rfl) <| evs_nil) (rcoright_c h L n c l _ (viewV hS.ok 10 rfl) hl (by omega) hlim) ?_
           rintro e w ⟨rfl, hk⟩
           refine ⟨_, rfl, ?_⟩
           replace hS := hS.kept hk
           clear hk
           refine hK _ _ ?_; clear hK K
           refine wl_v (x_not (tmB rfl rfl)) ?_
           refine wl_nil ?_
           refine then_n (hK12 _ _ ?_); clear hK12 K12
           refine cnd (tm rfl) (fun hc2 => ?_) (fun hc2 => ?_)
           · try (exfalso; first | with_reducible exact absurd hc2 Bool.false_ne_true | with_reducible exact absurd hc2.symm Bool.false_ne_true | (simp only [nrm] at hc2; omega) | (simp at hc2; done))
             all_goals
              try simp only [nrm] at hc2
              have hm0 : m = 0 := hno (by simpa using hc2)
              refine wp_seq_k ?_; intro K13 hK13
              refine wlit ?_
              refine wl_v (x_move (tmS rfl rfl)) ?_
              refine wl_v (x_len Try.underlying29 (tmS rfl rfl)) ?_
              refine wl_v (x_eql (tmI rfl rfl) (ev_cN 0)) ?_
              refine wl_v (x_move (tmB rfl rfl)) ?_
              refine gs_wl (tm (t := 68) rfl) (fun hg9_3 => ?_) (fun hg9_3 => ?_)
              · have hg9_3' := hg9_3; (try simp only [nrm] at hg9_3'); try (exfalso; first | with_reducible exact absurd hg9_3 Bool.false_ne_true | with_reducible exact absurd hg9_3.symm Bool.false_ne_true | omega | (simp at hg9_3; done))
                all_goals
                 refine wl_g (want_y rfl rfl rfl rfl (by rw [hg9_3]; rfl)) ?_; intro K hK
                 refine ow_call Try.func5 rfl rfl (evs_nil) (law23_awake_c _) ?_
                 rintro e w ⟨rfl, hk⟩
                 refine ⟨_, rfl, ?_⟩
                 replace hS := hS.kept hk
                 clear hk
                 refine hK _ _ ?_; clear hK K
                 refine wl_v (x_pickT (tmB rfl rfl) hg9_3 (tmB rfl rfl)) ?_
                 refine wl_v (x_assign (tmB rfl rfl)) ?_
                 refine wl_nil ?_
                 refine then_n (hK13 _ _ ?_); clear hK13 K13
                 refine wp_ret ?_
                 refine then_r ?_
                 refine ret1 rfl (.tmp rfl (show _ = Value.bool _ from rfl)) ?_
                 first
                   | exact ⟨rfl, hS.kp.below⟩
                   | exact ⟨by simp_all, hS.kp.below⟩
              have hg9_3' := hg9_3; (try simp only [nrm] at hg9_3'); try (exfalso; first | with_reducible exact absurd hg9_3 Bool.false_ne_true | with_reducible exact absurd hg9_3.symm Bool.false_ne_true | omega | (simp at hg9_3; done))
              all_goals
               refine wl_s rfl (want_n rfl rfl rfl rfl (by rw [hg9_3]; rfl)) ?_
               refine wl_v (x_pickF (tmB rfl rfl) hg9_3 ev_c) ?_
               refine wl_v (x_assign (tmB rfl rfl)) ?_
               refine wl_nil ?_
               refine then_n (hK13 _ _ ?_); clear hK13 K13
               refine wp_ret ?_
               refine then_r ?_
               refine ret1 rfl (.tmp rfl (show _ = Value.bool _ from rfl)) ?_
               first
                 | exact ⟨rfl, hS.kp.below⟩
                 | exact ⟨by simp_all, hS.kp.below⟩
           try (exfalso; first | with_reducible exact absurd hc2 Bool.false_ne_true | with_reducible exact absurd hc2.symm Bool.false_ne_true | (simp only [nrm] at hc2; omega) | (simp at hc2; done))
           all_goals
            try simp only [nrm] at hc2
            have hokp : okOp h l := by simpa using hc2
            obtain rfl := hyes hokp
            refine wp_skip ?_
            refine then_n (hK11 _ _ ?_); clear hK11 K11
            refine wp_seq_k ?_; intro K14 hK14
            refine wlit ?_
            refine wl_v (x_move (tmS rfl rfl)) ?_
            refine wl_e rfl ?_; intro K hK
            refine ow_call Try.func6 rfl rfl (evs_cons (tmS rfl rfl) <| evs_nil) (coparse_c m G cg _ _ (viewV hS.ok 0 rfl) hl3 (by omega) hb3) ?_
            rintro e w ⟨h6, L6, n6, c6, l6, er6, rfl, hF6, he6, he6', hk⟩
            refine ⟨_, rfl, ?_⟩
            replace hS := hS.addn hk hF6.1 -- +v6
            clear hk
            have hback := op_back (l0 := opE h l) (N := m) h l rfl hl3 hokp hlim
            obtain rfl : 0 = er6 := (he6 hback.1).symm
            have hl6 := hF6.2.1
            obtain ⟨hh6, hll6⟩ : h = h6 ∧ l = l6 := by
              rcases hF6.2.2 with ⟨_, d, e⟩ | ⟨o, _⟩
              · exact ⟨by rw [d, hback.2.1], by rw [e, hback.2.2]⟩
              · exact absurd hback.1 o
            subst hh6 hll6
            obtain rfl : n = n6 := by omega
            clear hF6 he6 he6' hback hno hyes
            refine hK _ _ ?_; clear hK K
            refine wl_v (x_move (tmT rfl rfl)) ?_
            refine wl_v (x_ext (tmT rfl rfl) rfl) ?_
            refine wl_v (x_ext (tmT rfl rfl) rfl) ?_
            refine wl_e rfl ?_; intro K hK
            refine ow_alloc hS tz_35 rfl ?_
            clear hS; intro g10_5 w hg10_5 hS
            refine hK _ _ ?_; clear hK K
            refine wl_e rfl ?_; intro K hK
            refine ow_storeA hS 0 rfl ts_35 (tmP rfl rfl) (tmA rfl rfl) rfl rfl rfl ?_
            clear hS; intro w hS
            try replace hS := St.nm (M' := [.blk _ _ [_, _, _, _, _, _, _, _, _, _, _], .vw _ _, .vw _ _, .vw _ _, .vw _ _, .vw _ _, .blk _ _ [_, _, _, _, _, _, _, _, _, _, _], .vw _ _, .blk _ _ [_, _, _, _, _, _, _, _, _, _, _], .vw _ _, _, .blk _ _ [_, _, _, _, _, _, _, _, _, _, _], .vw _ _, .vw _ _]) hS rfl
            refine hK _ _ ?_; clear hK K
            refine wl_v (x_assign (tmI rfl rfl)) ?_
            refine wl_nil ?_
            refine then_n (hK14 _ _ ?_); clear hK14 K14
            refine wp_seq_k ?_; intro K15 hK15
            refine rg_startk 0 hS mixed_ ?_
            clear hS; intro w hS
            refine rg_take 0 rfl rfl (by kernel_rfl) (by kernel_rfl) (by kernel_rfl) (want_0) (fun w hok => x_move (tmS rfl rfl)) ?_
            refine rg_take 1 rfl rfl (by kernel_rfl) (by kernel_rfl) (by kernel_rfl) (want_0) (fun w hok => x_bstr Try.underlying29 Try.underlying5 Try.underlying9 (tmS rfl rfl) (viewV hok 2 rfl) hb3 hl3) ?_
            refine rg_take 2 rfl rfl (by kernel_rfl) (by kernel_rfl) (by kernel_rfl) (want_0) (fun w hok => x_loadA (cs := [_, _, _, _, _, _, _, _, _, _, _]) Try.underlying28 rfl ts_28 (tmP rfl rfl) (rangeB hok 11 rfl rfl)) ?_
            refine rg_step 3 rfl (by kernel_rfl) (want_0) (oks_drop hS 0 rfl) ?_; intro K hK
            refine ow_call Try.func13 rfl rfl (evs_cons (tmA rfl rfl) <| evs_nil) (rop_c h L n c l _ (viewV hS.ok 12 rfl) hl hlim hokp) ?_
            rintro e w ⟨G2, m2, cg2, rfl, hm2, hn2, hk⟩
            refine ⟨_, rfl, ?_⟩
            replace hS := hS.addn hk (New.view hn2) -- +vh
            clear hk hn2
            refine hK _ _ ?_; clear hK K
            refine rg_step 4 rfl (by kernel_rfl) (want_0) (oks_drop hS 1 rfl) ?_; intro K hK
            refine ow_v (x_bstr Try.underlying29 Try.underlying5 Try.underlying9 (tmS rfl rfl) (viewV hS.ok 0 rfl) hb3 hm2.symm) ?_
            refine hK _ _ ?_; clear hK K
            refine rg_take 5 rfl rfl (by kernel_rfl) (by kernel_rfl) (by kernel_rfl) (want_0) (fun w hok => x_Geql (tmG rfl rfl) (tmG rfl rfl) (by first | assumption | exact Bytes.nil | (repeat' (first | assumption | exact Bytes.nil | exact be_bytes _ _ | apply Bytes.append | apply Bytes.take | apply Bytes.drop | apply Bytes.replicate))) (by first | assumption | exact Bytes.nil | (repeat' (first | assumption | exact Bytes.nil | exact be_bytes _ _ | apply Bytes.append | apply Bytes.take | apply Bytes.drop | apply Bytes.replicate)))) ?_
            refine rg_take 6 rfl rfl (by kernel_rfl) (by kernel_rfl) (by kernel_rfl) (want_0) (fun w hok => x_move (tmB rfl rfl)) ?_
            refine gs_rg (tm (t := 82) rfl) (fun hg11_6 => ?_) (fun hg11_6 => ?_)
            · have hg11_6' := hg11_6; (try simp only [nrm] at hg11_6'); try (exfalso; first | with_reducible exact absurd hg11_6 Bool.false_ne_true | with_reducible exact absurd hg11_6.symm Bool.false_ne_true | omega | (simp at hg11_6; done))
              all_goals
               refine rg_take 7 rfl rfl (by kernel_rfl) (by kernel_rfl) (by kernel_rfl) (want_y rfl rfl rfl rfl (by rw [hg11_6]; rfl)) (fun w hok => x_loadA (cs := [_, _, _, _, _, _, _, _, _, _, _]) Try.underlying35 rfl ts_35 (tmP rfl rfl) (rangeB hok 0 rfl rfl)) ?_
               refine rg_take 8 rfl rfl (by kernel_rfl) (by kernel_rfl) (by kernel_rfl) (want_y rfl rfl rfl rfl (by rw [hg11_6]; rfl)) (fun w hok => x_loadA (cs := [_, _, _, _, _, _, _, _, _, _, _]) Try.underlying28 rfl ts_28 (tmP rfl rfl) (rangeB hok 11 rfl rfl)) ?_
               refine rg_step 9 rfl (by kernel_rfl) (want_y rfl rfl rfl rfl (by rw [hg11_6]; rfl)) (oks_drop hS 1 rfl) ?_; intro K hK
               refine ow_call Try.func9 rfl rfl (evs_cons (tmA rfl rfl) <| evs_nil) (cto_c h L n c l _ (viewV hS.ok 13 rfl) hl (by omega)) ?_
               rintro e w ⟨L7, c7, rfl, hn7, _, hk⟩
               refine ⟨_, rfl, ?_⟩
               replace hS := hS.addn hk hn7 -- +v7
               clear hk hn7
               refine hK _ _ ?_; clear hK K
               refine rg_step 10 rfl (by kernel_rfl) (want_y rfl rfl rfl rfl (by rw [hg11_6]; rfl)) (oks_drop hS 2 rfl) ?_; intro K hK
               refine ow_call Try.func8 rfl rfl (evs_cons (tmA rfl rfl) <| evs_cons (tmA rfl rfl) <| evs_nil) (csame_c h L6 n c6 L7 c7 l _ (viewV hS.ok 3 rfl) (viewV hS.ok 0 rfl) hl (by omega)) ?_
               rintro e w ⟨rfl, hk⟩
               refine ⟨_, rfl, ?_⟩
               replace hS := hS.kept hk
               clear hk
               refine hK _ _ ?_; clear hK K
               refine rg_take 11 rfl rfl (by kernel_rfl) (by kernel_rfl) (by kernel_rfl) (want_0) (fun w hok => x_pickT (tmB rfl rfl) hg11_6 (tmB rfl rfl)) ?_
               refine rg_take 12 rfl rfl (by kernel_rfl) (by kernel_rfl) (by kernel_rfl) (want_0) (fun w hok => x_move (tmB rfl rfl)) ?_
               refine gs_rg (tm (t := 88) rfl) (fun hg11_12 => ?_) (fun hg11_12 => ?_)
               · have hg11_12' := hg11_12; (try simp only [nrm] at hg11_12'); try (exfalso; first | with_reducible exact absurd hg11_12 Bool.false_ne_true | with_reducible exact absurd hg11_12.symm Bool.false_ne_true | omega | (simp at hg11_12; done))
                 all_goals
                  refine rg_take 13 rfl rfl (by kernel_rfl) (by kernel_rfl) (by kernel_rfl) (want_y rfl rfl rfl rfl (by rw [hg11_12]; rfl)) (fun w hok => x_move (tmI rfl rfl)) ?_
                  refine rg_take 14 rfl rfl (by kernel_rfl) (by kernel_rfl) (by kernel_rfl) (want_y rfl rfl rfl rfl (by rw [hg11_12]; rfl)) (fun w hok => x_eql (tmI rfl rfl) (ev_cN 0)) ?_
                  refine rg_take 15 rfl rfl (by kernel_rfl) (by kernel_rfl) (by kernel_rfl) (want_0) (fun w hok => x_pickT (tmB rfl rfl) hg11_12 (tmB rfl rfl)) ?_
                  refine rg_take 16 rfl rfl (by kernel_rfl) (by kernel_rfl) (by kernel_rfl) (want_0) (fun w hok => x_move (tmB rfl rfl)) ?_
                  refine gs_rg (tm (t := 92) rfl) (fun hg11_16 => ?_) (fun hg11_16 => ?_)
                  · have hg11_16' := hg11_16; (try simp only [nrm] at hg11_16'); try (exfalso; first | with_reducible exact absurd hg11_16 Bool.false_ne_true | with_reducible exact absurd hg11_16.symm Bool.false_ne_true | omega | (simp at hg11_16; done))
                    all_goals
                     refine rg_step 17 rfl (by kernel_rfl) (want_y rfl rfl rfl rfl (by rw [hg11_16]; rfl)) (oks_drop hS 2 rfl) ?_; intro K hK
                     refine ow_call Try.func5 rfl rfl (evs_nil) (law23_awake_c _) ?_
                     rintro e w ⟨rfl, hk⟩
                     refine ⟨_, rfl, ?_⟩
                     replace hS := hS.kept hk
                     clear hk
                     refine hK _ _ ?_; clear hK K
                     refine rg_take 18 rfl rfl (by kernel_rfl) (by kernel_rfl) (by kernel_rfl) (want_0) (fun w hok => x_pickT (tmB rfl rfl) hg11_16 (tmB rfl rfl)) ?_
                     refine rg_take 19 rfl rfl (by kernel_rfl) (by kernel_rfl) (by kernel_rfl) (want_0) (fun w hok => x_assign (tmB rfl rfl)) ?_
                     refine rg_done (oks_drop hS 2 rfl) (by kernel_rfl) ?_
                     refine then_n (hK15 _ _ ?_); clear hK15 K15
                     refine wp_ret ?_
                     refine ret1 rfl (.tmp rfl (show _ = Value.bool _ from rfl)) ?_
                     first
                       | exact ⟨rfl, hS.kp.below⟩
                       | exact ⟨by simp_all, hS.kp.below⟩
                  have hg11_16' := hg11_16; (try simp only [nrm] at hg11_16'); try (exfalso; first | with_reducible exact absurd hg11_16 Bool.false_ne_true | with_reducible exact absurd hg11_16.symm Bool.false_ne_true | omega | (simp at hg11_16; done))
                  all_goals
                   refine rg_skip 17 rfl rfl (by kernel_rfl) (by kernel_rfl) (by kernel_rfl) (want_n rfl rfl rfl rfl (by rw [hg11_16]; rfl)) ?_
                   refine rg_take 18 rfl rfl (by kernel_rfl) (by kernel_rfl) (by kernel_rfl) (want_0) (fun w hok => x_pickF (tmB rfl rfl) hg11_16 ev_c) ?_
                   refine rg_take 19 rfl rfl (by kernel_rfl) (by kernel_rfl) (by kernel_rfl) (want_0) (fun w hok => x_assign (tmB rfl rfl)) ?_
                   refine rg_done (oks_drop hS 2 rfl) (by kernel_rfl) ?_
                   refine then_n (hK15 _ _ ?_); clear hK15 K15
                   refine wp_ret ?_
                   refine ret1 rfl (.tmp rfl (show _ = Value.bool _ from rfl)) ?_
                   first
                     | exact ⟨rfl, hS.kp.below⟩
                     | exact ⟨by simp_all, hS.kp.below⟩
               have hg11_12' := hg11_12; (try simp only [nrm] at hg11_12'); try (exfalso; first | with_reducible exact absurd hg11_12 Bool.false_ne_true | with_reducible exact absurd hg11_12.symm Bool.false_ne_true | omega | (simp at hg11_12; done))
               all_goals
                refine rg_skip 13 rfl rfl (by kernel_rfl) (by kernel_rfl) (by kernel_rfl) (want_n rfl rfl rfl rfl (by rw [hg11_12]; rfl)) ?_
                refine rg_skip 14 rfl rfl (by kernel_rfl) (by kernel_rfl) (by kernel_rfl) (want_n rfl rfl rfl rfl (by rw [hg11_12]; rfl)) ?_
                refine rg_take 15 rfl rfl (by kernel_rfl) (by kernel_rfl) (by kernel_rfl) (want_0) (fun w hok => x_pickF (tmB rfl rfl) hg11_12 ev_c) ?_
                refine rg_take 16 rfl rfl (by kernel_rfl) (by kernel_rfl) (by kernel_rfl) (want_0) (fun w hok => x_move (tmB rfl rfl)) ?_
                refine rg_skip 17 rfl rfl (by kernel_rfl) (by kernel_rfl) (by kernel_rfl) (want_n rfl rfl rfl rfl rfl) ?_
                refine rg_take 18 rfl rfl (by kernel_rfl) (by kernel_rfl) (by kernel_rfl) (want_0) (fun w hok => x_pickF (tmB rfl rfl) rfl ev_c) ?_
                refine rg_take 19 rfl rfl (by kernel_rfl) (by kernel_rfl) (by kernel_rfl) (want_0) (fun w hok => x_assign (tmB rfl rfl)) ?_
                refine rg_done (oks_drop hS 2 rfl) (by kernel_rfl) ?_
                refine then_n (hK15 _ _ ?_); clear hK15 K15
                refine wp_ret ?_
                refine ret1 rfl (.tmp rfl (show _ = Value.bool _ from rfl)) ?_
                first
                  | exact ⟨rfl, hS.kp.below⟩
                  | exact ⟨by simp_all, hS.kp.below⟩
            have hg11_6' := hg11_6; (try simp only [nrm] at hg11_6'); try (exfalso; first | with_reducible exact absurd hg11_6 Bool.false_ne_true | with_reducible exact absurd hg11_6.symm Bool.false_ne_true | omega | (simp at hg11_6; done))
            all_goals
             refine rg_skip 7 rfl rfl (by kernel_rfl) (by kernel_rfl) (by kernel_rfl) (want_n rfl rfl rfl rfl (by rw [hg11_6]; rfl)) ?_
             refine rg_skip 8 rfl rfl (by kernel_rfl) (by kernel_rfl) (by kernel_rfl) (want_n rfl rfl rfl rfl (by rw [hg11_6]; rfl)) ?_
             refine rg_skip 9 rfl rfl (by kernel_rfl) (by kernel_rfl) (by kernel_rfl) (want_n rfl rfl rfl rfl (by rw [hg11_6]; rfl)) ?_
             refine rg_skip 10 rfl rfl (by kernel_rfl) (by kernel_rfl) (by kernel_rfl) (want_n rfl rfl rfl rfl (by rw [hg11_6]; rfl)) ?_
             refine rg_take 11 rfl rfl (by kernel_rfl) (by kernel_rfl) (by kernel_rfl) (want_0) (fun w hok => x_pickF (tmB rfl rfl) hg11_6 ev_c) ?_
             refine rg_take 12 rfl rfl (by kernel_rfl) (by kernel_rfl) (by kernel_rfl) (want_0) (fun w hok => x_move (tmB rfl rfl)) ?_
             refine rg_skip 13 rfl rfl (by kernel_rfl) (by kernel_rfl) (by kernel_rfl) (want_n rfl rfl rfl rfl rfl) ?_
             refine rg_skip 14 rfl rfl (by kernel_rfl) (by kernel_rfl) (by kernel_rfl) (want_n rfl rfl rfl rfl rfl) ?_
             refine rg_take 15 rfl rfl (by kernel_rfl) (by kernel_rfl) (by kernel_rfl) (want_0) (fun w hok => x_pickF (tmB rfl rfl) rfl ev_c) ?_
             refine rg_take 16 rfl rfl (by kernel_rfl) (by kernel_rfl) (by kernel_rfl) (want_0) (fun w hok => x_move (tmB rfl rfl)) ?_
             refine rg_skip 17 rfl rfl (by kernel_rfl) (by kernel_rfl) (by kernel_rfl) (want_n rfl rfl rfl rfl rfl) ?_
             refine rg_take 18 rfl rfl (by kernel_rfl) (by kernel_rfl) (by kernel_rfl) (want_0) (fun w hok => x_pickF (tmB rfl rfl) rfl ev_c) ?_
             refine rg_take 19 rfl rfl (by kernel_rfl) (by kernel_rfl) (by kernel_rfl) (want_0) (fun w hok => x_assign (tmB rfl rfl)) ?_
             refine rg_done (oks_drop hS 1 rfl) (by kernel_rfl) ?_
             refine then_n (hK15 _ _ ?_); clear hK15 K15
             refine wp_ret ?_
             refine ret1 rfl (.tmp rfl (show _ = Value.bool _ from rfl)) ?_
             first
               | exact ⟨rfl, hS.kp.below⟩
               | exact ⟨by simp_all, hS.kp.below⟩
      have hg5_14' := hg5_14; (try simp only [nrm] at hg5_14'); try (exfalso; first | with_reducible exact absurd hg5_14 Bool.false_ne_true | with_reducible exact absurd hg5_14.symm Bool.false_ne_true | omega | (simp at hg5_14; done))
      all_goals
       refine rg_skip 15 rfl rfl (by kernel_rfl) (by kernel_rfl) (by kernel_rfl) (want_n rfl rfl rfl rfl (by rw [hg5_14]; rfl)) ?_
       refine rg_skip 16 rfl rfl (by kernel_rfl) (by kernel_rfl) (by kernel_rfl) (want_n rfl rfl rfl rfl (by rw [hg5_14]; rfl)) ?_
       refine rg_take 17 rfl rfl (by kernel_rfl) (by kernel_rfl) (by kernel_rfl) (want_y rfl rfl rfl rfl (by rw [hg5_11]; rfl)) (fun w hok => x_pickF (tmB rfl rfl) hg5_14 ev_c) ?_
       refine rg_take 18 rfl rfl (by kernel_rfl) (by kernel_rfl) (by kernel_rfl) (want_0) (fun w hok => x_pickF (tmB rfl rfl) hg5_11 (tmB rfl rfl)) ?_
       refine rg_take 19 rfl rfl (by kernel_rfl) (by kernel_rfl) (by kernel_rfl) (want_0) (fun w hok => x_move (tmB rfl rfl)) ?_
       refine rg_take 20 rfl rfl (by kernel_rfl) (by kernel_rfl) (by kernel_rfl) (want_y rfl rfl rfl rfl rfl) (fun w hok => x_loadA (cs := [_, _, _, _, _, _, _, _, _, _, _]) Try.underlying28 rfl ts_28 (tmP rfl rfl) (rangeB hok 5 rfl rfl)) ?_
       refine rg_take 23 rfl rfl (by kernel_rfl) (by kernel_rfl) (by kernel_rfl) (want_y rfl rfl rfl rfl rfl) (fun w hok => x_loadA (cs := [_, _, _, _, _, _, _, _, _, _, _]) Try.underlying28 rfl ts_28 (tmP rfl rfl) (rangeB hok 5 rfl rfl)) ?_
       refine rg_step 21 rfl (by kernel_rfl) (want_y rfl rfl rfl rfl rfl) (oks_drop hS 1 rfl) ?_; intro K hK
       refine ow_call Try.func9 rfl rfl (evs_cons (tmA rfl rfl) <| evs_nil) (cto_c h L n c l _ (viewV hS.ok 7 rfl) hl (by omega)) ?_
       rintro e w ⟨L4, c4, rfl, hn4, _, hk⟩
       refine ⟨_, rfl, ?_⟩
       replace hS := hS.addn hk hn4 -- +v4
       clear hk hn4
       refine hK _ _ ?_; clear hK K
       refine rg_step 22 rfl (by kernel_rfl) (want_y rfl rfl rfl rfl rfl) (oks_drop hS 2 rfl) ?_; intro K hK
       refine ow_call Try.func10 rfl rfl (evs_cons (tmA rfl rfl) <| evs_nil) (coright_c h L4 n c4 l _ (viewV hS.ok 0 rfl) hl (by omega) hlim) ?_
       rintro e w ⟨rfl, hk⟩
       refine ⟨_, rfl, ?_⟩
       replace hS := hS.kept hk
       clear hk
       refine hK _ _ ?_; clear hK K
       refine rg_step 24 rfl (by kernel_rfl) (want_y rfl rfl rfl rfl rfl) (oks_drop hS 2 rfl) ?_; intro K hK
       refine ow_call Try.func11 rfl rfl (evs_cons (tmA rfl rfl) <| evs_nil) (rcoright_c h L n c l _ (viewV hS.ok 8 rfl) hl (by omega) hlim) ?_
       rintro e w ⟨rfl, hk⟩
       refine ⟨_, rfl, ?_⟩
       replace hS := hS.kept hk
       clear hk
       refine hK _ _ ?_; clear hK K
       refine rg_take 25 rfl rfl (by kernel_rfl) (by kernel_rfl) (by kernel_rfl) (want_y rfl rfl rfl rfl rfl) (fun w hok => x_bneq Try.underlying4 (tmB rfl rfl) (tmB rfl rfl)) ?_
       refine rg_take 26 rfl rfl (by kernel_rfl) (by kernel_rfl) (by kernel_rfl) (want_0) (fun w hok => x_pickF (tmB rfl rfl) rfl (tmB rfl rfl)) ?_
       refine rg_done (oks_drop hS 2 rfl) (by kernel_rfl) ?_
       refine then_n (hK9 _ _ ?_); clear hK9 K9
       refine cnd (tm rfl) (fun hc1 => ?_) (fun hc1 => ?_)
       · exfalso
         simp at hc1
       try (exfalso; first | with_reducible exact absurd hc1 Bool.false_ne_true | with_reducible exact absurd hc1.symm Bool.false_ne_true | (simp only [nrm] at hc1; omega) | (simp at hc1; done))
       all_goals
        try simp only [nrm] at hc1
        refine wp_skip ?_
        refine then_n (hK8 _ _ ?_); clear hK8 K8
        refine wp_seq_k ?_; intro K16 hK16
        refine wlit ?_
        refine wl_v (x_loadA (cs := [_, _, _, _, _, _, _, _, _, _, _]) Try.underlying28 rfl ts_28 (tmP rfl rfl) (rangeB hS.ok 7 rfl rfl)) ?_
        refine wl_e rfl ?_; intro K hK
        refine ow_call Try.func9 rfl rfl (evs_cons (tmA rfl rfl) <| evs_nil) (cto_c h L n c l _ (viewV hS.ok 8 rfl) hl (by omega)) ?_
        rintro e w ⟨L5, c5, rfl, hn5, _, hk⟩
        refine ⟨_, rfl, ?_⟩
        replace hS := hS.addn hk hn5 -- +v5
        clear hk hn5
        refine hK _ _ ?_; clear hK K
        refine wl_e rfl ?_; intro K hK
        refine ow_call Try.func12 rfl rfl (evs_cons (tmA rfl rfl) <| evs_nil) (op_any_c h L5 n c5 l _ (viewV hS.ok 0 rfl) hl (by omega) hlim) ?_
        rintro e w ⟨G, m, cg, l3, rfl, hnv, hl3, hm3, hb3, hyes, hno, hk⟩
        refine ⟨_, rfl, ?_⟩
        replace hS := hS.addn hk hnv -- +vg
        clear hk hnv
        refine hK _ _ ?_; clear hK K
        refine wl_v (x_assign (tmS rfl rfl)) ?_
        refine wl_nil ?_
        refine then_n (hK16 _ _ ?_); clear hK16 K16
        refine wp_seq_k ?_; intro K17 hK17
        refine wp_seq_k ?_; intro K18 hK18
        refine wlit ?_
        refine wl_v (x_loadA (cs := [_, _, _, _, _, _, _, _, _, _, _]) Try.underlying28 rfl ts_28 (tmP rfl rfl) (rangeB hS.ok 9 rfl rfl)) ?_
        refine wl_e rfl ?_; intro K hK
        refine ow_call Try.func11 rfl rfl (evs_cons (tmA rfl rfl) <| evs_nil) (rcoright_c h L n c l _ (viewV hS.ok 10 rfl) hl (by omega) hlim) ?_
        rintro e w ⟨rfl, hk⟩
        refine ⟨_, rfl, ?_⟩
        replace hS := hS.kept hk
        clear hk
        refine hK _ _ ?_; clear hK K
        refine wl_v (x_not (tmB rfl rfl)) ?_
        refine wl_nil ?_
        refine then_n (hK18 _ _ ?_); clear hK18 K18
        refine cnd (tm rfl) (fun hc2 => ?_) (fun hc2 => ?_)
        · try (exfalso; first | with_reducible exact absurd hc2 Bool.false_ne_true | with_reducible exact absurd hc2.symm Bool.false_ne_true | (simp only [nrm] at hc2; omega) | (simp at hc2; done))
          all_goals
           try simp only [nrm] at hc2
           have hm0 : m = 0 := hno (by simpa using hc2)
           refine wp_seq_k ?_; intro K19 hK19
           refine wlit ?_
           refine wl_v (x_move (tmS rfl rfl)) ?_
           refine wl_v (x_len Try.underlying29 (tmS rfl rfl)) ?_
           refine wl_v (x_eql (tmI rfl rfl) (ev_cN 0)) ?_
           refine wl_v (x_move (tmB rfl rfl)) ?_
           refine gs_wl (tm (t := 68) rfl) (fun hg9_3 => ?_) (fun hg9_3 => ?_)
           · have hg9_3' := hg9_3; (try simp only [nrm] at hg9_3'); try (exfalso; first | with_reducible exact absurd hg9_3 Bool.false_ne_true | with_reducible exact absurd hg9_3.symm Bool.false_ne_true | omega | (simp at hg9_3; done))
             all_goals
              refine wl_g (want_y rfl rfl rfl rfl (by rw [hg9_3]; rfl)) ?_; intro K hK
              refine ow_call Try.func5 rfl rfl (evs_nil) (law23_awake_c _) ?_
              rintro e w ⟨rfl, hk⟩
              refine ⟨_, rfl, ?_⟩
              replace hS := hS.kept hk
              clear hk
              refine hK _ _ ?_; clear hK K
              refine wl_v (x_pickT (tmB rfl rfl) hg9_3 (tmB rfl rfl)) ?_
              refine wl_v (x_assign (tmB rfl rfl)) ?_
              refine wl_nil ?_
              refine then_n (hK19 _ _ ?_); clear hK19 K19
              refine wp_ret ?_
              refine then_r ?_
              refine ret1 rfl (.tmp rfl (show _ = Value.bool _ from rfl)) ?_
              first
                | exact ⟨rfl, hS.kp.below⟩
                | exact ⟨by simp_all, hS.kp.below⟩
           have hg9_3' := hg9_3; (try simp only [nrm] at hg9_3'); try (exfalso; first | with_reducible exact absurd hg9_3 Bool.false_ne_true | with_reducible exact absurd hg9_3.symm Bool.false_ne_true | omega | (simp at hg9_3; done))
           all_goals
            refine wl_s rfl (want_n rfl rfl rfl rfl (by rw [hg9_3]; rfl)) ?_
            refine wl_v (x_pickF (tmB rfl rfl) hg9_3 ev_c) ?_
            refine wl_v (x_assign (tmB rfl rfl)) ?_
            refine wl_nil ?_
            refine then_n (hK19 _ _ ?_); clear hK19 K19
            refine wp_ret ?_
            refine then_r ?_
            refine ret1 rfl (.tmp rfl (show _ = Value.bool _ from rfl)) ?_
            first
              | exact ⟨rfl, hS.kp.below⟩
              | exact ⟨by simp_all, hS.kp.below⟩
        try (exfalso; first | with_reducible exact absurd hc2 Bool.false_ne_true | with_reducible exact absurd hc2.symm Bool.false_ne_true | (simp only [nrm] at hc2; omega) | (simp at hc2; done))
        all_goals
         try simp only [nrm] at hc2
         have hokp : okOp h l := by simpa using hc2
         obtain rfl := hyes hokp
         refine wp_skip ?_
         refine then_n (hK17 _ _ ?_); clear hK17 K17
         refine wp_seq_k ?_; intro K20 hK20
         refine wlit ?_
         refine wl_v (x_move (tmS rfl rfl)) ?_
         refine wl_e rfl ?_; intro K hK
         refine ow_call Try.func6 rfl rfl (evs_cons (tmS rfl rfl) <| evs_nil) (coparse_c m G cg _ _ (viewV hS.ok 0 rfl) hl3 (by omega) hb3) ?_
         rintro e w ⟨h6, L6, n6, c6, l6, er6, rfl, hF6, he6, he6', hk⟩
         refine ⟨_, rfl, ?_⟩
         replace hS := hS.addn hk hF6.1 -- +v6
         clear hk
         have hback := op_back (l0 := opE h l) (N := m) h l rfl hl3 hokp hlim
         obtain rfl : 0 = er6 := (he6 hback.1).symm
         have hl6 := hF6.2.1
         obtain ⟨hh6, hll6⟩ : h = h6 ∧ l = l6 := by
           rcases hF6.2.2 with ⟨_, d, e⟩ | ⟨o, _⟩
           · exact ⟨by rw [d, hback.2.1], by rw [e, hback.2.2]⟩
           · exact absurd hback.1 o
         subst hh6 hll6
         obtain rfl : n = n6 := by omega
         clear hF6 he6 he6' hback hno hyes
         refine hK _ _ ?_; clear hK K
         refine wl_v (x_move (tmT rfl rfl)) ?_
         refine wl_v (x_ext (tmT rfl rfl) rfl) ?_
         refine wl_v (x_ext (tmT rfl rfl) rfl) ?_
         refine wl_e rfl ?_; intro K hK
         refine ow_alloc hS tz_35 rfl ?_
         clear hS; intro g10_5 w hg10_5 hS
         refine hK _ _ ?_; clear hK K
         refine wl_e rfl ?_; intro K hK
         refine ow_storeA hS 0 rfl ts_35 (tmP rfl rfl) (tmA rfl rfl) rfl rfl rfl ?_
         clear hS; intro w hS
         try replace hS := St.nm (M' := [.blk _ _ [_, _, _, _, _, _, _, _, _, _, _], .vw _ _, .vw _ _, .vw _ _, .vw _ _, .vw _ _, .blk _ _ [_, _, _, _, _, _, _, _, _, _, _], .vw _ _, .blk _ _ [_, _, _, _, _, _, _, _, _, _, _], .vw _ _, _, .blk _ _ [_, _, _, _, _, _, _, _, _, _, _], .vw _ _, .vw _ _]) hS rfl
         refine hK _ _ ?_; clear hK K
         refine wl_v (x_assign (tmI rfl rfl)) ?_
         refine wl_nil ?_
         refine then_n (hK20 _ _ ?_); clear hK20 K20
         refine wp_seq_k ?_; intro K21 hK21
         refine rg_startk 0 hS mixed_ ?_
         clear hS; intro w hS
         refine rg_take 0 rfl rfl (by kernel_rfl) (by kernel_rfl) (by kernel_rfl) (want_0) (fun w hok => x_move (tmS rfl rfl)) ?_
         refine rg_take 1 rfl rfl (by kernel_rfl) (by kernel_rfl) (by kernel_rfl) (want_0) (fun w hok => x_bstr Try.underlying29 Try.underlying5 Try.underlying9 (tmS rfl rfl) (viewV hok 2 rfl) hb3 hl3) ?_
         refine rg_take 2 rfl rfl (by kernel_rfl) (by kernel_rfl) (by kernel_rfl) (want_0) (fun w hok => x_loadA (cs := [_, _, _, _, _, _, _, _, _, _, _]) Try.underlying28 rfl ts_28 (tmP rfl rfl) (rangeB hok 11 rfl rfl)) ?_
         refine rg_step 3 rfl (by kernel_rfl) (want_0) (oks_drop hS 0 rfl) ?_; intro K hK
         refine ow_call Try.func13 rfl rfl (evs_cons (tmA rfl rfl) <| evs_nil) (rop_c h L n c l _ (viewV hS.ok 12 rfl) hl hlim hokp) ?_
         rintro e w ⟨G2, m2, cg2, rfl, hm2, hn2, hk⟩
         refine ⟨_, rfl, ?_⟩
         replace hS := hS.addn hk (New.view hn2) -- +vh
         clear hk hn2
         refine hK _ _ ?_; clear hK K
         refine rg_step 4 rfl (by kernel_rfl) (want_0) (oks_drop hS 1 rfl) ?_; intro K hK
         refine ow_v (x_bstr Try.underlying29 Try.underlying5 Try.underlying9 (tmS rfl rfl) (viewV hS.ok 0 rfl) hb3 hm2.symm) ?_
         refine hK _ _ ?_; clear hK K
         refine rg_take 5 rfl rfl (by kernel_rfl) (by kernel_rfl) (by kernel_rfl) (want_0) (fun w hok => x_Geql (tmG rfl rfl) (tmG rfl rfl) (by first | assumption | exact Bytes.nil | (repeat' (first | assumption | exact Bytes.nil | exact be_bytes _ _ | apply Bytes.append | apply Bytes.take | apply Bytes.drop | apply Bytes.replicate))) (by first | assumption | exact Bytes.nil | (repeat' (first | assumption | exact Bytes.nil | exact be_bytes _ _ | apply Bytes.append | apply Bytes.take | apply Bytes.drop | apply Bytes.replicate)))) ?_
         refine rg_take 6 rfl rfl (by kernel_rfl) (by kernel_rfl) (by kernel_rfl) (want_0) (fun w hok => x_move (tmB rfl rfl)) ?_
         refine gs_rg (tm (t := 82) rfl) (fun hg11_6 => ?_) (fun hg11_6 => ?_)
         · have hg11_6' := hg11_6; (try simp only [nrm] at hg11_6'); try (exfalso; first | with_reducible exact absurd hg11_6 Bool.false_ne_true | with_reducible exact absurd hg11_6.symm Bool.false_ne_true | omega | (simp at hg11_6; done))
           all_goals
            refine rg_take 7 rfl rfl (by kernel_rfl) (by kernel_rfl) (by kernel_rfl) (want_y rfl rfl rfl rfl (by rw [hg11_6]; rfl)) (fun w hok => x_loadA (cs := [_, _, _, _, _, _, _, _, _, _, _]) Try.underlying35 rfl ts_35 (tmP rfl rfl) (rangeB hok 0 rfl rfl)) ?_
            refine rg_take 8 rfl rfl (by kernel_rfl) (by kernel_rfl) (by kernel_rfl) (want_y rfl rfl rfl rfl (by rw [hg11_6]; rfl)) (fun w hok => x_loadA (cs := [_, _, _, _, _, _, _, _, _, _, _]) Try.underlying28 rfl ts_28 (tmP rfl rfl) (rangeB hok 11 rfl rfl)) ?_
            refine rg_step 9 rfl (by kernel_rfl) (want_y rfl rfl rfl rfl (by rw [hg11_6]; rfl)) (oks_drop hS 1 rfl) ?_; intro K hK
            refine ow_call Try.func9 rfl rfl (evs_cons (tmA rfl rfl) <| evs_nil) (cto_c h L n c l _ (viewV hS.ok 13 rfl) hl (by omega)) ?_
            rintro e w ⟨L7, c7, rfl, hn7, _, hk⟩
            refine ⟨_, rfl, ?_⟩
            replace hS := hS.addn hk hn7 -- +v7
            clear hk hn7
            refine hK _ _ ?_; clear hK K
            refine rg_step 10 rfl (by kernel_rfl) (want_y rfl rfl rfl rfl (by rw [hg11_6]; rfl)) (oks_drop hS 2 rfl) ?_; intro K hK
            refine ow_call Try.func8 rfl rfl (evs_cons (tmA rfl rfl) <| evs_cons (tmA rfl rfl) <| evs_nil) (csame_c h L6 n c6 L7 c7 l _ (viewV hS.ok 3 rfl) (viewV hS.ok 0 rfl) hl (by omega)) ?_
            rintro e w ⟨rfl, hk⟩
            refine ⟨_, rfl, ?_⟩
            replace hS := hS.kept hk
            clear hk
            refine hK _ _ ?_; clear hK K
            refine rg_take 11 rfl rfl (by kernel_rfl) (by kernel_rfl) (by kernel_rfl) (want_0) (fun w hok => x_pickT (tmB rfl rfl) hg11_6 (tmB rfl rfl)) ?_
            refine rg_take 12 rfl rfl (by kernel_rfl) (by kernel_rfl) (by kernel_rfl) (want_0) (fun w hok => x_move (tmB rfl rfl)) ?_
            refine gs_rg (tm (t := 88) rfl) (fun hg11_12 => ?_) (fun hg11_12 => ?_)
            · have hg11_12' := hg11_12; (try simp only [nrm] at hg11_12'); try (exfalso; first | with_reducible exact absurd hg11_12 Bool.false_ne_true | with_reducible exact absurd hg11_12.symm Bool.false_ne_true | omega | (simp at hg11_12; done))
              all_goals
               refine rg_take 13 rfl rfl (by kernel_rfl) (by kernel_rfl) (by kernel_rfl) (want_y rfl rfl rfl rfl (by rw [hg11_12]; rfl)) (fun w hok => x_move (tmI rfl rfl)) ?_
               refine rg_take 14 rfl rfl (by kernel_rfl) (by kernel_rfl) (by kernel_rfl) (want_y rfl rfl rfl rfl (by rw [hg11_12]; rfl)) (fun w hok => x_eql (tmI rfl rfl) (ev_cN 0)) ?_
               refine rg_take 15 rfl rfl (by kernel_rfl) (by kernel_rfl) (by kernel_rfl) (want_0) (fun w hok => x_pickT (tmB rfl rfl) hg11_12 (tmB rfl rfl)) ?_
               refine rg_take 16 rfl rfl (by kernel_rfl) (by kernel_rfl) (by kernel_rfl) (want_0) (fun w hok => x_move (tmB rfl rfl)) ?_
               refine gs_rg (tm (t := 92) rfl) (fun hg11_16 => ?_) (fun hg11_16 => ?_)
               · have hg11_16' := hg11_16; (try simp only [nrm] at hg11_16'); try (exfalso; first | with_reducible exact absurd hg11_16 Bool.false_ne_true | with_reducible exact absurd hg11_16.symm Bool.false_ne_true | omega | (simp at hg11_16; done))
                 all_goals
                  refine rg_step 17 rfl (by kernel_rfl) (want_y rfl rfl rfl rfl (by rw [hg11_16]; rfl)) (oks_drop hS 2 rfl) ?_; intro K hK
                  refine ow_call Try.func5 rfl rfl (evs_nil) (law23_awake_c _) ?_
                  rintro e w ⟨rfl, hk⟩
                  refine ⟨_, rfl, ?_⟩
                  replace hS := hS.kept hk
                  clear hk
                  refine hK _ _ ?_; clear hK K
                  refine rg_take 18 rfl rfl (by kernel_rfl) (by kernel_rfl) (by kernel_rfl) (want_0) (fun w hok => x_pickT (tmB rfl rfl) hg11_16 (tmB rfl rfl)) ?_
                  refine rg_take 19 rfl rfl (by kernel_rfl) (by kernel_rfl) (by kernel_rfl) (want_0) (fun w hok => x_assign (tmB rfl rfl)) ?_
                  refine rg_done (oks_drop hS 2 rfl) (by kernel_rfl) ?_
                  refine then_n (hK21 _ _ ?_); clear hK21 K21
                  refine wp_ret ?_
                  refine ret1 rfl (.tmp rfl (show _ = Value.bool _ from rfl)) ?_
                  first
                    | exact ⟨rfl, hS.kp.below⟩
                    | exact ⟨by simp_all, hS.kp.below⟩
               have hg11_16' := hg11_16; (try simp only [nrm] at hg11_16'); try (exfalso; first | with_reducible exact absurd hg11_16 Bool.false_ne_true | with_reducible exact absurd hg11_16.symm Bool.false_ne_true | omega | (simp at hg11_16; done))
               all_goals
                refine rg_skip 17 rfl rfl (by kernel_rfl) (by kernel_rfl) (by kernel_rfl) (want_n rfl rfl rfl rfl (by rw [hg11_16]; rfl)) ?_
                refine rg_take 18 rfl rfl (by kernel_rfl) (by kernel_rfl) (by kernel_rfl) (want_0) (fun w hok => x_pickF (tmB rfl rfl) hg11_16 ev_c) ?_
                refine rg_take 19 rfl rfl (by kernel_rfl) (by kernel_rfl) (by kernel_rfl) (want_0) (fun w hok => x_assign (tmB rfl rfl)) ?_
                refine rg_done (oks_drop hS 2 rfl) (by kernel_rfl) ?_
                refine then_n (hK21 _ _ ?_); clear hK21 K21
                refine wp_ret ?_
                refine ret1 rfl (.tmp rfl (show _ = Value.bool _ from rfl)) ?_
                first
                  | exact ⟨rfl, hS.kp.below⟩
                  | exact ⟨by simp_all, hS.kp.below⟩
            have hg11_12' := hg11_12; (try simp only [nrm] at hg11_12'); try (exfalso; first | with_reducible exact absurd hg11_12 Bool.false_ne_true | with_reducible exact absurd hg11_12.symm Bool.false_ne_true | omega | (simp at hg11_12; done))
            all_goals
             refine rg_skip 13 rfl rfl (by kernel_rfl) (by kernel_rfl) (by kernel_rfl) (want_n rfl rfl rfl rfl (by rw [hg11_12]; rfl)) ?_
             refine rg_skip 14 rfl rfl (by kernel_rfl) (by kernel_rfl) (by kernel_rfl) (want_n rfl rfl rfl rfl (by rw [hg11_12]; rfl)) ?_
             refine rg_take 15 rfl rfl (by kernel_rfl) (by kernel_rfl) (by kernel_rfl) (want_0) (fun w hok => x_pickF (tmB rfl rfl) hg11_12 ev_c) ?_
             refine rg_take 16 rfl rfl (by kernel_rfl) (by kernel_rfl) (by kernel_rfl) (want_0) (fun w hok => x_move (tmB rfl rfl)) ?_
             refine rg_skip 17 rfl rfl (by kernel_rfl) (by kernel_rfl) (by kernel_rfl) (want_n rfl rfl rfl rfl rfl) ?_
             refine rg_take 18 rfl rfl (by kernel_rfl) (by kernel_rfl) (by kernel_rfl) (want_0) (fun w hok => x_pickF (tmB rfl rfl) rfl ev_c) ?_
             refine rg_take 19 rfl rfl (by kernel_rfl) (by kernel_rfl) (by kernel_rfl) (want_0) (fun w hok => x_assign (tmB rfl rfl)) ?_
             refine rg_done (oks_drop hS 2 rfl) (by kernel_rfl) ?_
             refine then_n (hK21 _ _ ?_); clear hK21 K21
             refine wp_ret ?_
             refine ret1 rfl (.tmp rfl (show _ = Value.bool _ from rfl)) ?_
             first
               | exact ⟨rfl, hS.kp.below⟩
               | exact ⟨by simp_all, hS.kp.below⟩
         have hg11_6' := hg11_6; (try simp only [nrm] at hg11_6'); try (exfalso; first | with_reducible exact absurd hg11_6 Bool.false_ne_true | with_reducible exact absurd hg11_6.symm Bool.false_ne_true | omega | (simp at hg11_6; done))
         all_goals
          refine rg_skip 7 rfl rfl (by kernel_rfl) (by kernel_rfl) (by kernel_rfl) (want_n rfl rfl rfl rfl (by rw [hg11_6]; rfl)) ?_
          refine rg_skip 8 rfl rfl (by kernel_rfl) (by kernel_rfl) (by kernel_rfl) (want_n rfl rfl rfl rfl (by rw [hg11_6]; rfl)) ?_
          refine rg_skip 9 rfl rfl (by kernel_rfl) (by kernel_rfl) (by kernel_rfl) (want_n rfl rfl rfl rfl (by rw [hg11_6]; rfl)) ?_
          refine rg_skip 10 rfl rfl (by kernel_rfl) (by kernel_rfl) (by kernel_rfl) (want_n rfl rfl rfl rfl (by rw [hg11_6]; rfl)) ?_
          refine rg_take 11 rfl rfl (by kernel_rfl) (by kernel_rfl) (by kernel_rfl) (want_0) (fun w hok => x_pickF (tmB rfl rfl) hg11_6 ev_c) ?_
          refine rg_take 12 rfl rfl (by kernel_rfl) (by kernel_rfl) (by kernel_rfl) (want_0) (fun w hok => x_move (tmB rfl rfl)) ?_
          refine rg_skip 13 rfl rfl (by kernel_rfl) (by kernel_rfl) (by kernel_rfl) (want_n rfl rfl rfl rfl rfl) ?_
          refine rg_skip 14 rfl rfl (by kernel_rfl) (by kernel_rfl) (by kernel_rfl) (want_n rfl rfl rfl rfl rfl) ?_
          refine rg_take 15 rfl rfl (by kernel_rfl) (by kernel_rfl) (by kernel_rfl) (want_0) (fun w hok => x_pickF (tmB rfl rfl) rfl ev_c) ?_
          refine rg_take 16 rfl rfl (by kernel_rfl) (by kernel_rfl) (by kernel_rfl) (want_0) (fun w hok => x_move (tmB rfl rfl)) ?_
          refine rg_skip 17 rfl rfl (by kernel_rfl) (by kernel_rfl) (by kernel_rfl) (want_n rfl rfl rfl rfl rfl) ?_
          refine rg_take 18 rfl rfl (by kernel_rfl) (by kernel_rfl) (by kernel_rfl) (want_0) (fun w hok => x_pickF (tmB rfl rfl) rfl ev_c) ?_
          refine rg_take 19 rfl rfl (by kernel_rfl) (by kernel_rfl) (by kernel_rfl) (want_0) (fun w hok => x_assign (tmB rfl rfl)) ?_
          refine rg_done (oks_drop hS 1 rfl) (by kernel_rfl) ?_
          refine then_n (hK21 _ _ ?_); clear hK21 K21
          refine wp_ret ?_
          refine ret1 rfl (.tmp rfl (show _ = Value.bool _ from rfl)) ?_
          first
            | exact ⟨rfl, hS.kp.below⟩
            | exact ⟨by simp_all, hS.kp.below⟩
theorem flat_gm (l : List GMm) : flat GMm.V l = flat mmV (l.map fun t => ((t.backend, t.weight) : Mm)) := by
  unfold flat
  rw [List.map_map]
  rfl
set_option maxRecDepth 100000 in
theorem walk (v : Value) (B : Option Addr) (nb cb : Nat) (b : List Nat) (w0 : World) {H : Type} {enc : TypeId × Value → H} {r : Reach} {b0 : Nat} {d : DataW H} {ps : List MemPlace} (hval : Value.okWide Try.prog w0 r b0 28 v) (hd : DataW.Trod enc Try.prog w0 0 (fun _ => true) true 28 v d ps) (hlt : ∀ p ∈ ps, p.block < w0.heap.size)
    (r1 : b.length = nb ∧ (B = none → cb = 0) ∧ BView w0 w0.heap.size B b ∧ nb ≤ cb) :
    Calls Try.prog 3 #[v, .slice B nb cb] w0 fun e w' => e = .returned (.bool true) ∧ Below w0.heap.size w0 w' := by
  obtain ⟨s, rfl, hs⟩ := GOp.open_a hval hd hlt
  obtain ⟨kind, vip, backend, version, a, port, proto, way, l⟩ := s
  obtain ⟨_, _, _, _, hsa, hsp, hsq, _, hsl⟩ := hs
  obtain ⟨hnc, hcm, hv, _⟩ := hsl
  have hmx : maxLen = 9223372036854775807 := by simp [maxLen]
  rw [hmx] at hcm
  obtain ⟨hl, _, ⟨hb, hvb⟩, hcb⟩ := r1
  have hla : adLim a := ⟨by have := hsa; simp [Ad.ok] at this; omega, by have := hsa; simp [Ad.ok] at this; omega⟩
  have hlp : port < 65536 := hsp
  have hlq : proto < 256 := hsq
  exact walk_all ⟨kind, vip, backend, version, a, port, proto, way⟩ l.a l.l.length l.c (l.l.map fun t => ((t.backend, t.weight) : Mm)) B nb cb b w0 (by rw [← flat_gm]; exact hv) (List.length_map ..) (Nat.le_trans hnc hcm) ⟨hla, Nat.le_of_lt_succ hlp, Nat.le_of_lt_succ hlq⟩ hvb hl hcb hb
end CodecOps
end Go.Proofs.Ytoaodcbfehfdoaa
