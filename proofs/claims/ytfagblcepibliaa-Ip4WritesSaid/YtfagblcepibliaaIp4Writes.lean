
/- Proved: Ip4Writes returns true for every header and load, and changes no memory that was there. Conditions: none. -/
import Derived.Test.YtfagblcepibliaaIp4M
import Derived.Test.YtfagblcepibliaaIp4Q
import Derived.Test.YtfagblcepibliaaIp4A
import Derived.Test.YtfagblcepibliaaArgs
namespace Go.Proofs.Ytfagblcepibliaa
open Go.ChangeShapes Go.WideShapes Go.ChangeAt Go.RowKit
structure RH4 where
  tos : Nat
  length : Int
  id : Nat
  stay : Bool
  more : Bool
  offset : Int
  ttl : Nat
  proto : Nat
  sum : Nat
  src : Ad
  dst : Ad
  options : Sl Nat
def RH4.V (s : RH4) : List Value := [.int .u8 (s.tos : Int), .int .i64 s.length, .int .u16 (s.id : Int), .bool s.stay, .bool s.more, .int .i64 s.offset, .int .u8 (s.ttl : Int), .int .u8 (s.proto : Int), .int .u16 (s.sum : Int), .bool s.src.six, .int .u64 (s.src.high : Int), .int .u64 (s.src.low : Int), .bool s.dst.six, .int .u64 (s.dst.high : Int), .int .u64 (s.dst.low : Int), .slice s.options.a s.options.l.length s.options.c]
theorem RH4.len (s : RH4) : s.V.length = 16 := rfl
def RH4.ok (w : World) (s : RH4) : Prop := s.tos < 256 ∧ (-9223372036854775808 ≤ s.length ∧ s.length ≤ 9223372036854775807) ∧ s.id < 65536 ∧ True ∧ True ∧ (-9223372036854775808 ≤ s.offset ∧ s.offset ≤ 9223372036854775807) ∧ s.ttl < 256 ∧ s.proto < 256 ∧ s.sum < 65536 ∧ s.src.ok w ∧ s.dst.ok w ∧ okB w s.options
instance : Inhabited RH4 := ⟨⟨0, 0, 0, false, false, 0, 0, 0, 0, default, default, default⟩⟩
set_option maxRecDepth 100000 in
theorem RH4.open_t {H : Type} {enc : TypeId × Value → H} {w : World} {fuel : Nat} {cs : List Value} {x : DataW H × List MemPlace} (hf : DataW.trod enc Try.prog w 0 (fun _ => true) true fuel 33 cs = some x) (hlt : ∀ p ∈ x.2, p.block < w.heap.size) : ∃ s : RH4, cs = s.V ∧ s.ok w := by
  have hC : Try.prog.cellsOf 33 = 16 := by kernel_rfl
  have hl := (DataW.trod_struct Try.underlying33 hf).choose_spec.choose_spec.2.2.1
  rw [hC] at hl
  obtain ⟨y0, k0, t0, b0⟩ := field_t Try.underlying33 hf hlt 0 _ rfl
  have hC0 : Try.prog.cellsOf 5 = 1 := by kernel_rfl
  obtain ⟨s0, e0, o0⟩ := t_u8 Try.underlying5 t0 b0
  have d0 := split_drop cs 0 1 (hC0 ▸ e0)
  obtain ⟨y1, k1, t1, b1⟩ := field_t Try.underlying33 hf hlt 1 _ rfl
  have hC1 : Try.prog.cellsOf 3 = 1 := by kernel_rfl
  obtain ⟨s1, e1, o1⟩ := t_i64 Try.underlying3 t1 b1
  have d1 := split_drop cs 1 1 (hC1 ▸ e1)
  obtain ⟨y2, k2, t2, b2⟩ := field_t Try.underlying33 hf hlt 2 _ rfl
  have hC2 : Try.prog.cellsOf 24 = 1 := by kernel_rfl
  obtain ⟨s2, e2, o2⟩ := t_u16 Try.underlying24 t2 b2
  have d2 := split_drop cs 2 1 (hC2 ▸ e2)
  obtain ⟨y3, k3, t3, b3⟩ := field_t Try.underlying33 hf hlt 3 _ rfl
  have hC3 : Try.prog.cellsOf 4 = 1 := by kernel_rfl
  obtain ⟨s3, e3, o3⟩ := t_bool Try.underlying4 t3 b3
  have d3 := split_drop cs 3 1 (hC3 ▸ e3)
  obtain ⟨y4, k4, t4, b4⟩ := field_t Try.underlying33 hf hlt 4 _ rfl
  have hC4 : Try.prog.cellsOf 4 = 1 := by kernel_rfl
  obtain ⟨s4, e4, o4⟩ := t_bool Try.underlying4 t4 b4
  have d4 := split_drop cs 4 1 (hC4 ▸ e4)
  obtain ⟨y5, k5, t5, b5⟩ := field_t Try.underlying33 hf hlt 5 _ rfl
  have hC5 : Try.prog.cellsOf 3 = 1 := by kernel_rfl
  obtain ⟨s5, e5, o5⟩ := t_i64 Try.underlying3 t5 b5
  have d5 := split_drop cs 5 1 (hC5 ▸ e5)
  obtain ⟨y6, k6, t6, b6⟩ := field_t Try.underlying33 hf hlt 6 _ rfl
  have hC6 : Try.prog.cellsOf 5 = 1 := by kernel_rfl
  obtain ⟨s6, e6, o6⟩ := t_u8 Try.underlying5 t6 b6
  have d6 := split_drop cs 6 1 (hC6 ▸ e6)
  obtain ⟨y7, k7, t7, b7⟩ := field_t Try.underlying33 hf hlt 7 _ rfl
  have hC7 : Try.prog.cellsOf 5 = 1 := by kernel_rfl
  obtain ⟨s7, e7, o7⟩ := t_u8 Try.underlying5 t7 b7
  have d7 := split_drop cs 7 1 (hC7 ▸ e7)
  obtain ⟨y8, k8, t8, b8⟩ := field_t Try.underlying33 hf hlt 8 _ rfl
  have hC8 : Try.prog.cellsOf 24 = 1 := by kernel_rfl
  obtain ⟨s8, e8, o8⟩ := t_u16 Try.underlying24 t8 b8
  have d8 := split_drop cs 8 1 (hC8 ▸ e8)
  obtain ⟨y9, k9, t9, b9⟩ := field_t Try.underlying33 hf hlt 9 _ rfl
  have hC9 : Try.prog.cellsOf 27 = 3 := by kernel_rfl
  obtain ⟨s9, e9, o9⟩ := Ad.open_t t9 b9
  have d9 := split_drop cs 9 3 (hC9 ▸ e9)
  obtain ⟨y10, k10, t10, b10⟩ := field_t Try.underlying33 hf hlt 10 _ rfl
  have hC10 : Try.prog.cellsOf 27 = 3 := by kernel_rfl
  obtain ⟨s10, e10, o10⟩ := Ad.open_t t10 b10
  have d10 := split_drop cs 12 3 (hC10 ▸ e10)
  obtain ⟨y11, k11, t11, b11⟩ := field_t Try.underlying33 hf hlt 11 _ rfl
  have hC11 : Try.prog.cellsOf 22 = 1 := by kernel_rfl
  obtain ⟨s11, e11, o11⟩ := t_bytes Try.underlying22 Try.underlying5 (by kernel_rfl) t11 b11
  have d11 := split_drop cs 15 1 (hC11 ▸ e11)
  refine ⟨⟨s0, s1, s2, s3, s4, s5, s6, s7, s8, s9, s10, s11⟩, ?_, ⟨o0, o1, o2, o3, o4, o5, o6, o7, o8, o9, o10, o11⟩⟩
  have dn : cs.drop 16 = [] := List.drop_eq_nil_of_le (by omega)
  rw [← List.drop_zero (l := cs)]
  refine d0.trans ?_
  rw [show cs.drop (0 + 1) = _ from d1]
  rw [show cs.drop (1 + 1) = _ from d2]
  rw [show cs.drop (2 + 1) = _ from d3]
  rw [show cs.drop (3 + 1) = _ from d4]
  rw [show cs.drop (4 + 1) = _ from d5]
  rw [show cs.drop (5 + 1) = _ from d6]
  rw [show cs.drop (6 + 1) = _ from d7]
  rw [show cs.drop (7 + 1) = _ from d8]
  rw [show cs.drop (8 + 1) = _ from d9]
  rw [show cs.drop (9 + 3) = _ from d10]
  rw [show cs.drop (12 + 3) = _ from d11]
  rw [show cs.drop (15 + 1) = [] from dn]
  rfl
set_option maxRecDepth 100000 in
theorem RH4.open_a {H : Type} {enc : TypeId × Value → H} {w : World} {r : Reach} {b0 : Nat} {v : Value} {d : DataW H} {ps : List MemPlace} (hval : Value.okWide Try.prog w r b0 33 v) (hd : DataW.Trod enc Try.prog w 0 (fun _ => true) true 33 v d ps) (hlt : ∀ p ∈ ps, p.block < w.heap.size) : ∃ s : RH4, v = .agg s.V.toArray ∧ s.ok w := by
  obtain ⟨cs, rfl, _⟩ := okWide_struct Try.underlying33 hval
  obtain ⟨fuel, hf⟩ := hd
  obtain ⟨s, e, h⟩ := RH4.open_t hf hlt
  exact ⟨s, by rw [← e]; simp [Value.cells], h⟩
theorem new_nil (w : World) (e : TypeId) : New w w (.row (.slice none 0 0) e 1 0 []) := ⟨World.ownsRow_nil w 0 e 1, rfl, fun g hg => by cases hg⟩
theorem right4_form {a : Ad} (h : right4P a) : ∃ low, a = ⟨false, 0, low⟩ ∧ low < 4294967296 := by
  obtain ⟨six, high, low⟩ := a
  obtain ⟨h1, h2⟩ := h
  have h2' : six = false := h2
  subst h2'
  rcases h1 with h | h
  · cases h
  · have h3 : high = 0 := h.1
    have h4 : low ≤ 4294967295 := h.2
    subst h3
    exact ⟨low, rfl, by omega⟩
def Sent (w w' : World) (bb : List Nat) (v : Value) : Prop := ∃ A n c, n = bb.length ∧ v = .slice A n c ∧ New w w' (.row (.slice A n c) 5 1 n (bb.map u8v))

namespace Ip4Writes
set_option maxRecDepth 100000 in
set_option maxHeartbeats 8000000 in
theorem walkC (tos : Nat) (len : Int) (id : Nat) (stay more : Bool) (off : Int) (ttl proto sum : Nat) (s d : Ad) (O : Option Addr) (c : Nat) (o : List Nat) (L : Option Addr) (k cl : Nat) (x : List Nat) (w0 : World)
    (q1 : tos < 256) (q3 : id < 65536) (q7 : ttl < 256) (q8 : proto < 256) (hob : Bytes o) (hov : View w0 w0.heap.size O (o.map u8v)) (hx : x.length = k) (hxb : Bytes x) (hxv : View w0 w0.heap.size L (x.map u8v)) :
    Calls Try.prog 4 #[.agg (hdV tos len id stay more off ttl proto sum s d O o.length c).toArray, .slice L k cl] w0 fun e w' => e = .returned (.bool true) ∧ Below w0.heap.size w0 w' := by
  have hS := ((St.sv w0).vcons rfl hov).vcons rfl hxv
  by_cases hbig : 3000 < k ∨ 100 < o.length
  · skip
    refine ent (n := 127) Try.func4 rfl rfl ?_
    refine wp_seq_k ?_; intro K1 hK1
    refine wlit ?_
    refine wl_e rfl ?_; intro K hK
    refine ow_box hS (tmA rfl rfl) rfl ?_
    clear hS; intro g0_0 w hg0_0 hS
    refine hK _ _ ?_; clear hK K
    refine wl_v (x_assign ev_c) ?_
    refine wl_nil ?_
    refine then_n (hK1 _ _ ?_); clear hK1 K1
    refine wp_seq_k ?_; intro K2 hK2
    refine wp_seq_k ?_; intro K3 hK3
    refine wlit ?_
    refine wl_v (x_move (tmS rfl rfl)) ?_
    refine wl_v (x_len Try.underlying22 (tmS rfl rfl)) ?_
    refine wl_v (x_gtr (tmI rfl rfl) (ev_cN 3000)) ?_
    refine wl_v (x_move (tmB rfl rfl)) ?_
    refine gs_wl (tm (t := 16) rfl) (fun hg1_3 => ?_) (fun hg1_3 => ?_)
    · have hg1_3' := hg1_3; (try simp only [nrm] at hg1_3'); try (exfalso; first | with_reducible exact absurd hg1_3 Bool.false_ne_true | with_reducible exact absurd hg1_3.symm Bool.false_ne_true | omega | (simp at hg1_3; done))
      all_goals
       refine wl_s rfl (want_n rfl rfl rfl rfl (by rw [hg1_3]; rfl)) ?_
       refine wl_s rfl (want_n rfl rfl rfl rfl (by rw [hg1_3]; rfl)) ?_
       refine wl_s rfl (want_n rfl rfl rfl rfl (by rw [hg1_3]; rfl)) ?_
       refine wl_s rfl (want_n rfl rfl rfl rfl (by rw [hg1_3]; rfl)) ?_
       refine wl_v (x_pickT (tmB rfl rfl) hg1_3 ev_c) ?_
       refine wl_nil ?_
       refine then_n (hK3 _ _ ?_); clear hK3 K3
       refine cnd_t (tmB rfl rfl) rfl ?_
       refine wp_seq_k ?_; intro K4 hK4
       refine wlit ?_
       refine wl_e rfl ?_; intro K hK
       refine ow_call Try.func19 rfl rfl (evs_nil) (law04_awake_c _) ?_
       rintro e w ⟨rfl, hk⟩
       refine ⟨_, rfl, ?_⟩
       replace hS := hS.kept hk
       clear hk
       refine hK _ _ ?_; clear hK K
       refine wl_v (x_assign (tmB rfl rfl)) ?_
       refine wl_nil ?_
       refine then_n (hK4 _ _ ?_); clear hK4 K4
       refine wp_ret ?_
       refine then_r ?_
       refine ret1 rfl (.tmp rfl (show _ = Value.bool _ from rfl)) ?_
       exact ⟨rfl, hS.kp.below⟩
    have hg1_3' := hg1_3; (try simp only [nrm] at hg1_3'); try (exfalso; first | with_reducible exact absurd hg1_3 Bool.false_ne_true | with_reducible exact absurd hg1_3.symm Bool.false_ne_true | omega | (simp at hg1_3; done))
    all_goals
     refine wl_gv (want_y rfl rfl rfl rfl (by rw [hg1_3]; rfl)) (x_fa 15 Try.underlying33 rfl rfl ts_22 (tmP rfl rfl)) ?_
     first
      | refine wl_gv (want_y rfl rfl rfl rfl (by rw [hg1_3]; rfl)) (x_load Try.underlying22 rfl (tmP rfl rfl) (cellB hS.ok 0 rfl rfl)) ?_
      | refine wl_gv (want_y rfl rfl rfl rfl (by rw [hg1_3]; rfl)) (x_load Try.underlying22 rfl (tmP rfl rfl) (cellB hS.ok 0 rfl (getm (by omega)))) ?_
     refine wl_gv (want_y rfl rfl rfl rfl (by rw [hg1_3]; rfl)) (x_len Try.underlying22 (tmS rfl rfl)) ?_
     refine wl_gv (want_y rfl rfl rfl rfl (by rw [hg1_3]; rfl)) (x_gtr (tmI rfl rfl) (ev_cN 100)) ?_
     refine wl_v (x_pickF (tmB rfl rfl) hg1_3 (tmB rfl rfl)) ?_
     refine wl_nil ?_
     refine then_n (hK3 _ _ ?_); clear hK3 K3
     refine cnds (tm rfl) (fun hc0 => ?_) (fun hc0 => ?_)
     · exfalso
       simp only [nrm] at hc0
       omega
     try (exfalso; first | with_reducible exact absurd hc0 Bool.false_ne_true | with_reducible exact absurd hc0.symm Bool.false_ne_true | (simp only [nrm] at hc0; omega) | (simp at hc0; done))
     all_goals
      try simp only [nrm] at hc0
      refine wp_seq_k ?_; intro K5 hK5
      refine wlit ?_
      refine wl_e rfl ?_; intro K hK
      refine ow_call Try.func19 rfl rfl (evs_nil) (law04_awake_c _) ?_
      rintro e w ⟨rfl, hk⟩
      refine ⟨_, rfl, ?_⟩
      replace hS := hS.kept hk
      clear hk
      refine hK _ _ ?_; clear hK K
      refine wl_v (x_assign (tmB rfl rfl)) ?_
      refine wl_nil ?_
      refine then_n (hK5 _ _ ?_); clear hK5 K5
      refine wp_ret ?_
      refine then_r ?_
      refine ret1 rfl (.tmp rfl (show _ = Value.bool _ from rfl)) ?_
      exact ⟨rfl, hS.kp.below⟩
  have hm : o.length ≤ 100 := by omega
  have hk3 : k ≤ 3000 := by omega
  -- the header's bytes
  have hB : ∃ bb : List Nat, (¬ hdRight len off s d o.length → bb = []) ∧ Bytes bb ∧
      (∀ w, View w w.heap.size O (o.map u8v) → Calls Try.prog 29 #[.agg (hdV tos len id stay more off ttl proto sum s d O o.length c).toArray] w fun e w' => ∃ A n c', n = bb.length ∧ e = .returned (.slice A n c') ∧ New w w' (.row (.slice A n c') 5 1 n (bb.map u8v)) ∧ Kp [] w w') ∧
      (hdRight len off s d o.length → ∀ w, View w w.heap.size O (o.map u8v) → Calls Try.prog 30 #[.agg (hdV tos len id stay more off ttl proto sum s d O o.length c).toArray] w fun e w' => ∃ A n c', n = bb.length ∧ e = .returned (.slice A n c') ∧ New w w' (.row (.slice A n c') 5 1 n (bb.map u8v)) ∧ Kp [] w w') := by
    by_cases hr : hdRight len off s d o.length
    · have hr' := hr
      obtain ⟨r1, r2, r3, r4, r5, r6, r7, r8⟩ := hr'
      obtain ⟨sl, rfl, hsl⟩ := right4_form r7
      obtain ⟨dl, rfl, hdl⟩ := right4_form r8
      obtain ⟨len, rfl⟩ := Int.eq_ofNat_of_zero_le (a := len) (by omega)
      obtain ⟨off, rfl⟩ := Int.eq_ofNat_of_zero_le (a := off) (by omega)
      refine ⟨_, fun h => absurd hr h, hd4B_bytes tos len id (flN off stay more) ttl proto (hd4C tos len id (flN off stay more) ttl proto sl dl o) sl dl hob, fun w h1 => ?_, fun _ w h1 => ?_⟩
      · rw [hd4B_len]; exact ip4_bytes_c tos len id stay more off ttl proto sum sl dl O c o w h1 hob q1 q3 q7 q8 hr
      · rw [hd4B_len]; exact rip4_bytes_c tos len id stay more off ttl proto sum sl dl O c o w h1 hob q1 q3 q7 q8 hr
    · exact ⟨[], fun _ => rfl, Bytes.nil, fun w h1 => Calls.mono (ip4_nobytes_c tos len id stay more off ttl proto sum s d O o.length c w (by omega) hr) fun e w' h => ⟨none, 0, 0, rfl, h.1, ⟨World.ownsRow_nil w' 0 _ 1, rfl, fun g hg => by cases hg⟩, h.2⟩, fun h => absurd h hr⟩
  obtain ⟨bb, hbb0, hbbb, hI, hR⟩ := hB
  -- the packet
  have hP : ∃ (pp : List Nat) (er : Nat), (er = 0 ∨ er = 1) ∧ Bytes pp ∧
      (∀ w, View w w.heap.size O (o.map u8v) → View w w.heap.size L (x.map u8v) → Calls Try.prog 31 #[.agg (hdV tos len id stay more off ttl proto sum s d O o.length c).toArray, .slice L k cl] w fun e w' => ∃ A n c', n = pp.length ∧ e = .returned (.tuple #[.slice A n c', .int .i64 (er : Int)]) ∧ New w w' (.row (.slice A n c') 5 1 n (pp.map u8v)) ∧ Kp [] w w') ∧
      (∀ w, View w w.heap.size O (o.map u8v) → View w w.heap.size L (x.map u8v) → Calls Try.prog 32 #[.agg (hdV tos len id stay more off ttl proto sum s d O o.length c).toArray, .slice L k cl] w fun e w' => ∃ A n c', n = pp.length ∧ e = .returned (.tuple #[.slice A n c', .int .i64 (er : Int)]) ∧ New w w' (.row (.slice A n c') 5 1 n (pp.map u8v)) ∧ Kp [] w w') ∧
      (er = 0 → ∃ ck, ∀ w A c', View w w.heap.size A (pp.map u8v) → pp.length ≤ c' → Calls Try.prog 20 #[.slice A pp.length c'] w fun e w' => ∃ O1 L1, e = .returned (.tuple #[.agg (hdV tos ((20 + o.length + k : Nat) : Int) id stay more off ttl proto ck s d O1 o.length o.length).toArray, .slice L1 k k, .int .i64 0]) ∧ NewV w w' O1 (o.map u8v) ∧ NewV w w' L1 (x.map u8v) ∧ Kp [] w w') := by
    subst hx
    by_cases hr : hdRight ((20 + o.length + x.length : Nat) : Int) off s d o.length
    · have hr' := hr
      obtain ⟨r1, r2, r3, r4, r5, r6, r7, r8⟩ := hr'
      obtain ⟨sl, rfl, hsl⟩ := right4_form r7
      obtain ⟨dl, rfl, hdl⟩ := right4_form r8
      obtain ⟨off, rfl⟩ := Int.eq_ofNat_of_zero_le (a := off) (by omega)
      have ho : off < 8192 := by omega
      obtain ⟨pp, hpp⟩ : ∃ pp, pp = hd4B tos (20 + o.length + x.length) id (flN off stay more) ttl proto (hd4C tos (20 + o.length + x.length) id (flN off stay more) ttl proto sl dl o) sl dl o ++ x := ⟨_, rfl⟩
      have hppl : pp.length = 20 + o.length + x.length := by rw [hpp, List.length_append, hd4B_len]
      have hppb : Bytes pp := by rw [hpp]; exact (hd4B_bytes _ _ _ _ _ _ _ _ _ hob).append hxb
      have hgot := hd4B_read tos id (flN off stay more) ttl proto sl dl o x q1 q3 (flN_lt ho) q7 q8 hsl hdl r1 r2 (by omega) pp _ rfl hpp
      refine ⟨pp, 0, .inl rfl, hppb, fun w h1 h2 => ?_, fun w h1 h2 => ?_, fun _ => ⟨hd4C tos (20 + o.length + x.length) id (flN off stay more) ttl proto sl dl o, fun w A c' hv hc => ?_⟩⟩
      · rw [hppl, hpp]; exact ip4_packet_c tos len id stay more off ttl proto sum sl dl O c o L cl x w h1 hob h2 q1 q3 q7 q8 hr
      · rw [hppl, hpp]; exact rip4_packet_c tos len id stay more off ttl proto sum sl dl O c o L cl x w h1 hob h2 q1 q3 q7 q8 hr
      · have h := ip4_parse_c pp.length A c' pp w hv rfl hc hppb (by omega) _ _ hgot.form (by omega) hgot.sum
        rw [hgot.g1, hgot.g4, hgot.g6, hgot.g8, hgot.g9, hgot.g10, hgot.g12, hgot.g16, hgot.opt, hgot.load, flN_stay ho, flN_more ho, flN_off ho, show 20 + o.length - 20 = o.length by omega, show 20 + o.length + x.length - (20 + o.length) = x.length by omega] at h
        exact h
    · refine ⟨[], 1, .inr rfl, Bytes.nil, fun w h1 h2 => ?_, fun w h1 h2 => ?_, fun h => by cases h⟩
      · exact Calls.mono (ip4_packet_bad tos len id stay more off ttl proto sum s d O o.length c L x.length cl w (by omega) (by omega) 1 (.inr ⟨by omega, hr, rfl⟩)) fun e w' h => ⟨none, 0, 0, rfl, h.1, ⟨World.ownsRow_nil w' 0 _ 1, rfl, fun g hg => by cases hg⟩, h.2⟩
      · exact Calls.mono (rip4_packet_bad tos len id stay more off ttl proto sum s d O o.length c L x.length cl w (by omega) (by omega) 1 (.inr ⟨by omega, hr, rfl⟩)) fun e w' h => ⟨none, 0, 0, rfl, h.1, ⟨World.ownsRow_nil w' 0 _ 1, rfl, fun g hg => by cases hg⟩, h.2⟩
  obtain ⟨pp, er, her, hppb, hPI, hPR, hpar⟩ := hP
  refine ent (n := 127) Try.func4 rfl rfl ?_
  refine wp_seq_k ?_; intro K1 hK1
  refine wlit ?_
  refine wl_e rfl ?_; intro K hK
  refine ow_box hS (tmA rfl rfl) rfl ?_
  clear hS; intro g0_0 w hg0_0 hS
  refine hK _ _ ?_; clear hK K
  refine wl_v (x_assign ev_c) ?_
  refine wl_nil ?_
  refine then_n (hK1 _ _ ?_); clear hK1 K1
  refine wp_seq_k ?_; intro K2 hK2
  refine wp_seq_k ?_; intro K3 hK3
  refine wlit ?_
  refine wl_v (x_move (tmS rfl rfl)) ?_
  refine wl_v (x_len Try.underlying22 (tmS rfl rfl)) ?_
  refine wl_v (x_gtr (tmI rfl rfl) (ev_cN 3000)) ?_
  refine wl_v (x_move (tmB rfl rfl)) ?_
  refine gs_wl (tm (t := 16) rfl) (fun hg1_3 => ?_) (fun hg1_3 => ?_)
  · have hg1_3' := hg1_3; (try simp only [nrm] at hg1_3'); try (exfalso; first | with_reducible exact absurd hg1_3 Bool.false_ne_true | with_reducible exact absurd hg1_3.symm Bool.false_ne_true | omega | (simp at hg1_3; done))
    all_goals
     refine wl_s rfl (want_n rfl rfl rfl rfl (by rw [hg1_3]; rfl)) ?_
     refine wl_s rfl (want_n rfl rfl rfl rfl (by rw [hg1_3]; rfl)) ?_
     refine wl_s rfl (want_n rfl rfl rfl rfl (by rw [hg1_3]; rfl)) ?_
     refine wl_s rfl (want_n rfl rfl rfl rfl (by rw [hg1_3]; rfl)) ?_
     refine wl_v (x_pickT (tmB rfl rfl) hg1_3 ev_c) ?_
     refine wl_nil ?_
     refine then_n (hK3 _ _ ?_); clear hK3 K3
     refine cnd_t (tmB rfl rfl) rfl ?_
     refine wp_seq_k ?_; intro K4 hK4
     refine wlit ?_
     refine wl_e rfl ?_; intro K hK
     refine ow_call Try.func19 rfl rfl (evs_nil) (law04_awake_c _) ?_
     rintro e w ⟨rfl, hk⟩
     refine ⟨_, rfl, ?_⟩
     replace hS := hS.kept hk
     clear hk
     refine hK _ _ ?_; clear hK K
     refine wl_v (x_assign (tmB rfl rfl)) ?_
     refine wl_nil ?_
     refine then_n (hK4 _ _ ?_); clear hK4 K4
     refine wp_ret ?_
     refine then_r ?_
     refine ret1 rfl (.tmp rfl (show _ = Value.bool _ from rfl)) ?_
     first
       | exact ⟨rfl, hS.kp.below⟩
       | exact ⟨by simp, hS.kp.below⟩
  have hg1_3' := hg1_3; (try simp only [nrm] at hg1_3'); try (exfalso; first | with_reducible exact absurd hg1_3 Bool.false_ne_true | with_reducible exact absurd hg1_3.symm Bool.false_ne_true | omega | (simp at hg1_3; done))
  all_goals
   refine wl_gv (want_y rfl rfl rfl rfl (by rw [hg1_3]; rfl)) (x_fa 15 Try.underlying33 rfl rfl ts_22 (tmP rfl rfl)) ?_
   first
    | refine wl_gv (want_y rfl rfl rfl rfl (by rw [hg1_3]; rfl)) (x_load Try.underlying22 rfl (tmP rfl rfl) (cellB hS.ok 0 rfl rfl)) ?_
    | refine wl_gv (want_y rfl rfl rfl rfl (by rw [hg1_3]; rfl)) (x_load Try.underlying22 rfl (tmP rfl rfl) (cellB hS.ok 0 rfl (getm (by omega)))) ?_
   refine wl_gv (want_y rfl rfl rfl rfl (by rw [hg1_3]; rfl)) (x_len Try.underlying22 (tmS rfl rfl)) ?_
   refine wl_gv (want_y rfl rfl rfl rfl (by rw [hg1_3]; rfl)) (x_gtr (tmI rfl rfl) (ev_cN 100)) ?_
   refine wl_v (x_pickF (tmB rfl rfl) hg1_3 (tmB rfl rfl)) ?_
   refine wl_nil ?_
   refine then_n (hK3 _ _ ?_); clear hK3 K3
   refine cnd (tm rfl) (fun hc0 => ?_) (fun hc0 => ?_)
   · exfalso
     simp only [nrm] at hc0
     omega
   try (exfalso; first | with_reducible exact absurd hc0 Bool.false_ne_true | with_reducible exact absurd hc0.symm Bool.false_ne_true | (simp only [nrm] at hc0; omega) | (simp at hc0; done))
   all_goals
    try simp only [nrm] at hc0
    refine wp_skip ?_
    refine then_n (hK2 _ _ ?_); clear hK2 K2
    refine wp_seq_k ?_; intro K5 hK5
    refine wlit ?_
    refine wl_v (x_loadA (cs := [_, _, _, _, _, _, _, _, _, _, _, _, _, _, _, _]) Try.underlying33 rfl ts_33 (tmP rfl rfl) (rangeB hS.ok 0 rfl rfl)) ?_
    refine wl_e rfl ?_; intro K hK
    refine ow_call Try.func24 rfl rfl (evs_cons (tmA rfl rfl) <| evs_nil) (to04_c tos len id stay more off ttl proto sum s d O o.length c _) ?_
    rintro e w ⟨rfl, hk⟩
    refine ⟨_, rfl, ?_⟩
    replace hS := hS.kept hk
    clear hk
    refine hK _ _ ?_; clear hK K
    refine wl_e rfl ?_; intro K hK
    refine ow_alloc hS tz_29 rfl ?_
    clear hS; intro g3_2 w hg3_2 hS
    refine hK _ _ ?_; clear hK K
    refine wl_e rfl ?_; intro K hK
    refine ow_storeA hS 0 rfl ts_29 (tmP rfl rfl) (tmA rfl rfl) rfl rfl rfl ?_
    clear hS; intro w hS
    try replace hS := St.nm (M' := [.blk _ _ [_, _, _, _, _, _, _, _, _, _, _, _, _, _, _, _], .blk _ _ [_, _, _, _, _, _, _, _, _, _, _, _, _, _, _, _], .vw _ _, .vw _ _]) hS rfl
    refine hK _ _ ?_; clear hK K
    refine wl_nil ?_
    refine then_n (hK5 _ _ ?_); clear hK5 K5
    refine wp_seq_k ?_; intro K6 hK6
    refine wp_seq_k ?_; intro K7 hK7
    refine cutc [25, 26, 27, 28, 29, 30, 31, 32, 33, 34, 35, 36, 37, 38, 39, 40, 41, 42, 43, 44, 45, 46, 47, 48, 49, 50] (fun g w => g 50 = .bool false ∧ St [] w0 [.blk g3_2 29 (hdV tos len id stay more off ttl proto sum s d O o.length c), .blk g0_0 33 (hdV tos len id stay more off ttl proto sum s d O o.length c), .vw L (x.map u8v), .vw O (o.map u8v)] w) ?_ ?_
    · skip
      refine rg_startk 0 hS mixed_ ?_
      clear hS; intro w hS
      refine rg_take 0 rfl rfl (by kernel_rfl) (by kernel_rfl) (by kernel_rfl) (want_0) (fun w hok => x_loadA (cs := [_, _, _, _, _, _, _, _, _, _, _, _, _, _, _, _]) Try.underlying29 rfl ts_29 (tmP rfl rfl) (rangeB hok 0 rfl rfl)) ?_
      refine rg_take 2 rfl rfl (by kernel_rfl) (by kernel_rfl) (by kernel_rfl) (want_0) (fun w hok => x_loadA (cs := [_, _, _, _, _, _, _, _, _, _, _, _, _, _, _, _]) Try.underlying33 rfl ts_33 (tmP rfl rfl) (rangeB hok 1 rfl rfl)) ?_
      refine rg_step 1 rfl (by kernel_rfl) (want_0) (oks_drop hS 0 rfl) ?_; intro K hK
      refine ow_call Try.func25 rfl rfl (evs_cons (tmA rfl rfl) <| evs_nil) (ip4_right_c tos len id stay more off ttl proto sum s d O o.length c _ (by omega)) ?_
      rintro e w ⟨rfl, hk⟩
      refine ⟨_, rfl, ?_⟩
      replace hS := hS.kept hk
      clear hk
      refine hK _ _ ?_; clear hK K
      refine rg_step 3 rfl (by kernel_rfl) (want_0) (oks_drop hS 0 rfl) ?_; intro K hK
      refine ow_call Try.func26 rfl rfl (evs_cons (tmA rfl rfl) <| evs_nil) (rip4_right_c tos len id stay more off ttl proto sum s d O o.length c _ (by omega)) ?_
      rintro e w ⟨rfl, hk⟩
      refine ⟨_, rfl, ?_⟩
      replace hS := hS.kept hk
      clear hk
      refine hK _ _ ?_; clear hK K
      refine rg_take 4 rfl rfl (by kernel_rfl) (by kernel_rfl) (by kernel_rfl) (want_0) (fun w hok => x_bneq Try.underlying4 (tmB rfl rfl) (tmB rfl rfl)) ?_
      refine rg_take 5 rfl rfl (by kernel_rfl) (by kernel_rfl) (by kernel_rfl) (want_0) (fun w hok => x_move (tmB rfl rfl)) ?_
      refine gs_rg (tm (t := 30) rfl) (fun hg4_5 => ?_) (fun hg4_5 => ?_)
      · exfalso
        simp at hg4_5
      have hg4_5' := hg4_5; (try simp only [nrm] at hg4_5'); try (exfalso; first | with_reducible exact absurd hg4_5 Bool.false_ne_true | with_reducible exact absurd hg4_5.symm Bool.false_ne_true | omega | (simp at hg4_5; done))
      all_goals
       refine rg_take 6 rfl rfl (by kernel_rfl) (by kernel_rfl) (by kernel_rfl) (want_y rfl rfl rfl rfl (by rw [hg4_5]; rfl)) (fun w hok => x_loadA (cs := [_, _, _, _, _, _, _, _, _, _, _, _, _, _, _, _]) Try.underlying29 rfl ts_29 (tmP rfl rfl) (rangeB hok 0 rfl rfl)) ?_
       refine rg_take 8 rfl rfl (by kernel_rfl) (by kernel_rfl) (by kernel_rfl) (want_y rfl rfl rfl rfl (by rw [hg4_5]; rfl)) (fun w hok => x_fa 15 Try.underlying33 rfl rfl ts_22 (tmP rfl rfl)) ?_
       first
        | refine rg_take 9 rfl rfl (by kernel_rfl) (by kernel_rfl) (by kernel_rfl) (want_y rfl rfl rfl rfl (by rw [hg4_5]; rfl)) (fun w hok => x_load Try.underlying22 rfl (tmP rfl rfl) (cellB hok 1 rfl rfl)) ?_
        | refine rg_take 9 rfl rfl (by kernel_rfl) (by kernel_rfl) (by kernel_rfl) (want_y rfl rfl rfl rfl (by rw [hg4_5]; rfl)) (fun w hok => x_load Try.underlying22 rfl (tmP rfl rfl) (cellB hok 1 rfl (getm (by omega)))) ?_
       refine rg_take 10 rfl rfl (by kernel_rfl) (by kernel_rfl) (by kernel_rfl) (want_y rfl rfl rfl rfl (by rw [hg4_5]; rfl)) (fun w hok => x_len Try.underlying22 (tmS rfl rfl)) ?_
       first
        | refine rg_take 11 rfl rfl (by kernel_rfl) (by kernel_rfl) (by kernel_rfl) (want_y rfl rfl rfl rfl (by rw [hg4_5]; rfl)) (fun w hok => x_addN (ev_cN 20) (tmI rfl rfl) (fit_i64 (by omega))) ?_
        | refine rg_take 11 rfl rfl (by kernel_rfl) (by kernel_rfl) (by kernel_rfl) (want_y rfl rfl rfl rfl (by rw [hg4_5]; rfl)) (fun w hok => x_addI (ev_cN 20) (tmI rfl rfl) (IntWalk.i64_in _ (by omega))) ?_
        | refine rg_take 11 rfl rfl (by kernel_rfl) (by kernel_rfl) (by kernel_rfl) (want_y rfl rfl rfl rfl (by rw [hg4_5]; rfl)) (fun w hok => x_add (ev_cN 20) (tmI rfl rfl)) ?_
       refine rg_step 7 rfl (by kernel_rfl) (want_y rfl rfl rfl rfl (by rw [hg4_5]; rfl)) (oks_drop hS 0 rfl) ?_; intro K hK
       refine ow_call Try.func27 rfl rfl (evs_cons (tmA rfl rfl) <| evs_nil) (ip4_size_c tos len id stay more off ttl proto sum s d O o.length c _ (by omega)) ?_
       rintro e w ⟨rfl, hk⟩
       refine ⟨_, rfl, ?_⟩
       replace hS := hS.kept hk
       clear hk
       refine hK _ _ ?_; clear hK K
       refine rg_take 12 rfl rfl (by kernel_rfl) (by kernel_rfl) (by kernel_rfl) (want_y rfl rfl rfl rfl (by rw [hg4_5]; rfl)) (fun w hok => x_neq (tmI rfl rfl) (tmI rfl rfl)) ?_
       refine rg_take 13 rfl rfl (by kernel_rfl) (by kernel_rfl) (by kernel_rfl) (want_0) (fun w hok => x_pickF (tmB rfl rfl) hg4_5 (tmB rfl rfl)) ?_
       refine rg_take 14 rfl rfl (by kernel_rfl) (by kernel_rfl) (by kernel_rfl) (want_0) (fun w hok => x_move (tmB rfl rfl)) ?_
       refine gs_rg (tm (t := 39) rfl) (fun hg4_14 => ?_) (fun hg4_14 => ?_)
       · exfalso
         simp at hg4_14
       have hg4_14' := hg4_14; (try simp only [nrm] at hg4_14'); try (exfalso; first | with_reducible exact absurd hg4_14 Bool.false_ne_true | with_reducible exact absurd hg4_14.symm Bool.false_ne_true | omega | (simp at hg4_14; done))
       all_goals
        refine rg_take 15 rfl rfl (by kernel_rfl) (by kernel_rfl) (by kernel_rfl) (want_y rfl rfl rfl rfl (by rw [hg4_14]; rfl)) (fun w hok => x_loadA (cs := [_, _, _, _, _, _, _, _, _, _, _, _, _, _, _, _]) Try.underlying29 rfl ts_29 (tmP rfl rfl) (rangeB hok 0 rfl rfl)) ?_
        refine rg_take 17 rfl rfl (by kernel_rfl) (by kernel_rfl) (by kernel_rfl) (want_y rfl rfl rfl rfl (by rw [hg4_14]; rfl)) (fun w hok => x_fa 4 Try.underlying33 rfl rfl ts_4 (tmP rfl rfl)) ?_
        first
         | refine rg_take 18 rfl rfl (by kernel_rfl) (by kernel_rfl) (by kernel_rfl) (want_y rfl rfl rfl rfl (by rw [hg4_14]; rfl)) (fun w hok => x_load Try.underlying4 rfl (tmP rfl rfl) (cellB hok 1 rfl rfl)) ?_
         | refine rg_take 18 rfl rfl (by kernel_rfl) (by kernel_rfl) (by kernel_rfl) (want_y rfl rfl rfl rfl (by rw [hg4_14]; rfl)) (fun w hok => x_load Try.underlying4 rfl (tmP rfl rfl) (cellB hok 1 rfl (getm (by omega)))) ?_
        refine rg_step 16 rfl (by kernel_rfl) (want_y rfl rfl rfl rfl (by rw [hg4_14]; rfl)) (oks_drop hS 0 rfl) ?_; intro K hK
        refine ow_call Try.func28 rfl rfl (evs_cons (tmA rfl rfl) <| evs_nil) (ip4_frag_c tos len id stay more off ttl proto sum s d O o.length c _ (by omega)) ?_
        rintro e w ⟨rfl, hk⟩
        refine ⟨_, rfl, ?_⟩
        replace hS := hS.kept hk
        clear hk
        refine hK _ _ ?_; clear hK K
        refine rg_take 19 rfl rfl (by kernel_rfl) (by kernel_rfl) (by kernel_rfl) (want_y rfl rfl rfl rfl (by rw [hg4_14]; rfl)) (fun w hok => x_move (tmB rfl rfl)) ?_
        refine gs_rg (tm (t := 44) rfl) (fun hg4_19 => ?_) (fun hg4_19 => ?_)
        · have hg4_19' := hg4_19; (try simp only [nrm] at hg4_19'); try (exfalso; first | with_reducible exact absurd hg4_19 Bool.false_ne_true | with_reducible exact absurd hg4_19.symm Bool.false_ne_true | omega | (simp at hg4_19; done))
          all_goals
           refine rg_skip 20 rfl rfl (by kernel_rfl) (by kernel_rfl) (by kernel_rfl) (want_n rfl rfl rfl rfl (by rw [hg4_19]; rfl)) ?_
           refine rg_skip 21 rfl rfl (by kernel_rfl) (by kernel_rfl) (by kernel_rfl) (want_n rfl rfl rfl rfl (by rw [hg4_19]; rfl)) ?_
           refine rg_skip 22 rfl rfl (by kernel_rfl) (by kernel_rfl) (by kernel_rfl) (want_n rfl rfl rfl rfl (by rw [hg4_19]; rfl)) ?_
           refine rg_take 23 rfl rfl (by kernel_rfl) (by kernel_rfl) (by kernel_rfl) (want_y rfl rfl rfl rfl (by rw [hg4_14]; rfl)) (fun w hok => x_pickT (tmB rfl rfl) hg4_19 ev_c) ?_
           refine rg_take 24 rfl rfl (by kernel_rfl) (by kernel_rfl) (by kernel_rfl) (want_y rfl rfl rfl rfl (by rw [hg4_14]; rfl)) (fun w hok => x_bneq Try.underlying4 (tmB rfl rfl) (tmB rfl rfl)) ?_
           refine rg_take 25 rfl rfl (by kernel_rfl) (by kernel_rfl) (by kernel_rfl) (want_0) (fun w hok => x_pickF (tmB rfl rfl) hg4_14 (tmB rfl rfl)) ?_
           refine rg_done (oks_drop hS 0 rfl) (by kernel_rfl) ?_
           exact then_n ⟨_, rfl, (by repeat (first | exact agree_self | exact agree_refl | refine agree_upd rfl ?_ | refine agree_mix rfl ?_)), (by first | rfl | (exact congrArg Value.bool (by simp [*]); done) | (exact congrArg Value.bool (by simp [*]); rfl) | (exact congrArg Value.bool (by simp [*]); go_num)), hS⟩
        have hg4_19' := hg4_19; (try simp only [nrm] at hg4_19'); try (exfalso; first | with_reducible exact absurd hg4_19 Bool.false_ne_true | with_reducible exact absurd hg4_19.symm Bool.false_ne_true | omega | (simp at hg4_19; done))
        all_goals
         refine rg_take 20 rfl rfl (by kernel_rfl) (by kernel_rfl) (by kernel_rfl) (want_y rfl rfl rfl rfl (by rw [hg4_19]; rfl)) (fun w hok => x_fa 5 Try.underlying33 rfl rfl ts_3 (tmP rfl rfl)) ?_
         first
          | refine rg_take 21 rfl rfl (by kernel_rfl) (by kernel_rfl) (by kernel_rfl) (want_y rfl rfl rfl rfl (by rw [hg4_19]; rfl)) (fun w hok => x_load Try.underlying3 rfl (tmP rfl rfl) (cellB hok 1 rfl rfl)) ?_
          | refine rg_take 21 rfl rfl (by kernel_rfl) (by kernel_rfl) (by kernel_rfl) (want_y rfl rfl rfl rfl (by rw [hg4_19]; rfl)) (fun w hok => x_load Try.underlying3 rfl (tmP rfl rfl) (cellB hok 1 rfl (getm (by omega)))) ?_
         refine rg_take 22 rfl rfl (by kernel_rfl) (by kernel_rfl) (by kernel_rfl) (want_y rfl rfl rfl rfl (by rw [hg4_19]; rfl)) (fun w hok => x_gtr (tmI rfl rfl) (ev_cN 0)) ?_
         refine rg_take 23 rfl rfl (by kernel_rfl) (by kernel_rfl) (by kernel_rfl) (want_y rfl rfl rfl rfl (by rw [hg4_14]; rfl)) (fun w hok => x_pickF (tmB rfl rfl) hg4_19 (tmB rfl rfl)) ?_
         refine rg_take 24 rfl rfl (by kernel_rfl) (by kernel_rfl) (by kernel_rfl) (want_y rfl rfl rfl rfl (by rw [hg4_14]; rfl)) (fun w hok => x_bneq Try.underlying4 (tmB rfl rfl) (tmB rfl rfl)) ?_
         refine rg_take 25 rfl rfl (by kernel_rfl) (by kernel_rfl) (by kernel_rfl) (want_0) (fun w hok => x_pickF (tmB rfl rfl) hg4_14 (tmB rfl rfl)) ?_
         refine rg_done (oks_drop hS 0 rfl) (by kernel_rfl) ?_
         exact then_n ⟨_, rfl, (by repeat (first | exact agree_self | exact agree_refl | refine agree_upd rfl ?_ | refine agree_mix rfl ?_)), (by first | rfl | (exact congrArg Value.bool (by simp [*]); done) | (exact congrArg Value.bool (by simp [*]); rfl) | (exact congrArg Value.bool (by simp [*]); go_num)), hS⟩
    · clear hS; intro g w hI
      obtain ⟨hs50, hS⟩ := hI
      refine fr_knowQ (d := 50) hs50 ?_; clear hs50
      refine then_n (hK7 _ _ ?_); clear hK7 K7
      refine cnd (tm rfl) (fun hc1 => ?_) (fun hc1 => ?_)
      · exfalso
        exact absurd hc1 (by decide)
      try (exfalso; first | with_reducible exact absurd hc1 Bool.false_ne_true | with_reducible exact absurd hc1.symm Bool.false_ne_true | (simp only [nrm] at hc1; omega) | (simp at hc1; done))
      all_goals
       try simp only [nrm] at hc1
       refine wp_skip ?_
       refine then_n (hK6 _ _ ?_); clear hK6 K6
       refine wp_seq_k ?_; intro K9 hK9
       refine wp_seq_k ?_; intro K10 hK10
       refine cutc [51, 52, 53, 54, 55, 56, 57, 58, 59, 60, 61, 62, 63, 64, 65, 66, 67, 68, 69, 70, 71, 72] (fun g w => g 72 = .bool false ∧ St [] w0 [.blk g3_2 29 (hdV tos len id stay more off ttl proto sum s d O o.length c), .blk g0_0 33 (hdV tos len id stay more off ttl proto sum s d O o.length c), .vw L (x.map u8v), .vw O (o.map u8v)] w) ?_ ?_
       · skip
         refine rg_startk 0 hS mixed_ ?_
         clear hS; intro w hS
         refine rg_take 0 rfl rfl (by kernel_rfl) (by kernel_rfl) (by kernel_rfl) (want_0) (fun w hok => x_loadA (cs := [_, _, _, _, _, _, _, _, _, _, _, _, _, _, _, _]) Try.underlying33 rfl ts_33 (tmP rfl rfl) (rangeB hok 1 rfl rfl)) ?_
         refine rg_step 1 rfl (by kernel_rfl) (want_0) (oks_drop hS 0 rfl) ?_; intro K hK
         refine ow_call Try.func26 rfl rfl (evs_cons (tmA rfl rfl) <| evs_nil) (rip4_right_c tos len id stay more off ttl proto sum s d O o.length c _ (by omega)) ?_
         rintro e w ⟨rfl, hk⟩
         refine ⟨_, rfl, ?_⟩
         replace hS := hS.kept hk
         clear hk
         refine hK _ _ ?_; clear hK K
         refine rg_take 2 rfl rfl (by kernel_rfl) (by kernel_rfl) (by kernel_rfl) (want_0) (fun w hok => x_move (tmB rfl rfl)) ?_
         refine gs_rg (tm (t := 53) rfl) (fun hg6_2 => ?_) (fun hg6_2 => ?_)
         · have hg6_2' := hg6_2; (try simp only [nrm] at hg6_2'); try (exfalso; first | with_reducible exact absurd hg6_2 Bool.false_ne_true | with_reducible exact absurd hg6_2.symm Bool.false_ne_true | omega | (simp at hg6_2; done))
           all_goals
            refine rg_take 3 rfl rfl (by kernel_rfl) (by kernel_rfl) (by kernel_rfl) (want_y rfl rfl rfl rfl (by rw [hg6_2]; rfl)) (fun w hok => x_loadA (cs := [_, _, _, _, _, _, _, _, _, _, _, _, _, _, _, _]) Try.underlying29 rfl ts_29 (tmP rfl rfl) (rangeB hok 0 rfl rfl)) ?_
            refine rg_take 6 rfl rfl (by kernel_rfl) (by kernel_rfl) (by kernel_rfl) (want_y rfl rfl rfl rfl (by rw [hg6_2]; rfl)) (fun w hok => x_loadA (cs := [_, _, _, _, _, _, _, _, _, _, _, _, _, _, _, _]) Try.underlying33 rfl ts_33 (tmP rfl rfl) (rangeB hok 1 rfl rfl)) ?_
            refine rg_step 4 rfl (by kernel_rfl) (want_y rfl rfl rfl rfl (by rw [hg6_2]; rfl)) (oks_drop hS 0 rfl) ?_; intro K hK
            refine ow_call Try.func29 rfl rfl (evs_cons (tmA rfl rfl) <| evs_nil) (hI _ (viewV hS.ok 3 rfl)) ?_
            rintro e w ⟨A1, n1, c1, hn1, rfl, hn, hk⟩
            refine ⟨_, rfl, ?_⟩
            replace hS := hS.add hk hn -- +rowa
            clear hn hk
            refine hK _ _ ?_; clear hK K
            refine rg_step2 5 7 rfl rfl (by kernel_rfl) (want_y rfl rfl rfl rfl (by rw [hg6_2]; rfl)) (want_y rfl rfl rfl rfl (by rw [hg6_2]; rfl)) (oks_drop hS 1 rfl) ?_ ?_
            · intro K hK
              first
               | refine ow_v (x_bstr Try.underlying22 Try.underlying5 Try.underlying9 (tmS rfl rfl) (viewR hS.ok 0 rfl) (by first | assumption | exact Bytes.nil | (repeat' (first | assumption | exact Bytes.nil | exact be_bytes _ _ | apply Bytes.append | apply Bytes.take | apply Bytes.drop | apply Bytes.replicate))) (by first | rfl | assumption | (simp; done) | (simp; omega) | omega)) ?_
               | refine ow_v (x_bstr Try.underlying22 Try.underlying5 Try.underlying9 (tmS rfl rfl) (viewV hS.ok 3 rfl) (by first | assumption | exact Bytes.nil | (repeat' (first | assumption | exact Bytes.nil | exact be_bytes _ _ | apply Bytes.append | apply Bytes.take | apply Bytes.drop | apply Bytes.replicate))) (by first | rfl | assumption | (simp; done) | (simp; omega) | omega)) ?_
               | refine ow_v (x_bstr Try.underlying22 Try.underlying5 Try.underlying9 (tmS rfl rfl) (viewV hS.ok 4 rfl) (by first | assumption | exact Bytes.nil | (repeat' (first | assumption | exact Bytes.nil | exact be_bytes _ _ | apply Bytes.append | apply Bytes.take | apply Bytes.drop | apply Bytes.replicate))) (by first | rfl | assumption | (simp; done) | (simp; omega) | omega)) ?_
               | refine ow_v (x_bstr (l := []) Try.underlying22 Try.underlying5 Try.underlying9 (tmS rfl rfl) View.nil_ (by first | assumption | exact Bytes.nil | (repeat' (first | assumption | exact Bytes.nil | exact be_bytes _ _ | apply Bytes.append | apply Bytes.take | apply Bytes.drop | apply Bytes.replicate))) (by first | rfl | assumption | (simp; done) | (simp; omega) | omega)) ?_
              refine hK _ _ ?_; clear hK K
              refine rg_step 7 rfl (by kernel_rfl) (want_y rfl rfl rfl rfl (by rw [hg6_2]; rfl)) (oks_drop hS 1 rfl) ?_; intro K hK
              refine ow_call Try.func30 rfl rfl (evs_cons (tmA rfl rfl) <| evs_nil) (hR (by simpa using hg6_2) _ (viewV hS.ok 4 rfl)) ?_
              rintro e w ⟨A2, n2, c2, hn2, rfl, hn, hk⟩
              refine ⟨_, rfl, ?_⟩
              replace hS := hS.add hk hn -- +rowb
              clear hn hk
              refine hK _ _ ?_; clear hK K
              refine rg_step 8 rfl (by kernel_rfl) (want_y rfl rfl rfl rfl (by rw [hg6_2]; rfl)) (oks_drop hS 2 rfl) ?_; intro K hK
              first
               | refine ow_v (x_bstr Try.underlying22 Try.underlying5 Try.underlying9 (tmS rfl rfl) (viewR hS.ok 0 rfl) (by first | assumption | exact Bytes.nil | (repeat' (first | assumption | exact Bytes.nil | exact be_bytes _ _ | apply Bytes.append | apply Bytes.take | apply Bytes.drop | apply Bytes.replicate))) (by first | rfl | assumption | (simp; done) | (simp; omega) | omega)) ?_
               | refine ow_v (x_bstr Try.underlying22 Try.underlying5 Try.underlying9 (tmS rfl rfl) (viewR hS.ok 1 rfl) (by first | assumption | exact Bytes.nil | (repeat' (first | assumption | exact Bytes.nil | exact be_bytes _ _ | apply Bytes.append | apply Bytes.take | apply Bytes.drop | apply Bytes.replicate))) (by first | rfl | assumption | (simp; done) | (simp; omega) | omega)) ?_
               | refine ow_v (x_bstr Try.underlying22 Try.underlying5 Try.underlying9 (tmS rfl rfl) (viewV hS.ok 4 rfl) (by first | assumption | exact Bytes.nil | (repeat' (first | assumption | exact Bytes.nil | exact be_bytes _ _ | apply Bytes.append | apply Bytes.take | apply Bytes.drop | apply Bytes.replicate))) (by first | rfl | assumption | (simp; done) | (simp; omega) | omega)) ?_
               | refine ow_v (x_bstr Try.underlying22 Try.underlying5 Try.underlying9 (tmS rfl rfl) (viewV hS.ok 5 rfl) (by first | assumption | exact Bytes.nil | (repeat' (first | assumption | exact Bytes.nil | exact be_bytes _ _ | apply Bytes.append | apply Bytes.take | apply Bytes.drop | apply Bytes.replicate))) (by first | rfl | assumption | (simp; done) | (simp; omega) | omega)) ?_
               | refine ow_v (x_bstr (l := []) Try.underlying22 Try.underlying5 Try.underlying9 (tmS rfl rfl) View.nil_ (by first | assumption | exact Bytes.nil | (repeat' (first | assumption | exact Bytes.nil | exact be_bytes _ _ | apply Bytes.append | apply Bytes.take | apply Bytes.drop | apply Bytes.replicate))) (by first | rfl | assumption | (simp; done) | (simp; omega) | omega)) ?_
              refine hK _ _ ?_; clear hK K
              refine rg_take 9 rfl rfl (by kernel_rfl) (by kernel_rfl) (by kernel_rfl) (want_y rfl rfl rfl rfl (by rw [hg6_2]; rfl)) (fun w hok => x_Gneq (tmG rfl rfl) (tmG rfl rfl) (by first | assumption | exact Bytes.nil | (repeat' (first | assumption | exact Bytes.nil | exact be_bytes _ _ | apply Bytes.append | apply Bytes.take | apply Bytes.drop | apply Bytes.replicate))) (by first | assumption | exact Bytes.nil | (repeat' (first | assumption | exact Bytes.nil | exact be_bytes _ _ | apply Bytes.append | apply Bytes.take | apply Bytes.drop | apply Bytes.replicate)))) ?_
              refine rg_take 10 rfl rfl (by kernel_rfl) (by kernel_rfl) (by kernel_rfl) (want_0) (fun w hok => x_pickT (tmB rfl rfl) hg6_2 (tmB rfl rfl)) ?_
              refine rg_take 11 rfl rfl (by kernel_rfl) (by kernel_rfl) (by kernel_rfl) (want_0) (fun w hok => x_move (tmB rfl rfl)) ?_
              refine gs_rg (tm (t := 62) rfl) (fun hg6_11 => ?_) (fun hg6_11 => ?_)
              · exfalso
                simp at hg6_11
              have hg6_11' := hg6_11; (try simp only [nrm] at hg6_11'); try (exfalso; first | with_reducible exact absurd hg6_11 Bool.false_ne_true | with_reducible exact absurd hg6_11.symm Bool.false_ne_true | omega | (simp at hg6_11; done))
              all_goals
               refine rg_take 12 rfl rfl (by kernel_rfl) (by kernel_rfl) (by kernel_rfl) (want_y rfl rfl rfl rfl (by rw [hg6_11]; rfl)) (fun w hok => x_loadA (cs := [_, _, _, _, _, _, _, _, _, _, _, _, _, _, _, _]) Try.underlying33 rfl ts_33 (tmP rfl rfl) (rangeB hok 1 rfl rfl)) ?_
               refine rg_step 13 rfl (by kernel_rfl) (want_y rfl rfl rfl rfl (by rw [hg6_11]; rfl)) (oks_drop hS 2 rfl) ?_; intro K hK
               refine ow_call Try.func26 rfl rfl (evs_cons (tmA rfl rfl) <| evs_nil) (rip4_right_c tos len id stay more off ttl proto sum s d O o.length c _ (by omega)) ?_
               rintro e w ⟨rfl, hk⟩
               refine ⟨_, rfl, ?_⟩
               replace hS := hS.kept hk
               clear hk
               refine hK _ _ ?_; clear hK K
               refine rg_take 14 rfl rfl (by kernel_rfl) (by kernel_rfl) (by kernel_rfl) (want_y rfl rfl rfl rfl (by rw [hg6_11]; rfl)) (fun w hok => x_not (tmB rfl rfl)) ?_
               refine rg_take 15 rfl rfl (by kernel_rfl) (by kernel_rfl) (by kernel_rfl) (want_y rfl rfl rfl rfl (by rw [hg6_11]; rfl)) (fun w hok => x_move (tmB rfl rfl)) ?_
               refine gs_rg (tm (t := 66) rfl) (fun hg6_15 => ?_) (fun hg6_15 => ?_)
               · have hg6_15' := hg6_15; (try simp only [nrm] at hg6_15'); try (exfalso; first | with_reducible exact absurd hg6_15 Bool.false_ne_true | with_reducible exact absurd hg6_15.symm Bool.false_ne_true | omega | (simp at hg6_15; done))
                 all_goals
                  have hbb : bb = [] := hbb0 (by simpa using hg6_15)
                  refine rg_take 16 rfl rfl (by kernel_rfl) (by kernel_rfl) (by kernel_rfl) (want_y rfl rfl rfl rfl (by rw [hg6_15]; rfl)) (fun w hok => x_loadA (cs := [_, _, _, _, _, _, _, _, _, _, _, _, _, _, _, _]) Try.underlying29 rfl ts_29 (tmP rfl rfl) (rangeB hok 0 rfl rfl)) ?_
                  refine rg_step 17 rfl (by kernel_rfl) (want_y rfl rfl rfl rfl (by rw [hg6_15]; rfl)) (oks_drop hS 2 rfl) ?_; intro K hK
                  refine ow_call Try.func29 rfl rfl (evs_cons (tmA rfl rfl) <| evs_nil) (hI _ (viewV hS.ok 5 rfl)) ?_
                  rintro e w ⟨A1, n1, c1, hn1, rfl, hn, hk⟩
                  refine ⟨_, rfl, ?_⟩
                  replace hS := hS.add hk hn -- +rowa
                  clear hn hk
                  refine hK _ _ ?_; clear hK K
                  refine rg_take 18 rfl rfl (by kernel_rfl) (by kernel_rfl) (by kernel_rfl) (want_y rfl rfl rfl rfl (by rw [hg6_15]; rfl)) (fun w hok => x_len Try.underlying22 (tmS rfl rfl)) ?_
                  refine rg_take 19 rfl rfl (by kernel_rfl) (by kernel_rfl) (by kernel_rfl) (want_y rfl rfl rfl rfl (by rw [hg6_15]; rfl)) (fun w hok => x_neq (tmI rfl rfl) (ev_cN 0)) ?_
                  refine rg_take 20 rfl rfl (by kernel_rfl) (by kernel_rfl) (by kernel_rfl) (want_y rfl rfl rfl rfl (by rw [hg6_11]; rfl)) (fun w hok => x_pickT (tmB rfl rfl) hg6_15 (tmB rfl rfl)) ?_
                  refine rg_take 21 rfl rfl (by kernel_rfl) (by kernel_rfl) (by kernel_rfl) (want_0) (fun w hok => x_pickF (tmB rfl rfl) hg6_11 (tmB rfl rfl)) ?_
                  refine rg_done (oks_drop hS 3 rfl) (by kernel_rfl) ?_
                  exact then_n ⟨_, rfl, (by repeat (first | exact agree_self | exact agree_refl | refine agree_upd rfl ?_ | refine agree_mix rfl ?_)), (by first | rfl | (exact congrArg Value.bool (by simp [*]); done) | (exact congrArg Value.bool (by simp [*]); rfl) | (exact congrArg Value.bool (by simp [*]); go_num)), (hS.pick [3, 4, 5, 6] rfl rfl)⟩
               have hg6_15' := hg6_15; (try simp only [nrm] at hg6_15'); try (exfalso; first | with_reducible exact absurd hg6_15 Bool.false_ne_true | with_reducible exact absurd hg6_15.symm Bool.false_ne_true | omega | (simp at hg6_15; done))
               all_goals
                refine rg_skip 16 rfl rfl (by kernel_rfl) (by kernel_rfl) (by kernel_rfl) (want_n rfl rfl rfl rfl (by rw [hg6_15]; rfl)) ?_
                refine rg_skip 17 rfl rfl (by kernel_rfl) (by kernel_rfl) (by kernel_rfl) (want_n rfl rfl rfl rfl (by rw [hg6_15]; rfl)) ?_
                refine rg_skip 18 rfl rfl (by kernel_rfl) (by kernel_rfl) (by kernel_rfl) (want_n rfl rfl rfl rfl (by rw [hg6_15]; rfl)) ?_
                refine rg_skip 19 rfl rfl (by kernel_rfl) (by kernel_rfl) (by kernel_rfl) (want_n rfl rfl rfl rfl (by rw [hg6_15]; rfl)) ?_
                refine rg_take 20 rfl rfl (by kernel_rfl) (by kernel_rfl) (by kernel_rfl) (want_y rfl rfl rfl rfl (by rw [hg6_11]; rfl)) (fun w hok => x_pickF (tmB rfl rfl) hg6_15 ev_c) ?_
                refine rg_take 21 rfl rfl (by kernel_rfl) (by kernel_rfl) (by kernel_rfl) (want_0) (fun w hok => x_pickF (tmB rfl rfl) hg6_11 (tmB rfl rfl)) ?_
                refine rg_done (oks_drop hS 2 rfl) (by kernel_rfl) ?_
                exact then_n ⟨_, rfl, (by repeat (first | exact agree_self | exact agree_refl | refine agree_upd rfl ?_ | refine agree_mix rfl ?_)), (by first | rfl | (exact congrArg Value.bool (by simp [*]); done) | (exact congrArg Value.bool (by simp [*]); rfl) | (exact congrArg Value.bool (by simp [*]); go_num)), (hS.pick [2, 3, 4, 5] rfl rfl)⟩
            · intro K hK
              refine ow_call Try.func30 rfl rfl (evs_cons (tmA rfl rfl) <| evs_nil) (hR (by simpa using hg6_2) _ (viewV hS.ok 4 rfl)) ?_
              rintro e w ⟨A2, n2, c2, hn2, rfl, hn, hk⟩
              refine ⟨_, rfl, ?_⟩
              replace hS := hS.add hk hn -- +rowb
              clear hn hk
              refine hK _ _ ?_; clear hK K
              refine rg_step2 5 8 rfl rfl (by kernel_rfl) (want_y rfl rfl rfl rfl (by rw [hg6_2]; rfl)) (want_y rfl rfl rfl rfl (by rw [hg6_2]; rfl)) (oks_drop hS 2 rfl) ?_ ?_
              · intro K hK
                first
                 | refine ow_v (x_bstr Try.underlying22 Try.underlying5 Try.underlying9 (tmS rfl rfl) (viewR hS.ok 0 rfl) (by first | assumption | exact Bytes.nil | (repeat' (first | assumption | exact Bytes.nil | exact be_bytes _ _ | apply Bytes.append | apply Bytes.take | apply Bytes.drop | apply Bytes.replicate))) (by first | rfl | assumption | (simp; done) | (simp; omega) | omega)) ?_
                 | refine ow_v (x_bstr Try.underlying22 Try.underlying5 Try.underlying9 (tmS rfl rfl) (viewR hS.ok 1 rfl) (by first | assumption | exact Bytes.nil | (repeat' (first | assumption | exact Bytes.nil | exact be_bytes _ _ | apply Bytes.append | apply Bytes.take | apply Bytes.drop | apply Bytes.replicate))) (by first | rfl | assumption | (simp; done) | (simp; omega) | omega)) ?_
                 | refine ow_v (x_bstr Try.underlying22 Try.underlying5 Try.underlying9 (tmS rfl rfl) (viewV hS.ok 4 rfl) (by first | assumption | exact Bytes.nil | (repeat' (first | assumption | exact Bytes.nil | exact be_bytes _ _ | apply Bytes.append | apply Bytes.take | apply Bytes.drop | apply Bytes.replicate))) (by first | rfl | assumption | (simp; done) | (simp; omega) | omega)) ?_
                 | refine ow_v (x_bstr Try.underlying22 Try.underlying5 Try.underlying9 (tmS rfl rfl) (viewV hS.ok 5 rfl) (by first | assumption | exact Bytes.nil | (repeat' (first | assumption | exact Bytes.nil | exact be_bytes _ _ | apply Bytes.append | apply Bytes.take | apply Bytes.drop | apply Bytes.replicate))) (by first | rfl | assumption | (simp; done) | (simp; omega) | omega)) ?_
                 | refine ow_v (x_bstr (l := []) Try.underlying22 Try.underlying5 Try.underlying9 (tmS rfl rfl) View.nil_ (by first | assumption | exact Bytes.nil | (repeat' (first | assumption | exact Bytes.nil | exact be_bytes _ _ | apply Bytes.append | apply Bytes.take | apply Bytes.drop | apply Bytes.replicate))) (by first | rfl | assumption | (simp; done) | (simp; omega) | omega)) ?_
                refine hK _ _ ?_; clear hK K
                refine rg_step 8 rfl (by kernel_rfl) (want_y rfl rfl rfl rfl (by rw [hg6_2]; rfl)) (oks_drop hS 2 rfl) ?_; intro K hK
                first
                 | refine ow_v (x_bstr Try.underlying22 Try.underlying5 Try.underlying9 (tmS rfl rfl) (viewR hS.ok 0 rfl) (by first | assumption | exact Bytes.nil | (repeat' (first | assumption | exact Bytes.nil | exact be_bytes _ _ | apply Bytes.append | apply Bytes.take | apply Bytes.drop | apply Bytes.replicate))) (by first | rfl | assumption | (simp; done) | (simp; omega) | omega)) ?_
                 | refine ow_v (x_bstr Try.underlying22 Try.underlying5 Try.underlying9 (tmS rfl rfl) (viewR hS.ok 1 rfl) (by first | assumption | exact Bytes.nil | (repeat' (first | assumption | exact Bytes.nil | exact be_bytes _ _ | apply Bytes.append | apply Bytes.take | apply Bytes.drop | apply Bytes.replicate))) (by first | rfl | assumption | (simp; done) | (simp; omega) | omega)) ?_
                 | refine ow_v (x_bstr Try.underlying22 Try.underlying5 Try.underlying9 (tmS rfl rfl) (viewV hS.ok 4 rfl) (by first | assumption | exact Bytes.nil | (repeat' (first | assumption | exact Bytes.nil | exact be_bytes _ _ | apply Bytes.append | apply Bytes.take | apply Bytes.drop | apply Bytes.replicate))) (by first | rfl | assumption | (simp; done) | (simp; omega) | omega)) ?_
                 | refine ow_v (x_bstr Try.underlying22 Try.underlying5 Try.underlying9 (tmS rfl rfl) (viewV hS.ok 5 rfl) (by first | assumption | exact Bytes.nil | (repeat' (first | assumption | exact Bytes.nil | exact be_bytes _ _ | apply Bytes.append | apply Bytes.take | apply Bytes.drop | apply Bytes.replicate))) (by first | rfl | assumption | (simp; done) | (simp; omega) | omega)) ?_
                 | refine ow_v (x_bstr (l := []) Try.underlying22 Try.underlying5 Try.underlying9 (tmS rfl rfl) View.nil_ (by first | assumption | exact Bytes.nil | (repeat' (first | assumption | exact Bytes.nil | exact be_bytes _ _ | apply Bytes.append | apply Bytes.take | apply Bytes.drop | apply Bytes.replicate))) (by first | rfl | assumption | (simp; done) | (simp; omega) | omega)) ?_
                refine hK _ _ ?_; clear hK K
                refine rg_take 9 rfl rfl (by kernel_rfl) (by kernel_rfl) (by kernel_rfl) (want_y rfl rfl rfl rfl (by rw [hg6_2]; rfl)) (fun w hok => x_Gneq (tmG rfl rfl) (tmG rfl rfl) (by first | assumption | exact Bytes.nil | (repeat' (first | assumption | exact Bytes.nil | exact be_bytes _ _ | apply Bytes.append | apply Bytes.take | apply Bytes.drop | apply Bytes.replicate))) (by first | assumption | exact Bytes.nil | (repeat' (first | assumption | exact Bytes.nil | exact be_bytes _ _ | apply Bytes.append | apply Bytes.take | apply Bytes.drop | apply Bytes.replicate)))) ?_
                refine rg_take 10 rfl rfl (by kernel_rfl) (by kernel_rfl) (by kernel_rfl) (want_0) (fun w hok => x_pickT (tmB rfl rfl) hg6_2 (tmB rfl rfl)) ?_
                refine rg_take 11 rfl rfl (by kernel_rfl) (by kernel_rfl) (by kernel_rfl) (want_0) (fun w hok => x_move (tmB rfl rfl)) ?_
                refine gs_rg (tm (t := 62) rfl) (fun hg6_11 => ?_) (fun hg6_11 => ?_)
                · exfalso
                  simp at hg6_11
                have hg6_11' := hg6_11; (try simp only [nrm] at hg6_11'); try (exfalso; first | with_reducible exact absurd hg6_11 Bool.false_ne_true | with_reducible exact absurd hg6_11.symm Bool.false_ne_true | omega | (simp at hg6_11; done))
                all_goals
                 refine rg_take 12 rfl rfl (by kernel_rfl) (by kernel_rfl) (by kernel_rfl) (want_y rfl rfl rfl rfl (by rw [hg6_11]; rfl)) (fun w hok => x_loadA (cs := [_, _, _, _, _, _, _, _, _, _, _, _, _, _, _, _]) Try.underlying33 rfl ts_33 (tmP rfl rfl) (rangeB hok 1 rfl rfl)) ?_
                 refine rg_step 13 rfl (by kernel_rfl) (want_y rfl rfl rfl rfl (by rw [hg6_11]; rfl)) (oks_drop hS 2 rfl) ?_; intro K hK
                 refine ow_call Try.func26 rfl rfl (evs_cons (tmA rfl rfl) <| evs_nil) (rip4_right_c tos len id stay more off ttl proto sum s d O o.length c _ (by omega)) ?_
                 rintro e w ⟨rfl, hk⟩
                 refine ⟨_, rfl, ?_⟩
                 replace hS := hS.kept hk
                 clear hk
                 refine hK _ _ ?_; clear hK K
                 refine rg_take 14 rfl rfl (by kernel_rfl) (by kernel_rfl) (by kernel_rfl) (want_y rfl rfl rfl rfl (by rw [hg6_11]; rfl)) (fun w hok => x_not (tmB rfl rfl)) ?_
                 refine rg_take 15 rfl rfl (by kernel_rfl) (by kernel_rfl) (by kernel_rfl) (want_y rfl rfl rfl rfl (by rw [hg6_11]; rfl)) (fun w hok => x_move (tmB rfl rfl)) ?_
                 refine gs_rg (tm (t := 66) rfl) (fun hg6_15 => ?_) (fun hg6_15 => ?_)
                 · have hg6_15' := hg6_15; (try simp only [nrm] at hg6_15'); try (exfalso; first | with_reducible exact absurd hg6_15 Bool.false_ne_true | with_reducible exact absurd hg6_15.symm Bool.false_ne_true | omega | (simp at hg6_15; done))
                   all_goals
                    have hbb : bb = [] := hbb0 (by simpa using hg6_15)
                    refine rg_take 16 rfl rfl (by kernel_rfl) (by kernel_rfl) (by kernel_rfl) (want_y rfl rfl rfl rfl (by rw [hg6_15]; rfl)) (fun w hok => x_loadA (cs := [_, _, _, _, _, _, _, _, _, _, _, _, _, _, _, _]) Try.underlying29 rfl ts_29 (tmP rfl rfl) (rangeB hok 0 rfl rfl)) ?_
                    refine rg_step 17 rfl (by kernel_rfl) (want_y rfl rfl rfl rfl (by rw [hg6_15]; rfl)) (oks_drop hS 2 rfl) ?_; intro K hK
                    refine ow_call Try.func29 rfl rfl (evs_cons (tmA rfl rfl) <| evs_nil) (hI _ (viewV hS.ok 5 rfl)) ?_
                    rintro e w ⟨A1, n1, c1, hn1, rfl, hn, hk⟩
                    refine ⟨_, rfl, ?_⟩
                    replace hS := hS.add hk hn -- +rowa
                    clear hn hk
                    refine hK _ _ ?_; clear hK K
                    refine rg_take 18 rfl rfl (by kernel_rfl) (by kernel_rfl) (by kernel_rfl) (want_y rfl rfl rfl rfl (by rw [hg6_15]; rfl)) (fun w hok => x_len Try.underlying22 (tmS rfl rfl)) ?_
                    refine rg_take 19 rfl rfl (by kernel_rfl) (by kernel_rfl) (by kernel_rfl) (want_y rfl rfl rfl rfl (by rw [hg6_15]; rfl)) (fun w hok => x_neq (tmI rfl rfl) (ev_cN 0)) ?_
                    refine rg_take 20 rfl rfl (by kernel_rfl) (by kernel_rfl) (by kernel_rfl) (want_y rfl rfl rfl rfl (by rw [hg6_11]; rfl)) (fun w hok => x_pickT (tmB rfl rfl) hg6_15 (tmB rfl rfl)) ?_
                    refine rg_take 21 rfl rfl (by kernel_rfl) (by kernel_rfl) (by kernel_rfl) (want_0) (fun w hok => x_pickF (tmB rfl rfl) hg6_11 (tmB rfl rfl)) ?_
                    refine rg_done (oks_drop hS 3 rfl) (by kernel_rfl) ?_
                    exact then_n ⟨_, rfl, (by repeat (first | exact agree_self | exact agree_refl | refine agree_upd rfl ?_ | refine agree_mix rfl ?_)), (by first | rfl | (exact congrArg Value.bool (by simp [*]); done) | (exact congrArg Value.bool (by simp [*]); rfl) | (exact congrArg Value.bool (by simp [*]); go_num)), (hS.pick [3, 4, 5, 6] rfl rfl)⟩
                 have hg6_15' := hg6_15; (try simp only [nrm] at hg6_15'); try (exfalso; first | with_reducible exact absurd hg6_15 Bool.false_ne_true | with_reducible exact absurd hg6_15.symm Bool.false_ne_true | omega | (simp at hg6_15; done))
                 all_goals
                  refine rg_skip 16 rfl rfl (by kernel_rfl) (by kernel_rfl) (by kernel_rfl) (want_n rfl rfl rfl rfl (by rw [hg6_15]; rfl)) ?_
                  refine rg_skip 17 rfl rfl (by kernel_rfl) (by kernel_rfl) (by kernel_rfl) (want_n rfl rfl rfl rfl (by rw [hg6_15]; rfl)) ?_
                  refine rg_skip 18 rfl rfl (by kernel_rfl) (by kernel_rfl) (by kernel_rfl) (want_n rfl rfl rfl rfl (by rw [hg6_15]; rfl)) ?_
                  refine rg_skip 19 rfl rfl (by kernel_rfl) (by kernel_rfl) (by kernel_rfl) (want_n rfl rfl rfl rfl (by rw [hg6_15]; rfl)) ?_
                  refine rg_take 20 rfl rfl (by kernel_rfl) (by kernel_rfl) (by kernel_rfl) (want_y rfl rfl rfl rfl (by rw [hg6_11]; rfl)) (fun w hok => x_pickF (tmB rfl rfl) hg6_15 ev_c) ?_
                  refine rg_take 21 rfl rfl (by kernel_rfl) (by kernel_rfl) (by kernel_rfl) (want_0) (fun w hok => x_pickF (tmB rfl rfl) hg6_11 (tmB rfl rfl)) ?_
                  refine rg_done (oks_drop hS 2 rfl) (by kernel_rfl) ?_
                  exact then_n ⟨_, rfl, (by repeat (first | exact agree_self | exact agree_refl | refine agree_upd rfl ?_ | refine agree_mix rfl ?_)), (by first | rfl | (exact congrArg Value.bool (by simp [*]); done) | (exact congrArg Value.bool (by simp [*]); rfl) | (exact congrArg Value.bool (by simp [*]); go_num)), (hS.pick [2, 3, 4, 5] rfl rfl)⟩
              · intro K hK
                first
                 | refine ow_v (x_bstr Try.underlying22 Try.underlying5 Try.underlying9 (tmS rfl rfl) (viewR hS.ok 0 rfl) (by first | assumption | exact Bytes.nil | (repeat' (first | assumption | exact Bytes.nil | exact be_bytes _ _ | apply Bytes.append | apply Bytes.take | apply Bytes.drop | apply Bytes.replicate))) (by first | rfl | assumption | (simp; done) | (simp; omega) | omega)) ?_
                 | refine ow_v (x_bstr Try.underlying22 Try.underlying5 Try.underlying9 (tmS rfl rfl) (viewR hS.ok 1 rfl) (by first | assumption | exact Bytes.nil | (repeat' (first | assumption | exact Bytes.nil | exact be_bytes _ _ | apply Bytes.append | apply Bytes.take | apply Bytes.drop | apply Bytes.replicate))) (by first | rfl | assumption | (simp; done) | (simp; omega) | omega)) ?_
                 | refine ow_v (x_bstr Try.underlying22 Try.underlying5 Try.underlying9 (tmS rfl rfl) (viewV hS.ok 4 rfl) (by first | assumption | exact Bytes.nil | (repeat' (first | assumption | exact Bytes.nil | exact be_bytes _ _ | apply Bytes.append | apply Bytes.take | apply Bytes.drop | apply Bytes.replicate))) (by first | rfl | assumption | (simp; done) | (simp; omega) | omega)) ?_
                 | refine ow_v (x_bstr Try.underlying22 Try.underlying5 Try.underlying9 (tmS rfl rfl) (viewV hS.ok 5 rfl) (by first | assumption | exact Bytes.nil | (repeat' (first | assumption | exact Bytes.nil | exact be_bytes _ _ | apply Bytes.append | apply Bytes.take | apply Bytes.drop | apply Bytes.replicate))) (by first | rfl | assumption | (simp; done) | (simp; omega) | omega)) ?_
                 | refine ow_v (x_bstr (l := []) Try.underlying22 Try.underlying5 Try.underlying9 (tmS rfl rfl) View.nil_ (by first | assumption | exact Bytes.nil | (repeat' (first | assumption | exact Bytes.nil | exact be_bytes _ _ | apply Bytes.append | apply Bytes.take | apply Bytes.drop | apply Bytes.replicate))) (by first | rfl | assumption | (simp; done) | (simp; omega) | omega)) ?_
                refine hK _ _ ?_; clear hK K
                refine rg_step 5 rfl (by kernel_rfl) (want_y rfl rfl rfl rfl (by rw [hg6_2]; rfl)) (oks_drop hS 2 rfl) ?_; intro K hK
                first
                 | refine ow_v (x_bstr Try.underlying22 Try.underlying5 Try.underlying9 (tmS rfl rfl) (viewR hS.ok 0 rfl) (by first | assumption | exact Bytes.nil | (repeat' (first | assumption | exact Bytes.nil | exact be_bytes _ _ | apply Bytes.append | apply Bytes.take | apply Bytes.drop | apply Bytes.replicate))) (by first | rfl | assumption | (simp; done) | (simp; omega) | omega)) ?_
                 | refine ow_v (x_bstr Try.underlying22 Try.underlying5 Try.underlying9 (tmS rfl rfl) (viewR hS.ok 1 rfl) (by first | assumption | exact Bytes.nil | (repeat' (first | assumption | exact Bytes.nil | exact be_bytes _ _ | apply Bytes.append | apply Bytes.take | apply Bytes.drop | apply Bytes.replicate))) (by first | rfl | assumption | (simp; done) | (simp; omega) | omega)) ?_
                 | refine ow_v (x_bstr Try.underlying22 Try.underlying5 Try.underlying9 (tmS rfl rfl) (viewV hS.ok 4 rfl) (by first | assumption | exact Bytes.nil | (repeat' (first | assumption | exact Bytes.nil | exact be_bytes _ _ | apply Bytes.append | apply Bytes.take | apply Bytes.drop | apply Bytes.replicate))) (by first | rfl | assumption | (simp; done) | (simp; omega) | omega)) ?_
                 | refine ow_v (x_bstr Try.underlying22 Try.underlying5 Try.underlying9 (tmS rfl rfl) (viewV hS.ok 5 rfl) (by first | assumption | exact Bytes.nil | (repeat' (first | assumption | exact Bytes.nil | exact be_bytes _ _ | apply Bytes.append | apply Bytes.take | apply Bytes.drop | apply Bytes.replicate))) (by first | rfl | assumption | (simp; done) | (simp; omega) | omega)) ?_
                 | refine ow_v (x_bstr (l := []) Try.underlying22 Try.underlying5 Try.underlying9 (tmS rfl rfl) View.nil_ (by first | assumption | exact Bytes.nil | (repeat' (first | assumption | exact Bytes.nil | exact be_bytes _ _ | apply Bytes.append | apply Bytes.take | apply Bytes.drop | apply Bytes.replicate))) (by first | rfl | assumption | (simp; done) | (simp; omega) | omega)) ?_
                refine hK _ _ ?_; clear hK K
                refine rg_take 9 rfl rfl (by kernel_rfl) (by kernel_rfl) (by kernel_rfl) (want_y rfl rfl rfl rfl (by rw [hg6_2]; rfl)) (fun w hok => x_Gneq (tmG rfl rfl) (tmG rfl rfl) (by first | assumption | exact Bytes.nil | (repeat' (first | assumption | exact Bytes.nil | exact be_bytes _ _ | apply Bytes.append | apply Bytes.take | apply Bytes.drop | apply Bytes.replicate))) (by first | assumption | exact Bytes.nil | (repeat' (first | assumption | exact Bytes.nil | exact be_bytes _ _ | apply Bytes.append | apply Bytes.take | apply Bytes.drop | apply Bytes.replicate)))) ?_
                refine rg_take 10 rfl rfl (by kernel_rfl) (by kernel_rfl) (by kernel_rfl) (want_0) (fun w hok => x_pickT (tmB rfl rfl) hg6_2 (tmB rfl rfl)) ?_
                refine rg_take 11 rfl rfl (by kernel_rfl) (by kernel_rfl) (by kernel_rfl) (want_0) (fun w hok => x_move (tmB rfl rfl)) ?_
                refine gs_rg (tm (t := 62) rfl) (fun hg6_11 => ?_) (fun hg6_11 => ?_)
                · exfalso
                  simp at hg6_11
                have hg6_11' := hg6_11; (try simp only [nrm] at hg6_11'); try (exfalso; first | with_reducible exact absurd hg6_11 Bool.false_ne_true | with_reducible exact absurd hg6_11.symm Bool.false_ne_true | omega | (simp at hg6_11; done))
                all_goals
                 refine rg_take 12 rfl rfl (by kernel_rfl) (by kernel_rfl) (by kernel_rfl) (want_y rfl rfl rfl rfl (by rw [hg6_11]; rfl)) (fun w hok => x_loadA (cs := [_, _, _, _, _, _, _, _, _, _, _, _, _, _, _, _]) Try.underlying33 rfl ts_33 (tmP rfl rfl) (rangeB hok 1 rfl rfl)) ?_
                 refine rg_step 13 rfl (by kernel_rfl) (want_y rfl rfl rfl rfl (by rw [hg6_11]; rfl)) (oks_drop hS 2 rfl) ?_; intro K hK
                 refine ow_call Try.func26 rfl rfl (evs_cons (tmA rfl rfl) <| evs_nil) (rip4_right_c tos len id stay more off ttl proto sum s d O o.length c _ (by omega)) ?_
                 rintro e w ⟨rfl, hk⟩
                 refine ⟨_, rfl, ?_⟩
                 replace hS := hS.kept hk
                 clear hk
                 refine hK _ _ ?_; clear hK K
                 refine rg_take 14 rfl rfl (by kernel_rfl) (by kernel_rfl) (by kernel_rfl) (want_y rfl rfl rfl rfl (by rw [hg6_11]; rfl)) (fun w hok => x_not (tmB rfl rfl)) ?_
                 refine rg_take 15 rfl rfl (by kernel_rfl) (by kernel_rfl) (by kernel_rfl) (want_y rfl rfl rfl rfl (by rw [hg6_11]; rfl)) (fun w hok => x_move (tmB rfl rfl)) ?_
                 refine gs_rg (tm (t := 66) rfl) (fun hg6_15 => ?_) (fun hg6_15 => ?_)
                 · have hg6_15' := hg6_15; (try simp only [nrm] at hg6_15'); try (exfalso; first | with_reducible exact absurd hg6_15 Bool.false_ne_true | with_reducible exact absurd hg6_15.symm Bool.false_ne_true | omega | (simp at hg6_15; done))
                   all_goals
                    have hbb : bb = [] := hbb0 (by simpa using hg6_15)
                    refine rg_take 16 rfl rfl (by kernel_rfl) (by kernel_rfl) (by kernel_rfl) (want_y rfl rfl rfl rfl (by rw [hg6_15]; rfl)) (fun w hok => x_loadA (cs := [_, _, _, _, _, _, _, _, _, _, _, _, _, _, _, _]) Try.underlying29 rfl ts_29 (tmP rfl rfl) (rangeB hok 0 rfl rfl)) ?_
                    refine rg_step 17 rfl (by kernel_rfl) (want_y rfl rfl rfl rfl (by rw [hg6_15]; rfl)) (oks_drop hS 2 rfl) ?_; intro K hK
                    refine ow_call Try.func29 rfl rfl (evs_cons (tmA rfl rfl) <| evs_nil) (hI _ (viewV hS.ok 5 rfl)) ?_
                    rintro e w ⟨A1, n1, c1, hn1, rfl, hn, hk⟩
                    refine ⟨_, rfl, ?_⟩
                    replace hS := hS.add hk hn -- +rowa
                    clear hn hk
                    refine hK _ _ ?_; clear hK K
                    refine rg_take 18 rfl rfl (by kernel_rfl) (by kernel_rfl) (by kernel_rfl) (want_y rfl rfl rfl rfl (by rw [hg6_15]; rfl)) (fun w hok => x_len Try.underlying22 (tmS rfl rfl)) ?_
                    refine rg_take 19 rfl rfl (by kernel_rfl) (by kernel_rfl) (by kernel_rfl) (want_y rfl rfl rfl rfl (by rw [hg6_15]; rfl)) (fun w hok => x_neq (tmI rfl rfl) (ev_cN 0)) ?_
                    refine rg_take 20 rfl rfl (by kernel_rfl) (by kernel_rfl) (by kernel_rfl) (want_y rfl rfl rfl rfl (by rw [hg6_11]; rfl)) (fun w hok => x_pickT (tmB rfl rfl) hg6_15 (tmB rfl rfl)) ?_
                    refine rg_take 21 rfl rfl (by kernel_rfl) (by kernel_rfl) (by kernel_rfl) (want_0) (fun w hok => x_pickF (tmB rfl rfl) hg6_11 (tmB rfl rfl)) ?_
                    refine rg_done (oks_drop hS 3 rfl) (by kernel_rfl) ?_
                    exact then_n ⟨_, rfl, (by repeat (first | exact agree_self | exact agree_refl | refine agree_upd rfl ?_ | refine agree_mix rfl ?_)), (by first | rfl | (exact congrArg Value.bool (by simp [*]); done) | (exact congrArg Value.bool (by simp [*]); rfl) | (exact congrArg Value.bool (by simp [*]); go_num)), (hS.pick [3, 4, 5, 6] rfl rfl)⟩
                 have hg6_15' := hg6_15; (try simp only [nrm] at hg6_15'); try (exfalso; first | with_reducible exact absurd hg6_15 Bool.false_ne_true | with_reducible exact absurd hg6_15.symm Bool.false_ne_true | omega | (simp at hg6_15; done))
                 all_goals
                  refine rg_skip 16 rfl rfl (by kernel_rfl) (by kernel_rfl) (by kernel_rfl) (want_n rfl rfl rfl rfl (by rw [hg6_15]; rfl)) ?_
                  refine rg_skip 17 rfl rfl (by kernel_rfl) (by kernel_rfl) (by kernel_rfl) (want_n rfl rfl rfl rfl (by rw [hg6_15]; rfl)) ?_
                  refine rg_skip 18 rfl rfl (by kernel_rfl) (by kernel_rfl) (by kernel_rfl) (want_n rfl rfl rfl rfl (by rw [hg6_15]; rfl)) ?_
                  refine rg_skip 19 rfl rfl (by kernel_rfl) (by kernel_rfl) (by kernel_rfl) (want_n rfl rfl rfl rfl (by rw [hg6_15]; rfl)) ?_
                  refine rg_take 20 rfl rfl (by kernel_rfl) (by kernel_rfl) (by kernel_rfl) (want_y rfl rfl rfl rfl (by rw [hg6_11]; rfl)) (fun w hok => x_pickF (tmB rfl rfl) hg6_15 ev_c) ?_
                  refine rg_take 21 rfl rfl (by kernel_rfl) (by kernel_rfl) (by kernel_rfl) (want_0) (fun w hok => x_pickF (tmB rfl rfl) hg6_11 (tmB rfl rfl)) ?_
                  refine rg_done (oks_drop hS 2 rfl) (by kernel_rfl) ?_
                  exact then_n ⟨_, rfl, (by repeat (first | exact agree_self | exact agree_refl | refine agree_upd rfl ?_ | refine agree_mix rfl ?_)), (by first | rfl | (exact congrArg Value.bool (by simp [*]); done) | (exact congrArg Value.bool (by simp [*]); rfl) | (exact congrArg Value.bool (by simp [*]); go_num)), (hS.pick [2, 3, 4, 5] rfl rfl)⟩
         have hg6_2' := hg6_2; (try simp only [nrm] at hg6_2'); try (exfalso; first | with_reducible exact absurd hg6_2 Bool.false_ne_true | with_reducible exact absurd hg6_2.symm Bool.false_ne_true | omega | (simp at hg6_2; done))
         all_goals
          refine rg_skip 3 rfl rfl (by kernel_rfl) (by kernel_rfl) (by kernel_rfl) (want_n rfl rfl rfl rfl (by rw [hg6_2]; rfl)) ?_
          refine rg_skip 4 rfl rfl (by kernel_rfl) (by kernel_rfl) (by kernel_rfl) (want_n rfl rfl rfl rfl (by rw [hg6_2]; rfl)) ?_
          refine rg_skip 5 rfl rfl (by kernel_rfl) (by kernel_rfl) (by kernel_rfl) (want_n rfl rfl rfl rfl (by rw [hg6_2]; rfl)) ?_
          refine rg_skip 6 rfl rfl (by kernel_rfl) (by kernel_rfl) (by kernel_rfl) (want_n rfl rfl rfl rfl (by rw [hg6_2]; rfl)) ?_
          refine rg_skip 7 rfl rfl (by kernel_rfl) (by kernel_rfl) (by kernel_rfl) (want_n rfl rfl rfl rfl (by rw [hg6_2]; rfl)) ?_
          refine rg_skip 8 rfl rfl (by kernel_rfl) (by kernel_rfl) (by kernel_rfl) (want_n rfl rfl rfl rfl (by rw [hg6_2]; rfl)) ?_
          refine rg_skip 9 rfl rfl (by kernel_rfl) (by kernel_rfl) (by kernel_rfl) (want_n rfl rfl rfl rfl (by rw [hg6_2]; rfl)) ?_
          refine rg_take 10 rfl rfl (by kernel_rfl) (by kernel_rfl) (by kernel_rfl) (want_0) (fun w hok => x_pickF (tmB rfl rfl) hg6_2 ev_c) ?_
          refine rg_take 11 rfl rfl (by kernel_rfl) (by kernel_rfl) (by kernel_rfl) (want_0) (fun w hok => x_move (tmB rfl rfl)) ?_
          refine rg_take 12 rfl rfl (by kernel_rfl) (by kernel_rfl) (by kernel_rfl) (want_y rfl rfl rfl rfl rfl) (fun w hok => x_loadA (cs := [_, _, _, _, _, _, _, _, _, _, _, _, _, _, _, _]) Try.underlying33 rfl ts_33 (tmP rfl rfl) (rangeB hok 1 rfl rfl)) ?_
          refine rg_step 13 rfl (by kernel_rfl) (want_y rfl rfl rfl rfl rfl) (oks_drop hS 0 rfl) ?_; intro K hK
          refine ow_call Try.func26 rfl rfl (evs_cons (tmA rfl rfl) <| evs_nil) (rip4_right_c tos len id stay more off ttl proto sum s d O o.length c _ (by omega)) ?_
          rintro e w ⟨rfl, hk⟩
          refine ⟨_, rfl, ?_⟩
          replace hS := hS.kept hk
          clear hk
          refine hK _ _ ?_; clear hK K
          refine rg_take 14 rfl rfl (by kernel_rfl) (by kernel_rfl) (by kernel_rfl) (want_y rfl rfl rfl rfl rfl) (fun w hok => x_not (tmB rfl rfl)) ?_
          refine rg_take 15 rfl rfl (by kernel_rfl) (by kernel_rfl) (by kernel_rfl) (want_y rfl rfl rfl rfl rfl) (fun w hok => x_move (tmB rfl rfl)) ?_
          refine gs_rg (tm (t := 66) rfl) (fun hg6_15 => ?_) (fun hg6_15 => ?_)
          · have hg6_15' := hg6_15; (try simp only [nrm] at hg6_15'); try (exfalso; first | with_reducible exact absurd hg6_15 Bool.false_ne_true | with_reducible exact absurd hg6_15.symm Bool.false_ne_true | omega | (simp at hg6_15; done))
            all_goals
             have hbb : bb = [] := hbb0 (by simpa using hg6_15)
             refine rg_take 16 rfl rfl (by kernel_rfl) (by kernel_rfl) (by kernel_rfl) (want_y rfl rfl rfl rfl (by rw [hg6_15]; rfl)) (fun w hok => x_loadA (cs := [_, _, _, _, _, _, _, _, _, _, _, _, _, _, _, _]) Try.underlying29 rfl ts_29 (tmP rfl rfl) (rangeB hok 0 rfl rfl)) ?_
             refine rg_step 17 rfl (by kernel_rfl) (want_y rfl rfl rfl rfl (by rw [hg6_15]; rfl)) (oks_drop hS 0 rfl) ?_; intro K hK
             refine ow_call Try.func29 rfl rfl (evs_cons (tmA rfl rfl) <| evs_nil) (hI _ (viewV hS.ok 3 rfl)) ?_
             rintro e w ⟨A1, n1, c1, hn1, rfl, hn, hk⟩
             refine ⟨_, rfl, ?_⟩
             replace hS := hS.add hk hn -- +rowa
             clear hn hk
             refine hK _ _ ?_; clear hK K
             refine rg_take 18 rfl rfl (by kernel_rfl) (by kernel_rfl) (by kernel_rfl) (want_y rfl rfl rfl rfl (by rw [hg6_15]; rfl)) (fun w hok => x_len Try.underlying22 (tmS rfl rfl)) ?_
             refine rg_take 19 rfl rfl (by kernel_rfl) (by kernel_rfl) (by kernel_rfl) (want_y rfl rfl rfl rfl (by rw [hg6_15]; rfl)) (fun w hok => x_neq (tmI rfl rfl) (ev_cN 0)) ?_
             refine rg_take 20 rfl rfl (by kernel_rfl) (by kernel_rfl) (by kernel_rfl) (want_y rfl rfl rfl rfl rfl) (fun w hok => x_pickT (tmB rfl rfl) hg6_15 (tmB rfl rfl)) ?_
             refine rg_take 21 rfl rfl (by kernel_rfl) (by kernel_rfl) (by kernel_rfl) (want_0) (fun w hok => x_pickF (tmB rfl rfl) rfl (tmB rfl rfl)) ?_
             refine rg_done (oks_drop hS 1 rfl) (by kernel_rfl) ?_
             exact then_n ⟨_, rfl, (by repeat (first | exact agree_self | exact agree_refl | refine agree_upd rfl ?_ | refine agree_mix rfl ?_)), (by first | rfl | (exact congrArg Value.bool (by simp [*]); done) | (exact congrArg Value.bool (by simp [*]); rfl) | (exact congrArg Value.bool (by simp [*]); go_num)), (hS.pick [1, 2, 3, 4] rfl rfl)⟩
          have hg6_15' := hg6_15; (try simp only [nrm] at hg6_15'); try (exfalso; first | with_reducible exact absurd hg6_15 Bool.false_ne_true | with_reducible exact absurd hg6_15.symm Bool.false_ne_true | omega | (simp at hg6_15; done))
          all_goals
           refine rg_skip 16 rfl rfl (by kernel_rfl) (by kernel_rfl) (by kernel_rfl) (want_n rfl rfl rfl rfl (by rw [hg6_15]; rfl)) ?_
           refine rg_skip 17 rfl rfl (by kernel_rfl) (by kernel_rfl) (by kernel_rfl) (want_n rfl rfl rfl rfl (by rw [hg6_15]; rfl)) ?_
           refine rg_skip 18 rfl rfl (by kernel_rfl) (by kernel_rfl) (by kernel_rfl) (want_n rfl rfl rfl rfl (by rw [hg6_15]; rfl)) ?_
           refine rg_skip 19 rfl rfl (by kernel_rfl) (by kernel_rfl) (by kernel_rfl) (want_n rfl rfl rfl rfl (by rw [hg6_15]; rfl)) ?_
           refine rg_take 20 rfl rfl (by kernel_rfl) (by kernel_rfl) (by kernel_rfl) (want_y rfl rfl rfl rfl rfl) (fun w hok => x_pickF (tmB rfl rfl) hg6_15 ev_c) ?_
           refine rg_take 21 rfl rfl (by kernel_rfl) (by kernel_rfl) (by kernel_rfl) (want_0) (fun w hok => x_pickF (tmB rfl rfl) rfl (tmB rfl rfl)) ?_
           refine rg_done (oks_drop hS 0 rfl) (by kernel_rfl) ?_
           exact then_n ⟨_, rfl, (by repeat (first | exact agree_self | exact agree_refl | refine agree_upd rfl ?_ | refine agree_mix rfl ?_)), (by first | rfl | (exact congrArg Value.bool (by simp [*]); done) | (exact congrArg Value.bool (by simp [*]); rfl) | (exact congrArg Value.bool (by simp [*]); go_num)), (hS.pick [0, 1, 2, 3] rfl rfl)⟩
       · clear hS; intro g w hI
         obtain ⟨hs72, hS⟩ := hI
         refine fr_knowQ (d := 72) hs72 ?_; clear hs72
         refine then_n (hK10 _ _ ?_); clear hK10 K10
         refine cnd (tm rfl) (fun hc2 => ?_) (fun hc2 => ?_)
         · exfalso
           exact absurd hc2 (by decide)
         try (exfalso; first | with_reducible exact absurd hc2 Bool.false_ne_true | with_reducible exact absurd hc2.symm Bool.false_ne_true | (simp only [nrm] at hc2; omega) | (simp at hc2; done))
         all_goals
          try simp only [nrm] at hc2
          refine wp_skip ?_
          refine then_n (hK9 _ _ ?_); clear hK9 K9
          refine wp_seq_k ?_; intro K12 hK12
          refine wlit ?_
          refine wl_v (x_loadA (cs := [_, _, _, _, _, _, _, _, _, _, _, _, _, _, _, _]) Try.underlying29 rfl ts_29 (tmP rfl rfl) (rangeB hS.ok 0 rfl rfl)) ?_
          refine wl_v (x_move (tmS rfl rfl)) ?_
          refine wl_e rfl ?_; intro K hK
          refine ow_call Try.func31 rfl rfl (evs_cons (tmA rfl rfl) <| evs_cons (tmS rfl rfl) <| evs_nil) (hPI _ (viewV hS.ok 3 rfl) (viewV hS.ok 2 rfl)) ?_
          rintro e w ⟨A3, n3, c3, hn3, rfl, hn, hk⟩
          refine ⟨_, rfl, ?_⟩
          replace hS := hS.add hk hn -- +rowp
          clear hn hk
          refine hK _ _ ?_; clear hK K
          refine wl_v (x_move (tmT rfl rfl)) ?_
          refine wl_v (x_ext (tmT rfl rfl) rfl) ?_
          refine wl_v (x_ext (tmT rfl rfl) rfl) ?_
          refine wl_v (x_assign (tmS rfl rfl)) ?_
          refine wl_v (x_assign (tmI rfl rfl)) ?_
          refine wl_nil ?_
          refine then_n (hK12 _ _ ?_); clear hK12 K12
          refine wp_seq_k ?_; intro K13 hK13
          refine wlit ?_
          refine wl_v (x_loadA (cs := [_, _, _, _, _, _, _, _, _, _, _, _, _, _, _, _]) Try.underlying33 rfl ts_33 (tmP rfl rfl) (rangeB hS.ok 2 rfl rfl)) ?_
          refine wl_v (x_move (tmS rfl rfl)) ?_
          refine wl_e rfl ?_; intro K hK
          refine ow_call Try.func32 rfl rfl (evs_cons (tmA rfl rfl) <| evs_cons (tmS rfl rfl) <| evs_nil) (hPR _ (viewV hS.ok 4 rfl) (viewV hS.ok 3 rfl)) ?_
          rintro e w ⟨A4, n4, c4, hn4, rfl, hn, hk⟩
          refine ⟨_, rfl, ?_⟩
          replace hS := hS.add hk hn -- +rowq
          clear hn hk
          refine hK _ _ ?_; clear hK K
          refine wl_v (x_move (tmT rfl rfl)) ?_
          refine wl_v (x_ext (tmT rfl rfl) rfl) ?_
          refine wl_v (x_ext (tmT rfl rfl) rfl) ?_
          refine wl_v (x_assign (tmS rfl rfl)) ?_
          refine wl_v (x_assign (tmI rfl rfl)) ?_
          refine wl_nil ?_
          refine then_n (hK13 _ _ ?_); clear hK13 K13
          refine wp_seq_k ?_; intro K14 hK14
          refine wp_seq_k ?_; intro K15 hK15
          refine wlit ?_
          refine wl_v (x_move (tmS rfl rfl)) ?_
          first
           | refine wl_v (x_bstr Try.underlying22 Try.underlying5 Try.underlying9 (tmS rfl rfl) (viewR hS.ok 0 rfl) (by first | assumption | exact Bytes.nil | (repeat' (first | assumption | exact Bytes.nil | exact be_bytes _ _ | apply Bytes.append | apply Bytes.take | apply Bytes.drop | apply Bytes.replicate))) (by first | rfl | assumption | (simp; done) | (simp; omega) | omega)) ?_
           | refine wl_v (x_bstr Try.underlying22 Try.underlying5 Try.underlying9 (tmS rfl rfl) (viewR hS.ok 1 rfl) (by first | assumption | exact Bytes.nil | (repeat' (first | assumption | exact Bytes.nil | exact be_bytes _ _ | apply Bytes.append | apply Bytes.take | apply Bytes.drop | apply Bytes.replicate))) (by first | rfl | assumption | (simp; done) | (simp; omega) | omega)) ?_
           | refine wl_v (x_bstr Try.underlying22 Try.underlying5 Try.underlying9 (tmS rfl rfl) (viewV hS.ok 4 rfl) (by first | assumption | exact Bytes.nil | (repeat' (first | assumption | exact Bytes.nil | exact be_bytes _ _ | apply Bytes.append | apply Bytes.take | apply Bytes.drop | apply Bytes.replicate))) (by first | rfl | assumption | (simp; done) | (simp; omega) | omega)) ?_
           | refine wl_v (x_bstr Try.underlying22 Try.underlying5 Try.underlying9 (tmS rfl rfl) (viewV hS.ok 5 rfl) (by first | assumption | exact Bytes.nil | (repeat' (first | assumption | exact Bytes.nil | exact be_bytes _ _ | apply Bytes.append | apply Bytes.take | apply Bytes.drop | apply Bytes.replicate))) (by first | rfl | assumption | (simp; done) | (simp; omega) | omega)) ?_
           | refine wl_v (x_bstr (l := []) Try.underlying22 Try.underlying5 Try.underlying9 (tmS rfl rfl) View.nil_ (by first | assumption | exact Bytes.nil | (repeat' (first | assumption | exact Bytes.nil | exact be_bytes _ _ | apply Bytes.append | apply Bytes.take | apply Bytes.drop | apply Bytes.replicate))) (by first | rfl | assumption | (simp; done) | (simp; omega) | omega)) ?_
          refine wl_v (x_move (tmS rfl rfl)) ?_
          first
           | refine wl_v (x_bstr Try.underlying22 Try.underlying5 Try.underlying9 (tmS rfl rfl) (viewR hS.ok 0 rfl) (by first | assumption | exact Bytes.nil | (repeat' (first | assumption | exact Bytes.nil | exact be_bytes _ _ | apply Bytes.append | apply Bytes.take | apply Bytes.drop | apply Bytes.replicate))) (by first | rfl | assumption | (simp; done) | (simp; omega) | omega)) ?_
           | refine wl_v (x_bstr Try.underlying22 Try.underlying5 Try.underlying9 (tmS rfl rfl) (viewR hS.ok 1 rfl) (by first | assumption | exact Bytes.nil | (repeat' (first | assumption | exact Bytes.nil | exact be_bytes _ _ | apply Bytes.append | apply Bytes.take | apply Bytes.drop | apply Bytes.replicate))) (by first | rfl | assumption | (simp; done) | (simp; omega) | omega)) ?_
           | refine wl_v (x_bstr Try.underlying22 Try.underlying5 Try.underlying9 (tmS rfl rfl) (viewV hS.ok 4 rfl) (by first | assumption | exact Bytes.nil | (repeat' (first | assumption | exact Bytes.nil | exact be_bytes _ _ | apply Bytes.append | apply Bytes.take | apply Bytes.drop | apply Bytes.replicate))) (by first | rfl | assumption | (simp; done) | (simp; omega) | omega)) ?_
           | refine wl_v (x_bstr Try.underlying22 Try.underlying5 Try.underlying9 (tmS rfl rfl) (viewV hS.ok 5 rfl) (by first | assumption | exact Bytes.nil | (repeat' (first | assumption | exact Bytes.nil | exact be_bytes _ _ | apply Bytes.append | apply Bytes.take | apply Bytes.drop | apply Bytes.replicate))) (by first | rfl | assumption | (simp; done) | (simp; omega) | omega)) ?_
           | refine wl_v (x_bstr (l := []) Try.underlying22 Try.underlying5 Try.underlying9 (tmS rfl rfl) View.nil_ (by first | assumption | exact Bytes.nil | (repeat' (first | assumption | exact Bytes.nil | exact be_bytes _ _ | apply Bytes.append | apply Bytes.take | apply Bytes.drop | apply Bytes.replicate))) (by first | rfl | assumption | (simp; done) | (simp; omega) | omega)) ?_
          refine wl_v (x_Gneq (tmG rfl rfl) (tmG rfl rfl) (by first | assumption | exact Bytes.nil | (repeat' (first | assumption | exact Bytes.nil | exact be_bytes _ _ | apply Bytes.append | apply Bytes.take | apply Bytes.drop | apply Bytes.replicate))) (by first | assumption | exact Bytes.nil | (repeat' (first | assumption | exact Bytes.nil | exact be_bytes _ _ | apply Bytes.append | apply Bytes.take | apply Bytes.drop | apply Bytes.replicate)))) ?_
          refine wl_v (x_move (tmB rfl rfl)) ?_
          refine gs_wl (tm (t := 90) rfl) (fun hg10_5 => ?_) (fun hg10_5 => ?_)
          · exfalso
            simp at hg10_5
          have hg10_5' := hg10_5; (try simp only [nrm] at hg10_5'); try (exfalso; first | with_reducible exact absurd hg10_5 Bool.false_ne_true | with_reducible exact absurd hg10_5.symm Bool.false_ne_true | omega | (simp at hg10_5; done))
          all_goals
           refine wl_gv (want_y rfl rfl rfl rfl (by rw [hg10_5]; rfl)) (x_move (tmI rfl rfl)) ?_
           refine wl_gv (want_y rfl rfl rfl rfl (by rw [hg10_5]; rfl)) (x_move (tmI rfl rfl)) ?_
           refine wl_gv (want_y rfl rfl rfl rfl (by rw [hg10_5]; rfl)) (x_neq (tmI rfl rfl) (tmI rfl rfl)) ?_
           refine wl_v (x_pickF (tmB rfl rfl) hg10_5 (tmB rfl rfl)) ?_
           refine wl_nil ?_
           refine then_n (hK15 _ _ ?_); clear hK15 K15
           refine cnd (tm rfl) (fun hc3 => ?_) (fun hc3 => ?_)
           · exfalso
             simp_all
           try (exfalso; first | with_reducible exact absurd hc3 Bool.false_ne_true | with_reducible exact absurd hc3.symm Bool.false_ne_true | (simp only [nrm] at hc3; omega) | (simp at hc3; done))
           all_goals
            try simp only [nrm] at hc3
            refine wp_skip ?_
            refine then_n (hK14 _ _ ?_); clear hK14 K14
            refine wp_seq_k ?_; intro K16 hK16
            refine wp_seq_k ?_; intro K17 hK17
            refine wlit ?_
            refine wl_v (x_move (tmI rfl rfl)) ?_
            refine wl_v (x_neq (tmI rfl rfl) (ev_cN 0)) ?_
            refine wl_nil ?_
            refine then_n (hK17 _ _ ?_); clear hK17 K17
            refine cnd (tm rfl) (fun hc4 => ?_) (fun hc4 => ?_)
            · try (exfalso; first | with_reducible exact absurd hc4 Bool.false_ne_true | with_reducible exact absurd hc4.symm Bool.false_ne_true | (simp only [nrm] at hc4; omega) | (simp at hc4; done))
              all_goals
               try simp only [nrm] at hc4
               refine wp_seq_k ?_; intro K18 hK18
               refine wlit ?_
               refine wl_e rfl ?_; intro K hK
               refine ow_call Try.func19 rfl rfl (evs_nil) (law04_awake_c _) ?_
               rintro e w ⟨rfl, hk⟩
               refine ⟨_, rfl, ?_⟩
               replace hS := hS.kept hk
               clear hk
               refine hK _ _ ?_; clear hK K
               refine wl_v (x_assign (tmB rfl rfl)) ?_
               refine wl_nil ?_
               refine then_n (hK18 _ _ ?_); clear hK18 K18
               refine wp_ret ?_
               refine then_r ?_
               refine ret1 rfl (.tmp rfl (show _ = Value.bool _ from rfl)) ?_
               first
                 | exact ⟨rfl, hS.kp.below⟩
                 | exact ⟨by simp, hS.kp.below⟩
            try (exfalso; first | with_reducible exact absurd hc4 Bool.false_ne_true | with_reducible exact absurd hc4.symm Bool.false_ne_true | (simp only [nrm] at hc4; omega) | (simp at hc4; done))
            all_goals
             try simp only [nrm] at hc4
             have her0 : er = 0 := by simpa using hc4
             obtain ⟨ck, hpr⟩ := hpar her0
             have hcap := row_cap (hS.rowOk 1 rfl) (by omega)
             subst hn3
             refine wp_skip ?_
             refine then_n (hK16 _ _ ?_); clear hK16 K16
             refine wp_seq_k ?_; intro K19 hK19
             refine wlit ?_
             refine wl_v (x_move (tmS rfl rfl)) ?_
             refine wl_e rfl ?_; intro K hK
             refine ow_call Try.func20 rfl rfl (evs_cons (tmS rfl rfl) <| evs_nil) (hpr _ _ _ (viewR hS.ok 1 rfl) hcap) ?_
             rintro e w ⟨O1, L1, rfl, hm1, hm2, hk⟩
             refine ⟨_, rfl, ?_⟩
             replace hS := hS.addn2 hk hm2 hm1 -- +vl1,vo1
             clear hm1 hm2 hk
             refine hK _ _ ?_; clear hK K
             refine wl_v (x_move (tmT rfl rfl)) ?_
             refine wl_v (x_ext (tmT rfl rfl) rfl) ?_
             refine wl_v (x_ext (tmT rfl rfl) rfl) ?_
             refine wl_v (x_ext (tmT rfl rfl) rfl) ?_
             refine wl_e rfl ?_; intro K hK
             refine ow_alloc hS tz_29 rfl ?_
             clear hS; intro g14_6 w hg14_6 hS
             refine hK _ _ ?_; clear hK K
             refine wl_e rfl ?_; intro K hK
             refine ow_storeA hS 0 rfl ts_29 (tmP rfl rfl) (tmA rfl rfl) rfl rfl rfl ?_
             clear hS; intro w hS
             try replace hS := St.nm (M' := [.blk _ _ [_, _, _, _, _, _, _, _, _, _, _, _, _, _, _, _], .vw _ _, .vw _ _, .row _ _ _ _ _, .row _ _ _ _ _, .blk _ _ [_, _, _, _, _, _, _, _, _, _, _, _, _, _, _, _], .blk _ _ [_, _, _, _, _, _, _, _, _, _, _, _, _, _, _, _], .vw _ _, .vw _ _]) hS rfl
             refine hK _ _ ?_; clear hK K
             refine wl_v (x_assign (tmS rfl rfl)) ?_
             refine wl_v (x_assign (tmI rfl rfl)) ?_
             refine wl_nil ?_
             refine then_n (hK19 _ _ ?_); clear hK19 K19
             refine wp_seq_k ?_; intro K20 hK20
             refine wlit ?_
             refine wl_v (x_fa 8 Try.underlying29 rfl rfl ts_24 (tmP rfl rfl)) ?_
             refine wl_e rfl ?_; intro K hK
             first
              | refine ow_store hS 0 rfl ts_24 (tmP rfl rfl) (ev_cN 0) rfl rfl ?_
              | refine ow_storeX hS 0 rfl ts_24 (tmP rfl rfl) (ev_cN 0) rfl (by simp; omega) ?_
             clear hS; intro w hS
             try replace hS := St.nm (M' := [.blk _ _ [_, _, _, _, _, _, _, _, _, _, _, _, _, _, _, _], .vw _ _, .vw _ _, .row _ _ _ _ _, .row _ _ _ _ _, .blk _ _ [_, _, _, _, _, _, _, _, _, _, _, _, _, _, _, _], .blk _ _ [_, _, _, _, _, _, _, _, _, _, _, _, _, _, _, _], .vw _ _, .vw _ _]) hS rfl
             refine hK _ _ ?_; clear hK K
             refine wl_v (x_fa 1 Try.underlying29 rfl rfl ts_3 (tmP rfl rfl)) ?_
             refine wl_e rfl ?_; intro K hK
             first
              | refine ow_store hS 0 rfl ts_3 (tmP rfl rfl) (ev_cN 0) rfl rfl ?_
              | refine ow_storeX hS 0 rfl ts_3 (tmP rfl rfl) (ev_cN 0) rfl (by simp; omega) ?_
             clear hS; intro w hS
             try replace hS := St.nm (M' := [.blk _ _ [_, _, _, _, _, _, _, _, _, _, _, _, _, _, _, _], .vw _ _, .vw _ _, .row _ _ _ _ _, .row _ _ _ _ _, .blk _ _ [_, _, _, _, _, _, _, _, _, _, _, _, _, _, _, _], .blk _ _ [_, _, _, _, _, _, _, _, _, _, _, _, _, _, _, _], .vw _ _, .vw _ _]) hS rfl
             refine hK _ _ ?_; clear hK K
             refine wl_v (x_fa 1 Try.underlying29 rfl rfl ts_3 (tmP rfl rfl)) ?_
             refine wl_e rfl ?_; intro K hK
             first
              | refine ow_store hS 5 rfl ts_3 (tmP rfl rfl) (ev_cN 0) rfl rfl ?_
              | refine ow_storeX hS 5 rfl ts_3 (tmP rfl rfl) (ev_cN 0) rfl (by simp; omega) ?_
             clear hS; intro w hS
             try replace hS := St.nm (M' := [.blk _ _ [_, _, _, _, _, _, _, _, _, _, _, _, _, _, _, _], .vw _ _, .vw _ _, .row _ _ _ _ _, .row _ _ _ _ _, .blk _ _ [_, _, _, _, _, _, _, _, _, _, _, _, _, _, _, _], .blk _ _ [_, _, _, _, _, _, _, _, _, _, _, _, _, _, _, _], .vw _ _, .vw _ _]) hS rfl
             refine hK _ _ ?_; clear hK K
             refine wl_v (x_fa 8 Try.underlying29 rfl rfl ts_24 (tmP rfl rfl)) ?_
             refine wl_e rfl ?_; intro K hK
             first
              | refine ow_store hS 5 rfl ts_24 (tmP rfl rfl) (ev_cN 0) rfl rfl ?_
              | refine ow_storeX hS 5 rfl ts_24 (tmP rfl rfl) (ev_cN 0) rfl (by simp; omega) ?_
             clear hS; intro w hS
             try replace hS := St.nm (M' := [.blk _ _ [_, _, _, _, _, _, _, _, _, _, _, _, _, _, _, _], .vw _ _, .vw _ _, .row _ _ _ _ _, .row _ _ _ _ _, .blk _ _ [_, _, _, _, _, _, _, _, _, _, _, _, _, _, _, _], .blk _ _ [_, _, _, _, _, _, _, _, _, _, _, _, _, _, _, _], .vw _ _, .vw _ _]) hS rfl
             refine hK _ _ ?_; clear hK K
             refine wl_nil ?_
             refine then_n (hK20 _ _ ?_); clear hK20 K20
             refine wp_seq_k ?_; intro K21 hK21
             refine rg_startk 0 hS mixed_ ?_
             clear hS; intro w hS
             refine rg_take 0 rfl rfl (by kernel_rfl) (by kernel_rfl) (by kernel_rfl) (want_0) (fun w hok => x_move (tmI rfl rfl)) ?_
             refine rg_take 1 rfl rfl (by kernel_rfl) (by kernel_rfl) (by kernel_rfl) (want_0) (fun w hok => x_eql (tmI rfl rfl) (ev_cN 0)) ?_
             refine rg_take 2 rfl rfl (by kernel_rfl) (by kernel_rfl) (by kernel_rfl) (want_0) (fun w hok => x_move (tmB rfl rfl)) ?_
             refine gs_rgs (tm (t := 110) rfl) (fun hg16_2 => ?_) (fun hg16_2 => ?_)
             · exfalso
               simp at hg16_2
             have hg16_2' := hg16_2; (try simp only [nrm] at hg16_2'); try (exfalso; first | with_reducible exact absurd hg16_2 Bool.false_ne_true | with_reducible exact absurd hg16_2.symm Bool.false_ne_true | omega | (simp at hg16_2; done))
             all_goals
              refine rg_take 3 rfl rfl (by kernel_rfl) (by kernel_rfl) (by kernel_rfl) (want_y rfl rfl rfl rfl (by rw [hg16_2]; rfl)) (fun w hok => x_loadA (cs := [_, _, _, _, _, _, _, _, _, _, _, _, _, _, _, _]) Try.underlying29 rfl ts_29 (tmP rfl rfl) (rangeB hok 0 rfl rfl)) ?_
              refine rg_take 5 rfl rfl (by kernel_rfl) (by kernel_rfl) (by kernel_rfl) (want_y rfl rfl rfl rfl (by rw [hg16_2]; rfl)) (fun w hok => x_loadA (cs := [_, _, _, _, _, _, _, _, _, _, _, _, _, _, _, _]) Try.underlying29 rfl ts_29 (tmP rfl rfl) (rangeB hok 5 rfl rfl)) ?_
              refine rg_step 4 rfl (by kernel_rfl) (want_y rfl rfl rfl rfl (by rw [hg16_2]; rfl)) (oks_drop hS 0 rfl) ?_; intro K hK
              refine ow_call Try.func23 rfl rfl (evs_cons (tmA rfl rfl) <| evs_nil) (of04_c tos 0 id stay more off ttl proto 0 s d O1 o.length o.length _) ?_
              rintro e w ⟨rfl, hk⟩
              refine ⟨_, rfl, ?_⟩
              replace hS := hS.kept hk
              clear hk
              refine hK _ _ ?_; clear hK K
              refine rg_step 6 rfl (by kernel_rfl) (want_y rfl rfl rfl rfl (by rw [hg16_2]; rfl)) (oks_drop hS 0 rfl) ?_; intro K hK
              refine ow_call Try.func23 rfl rfl (evs_cons (tmA rfl rfl) <| evs_nil) (of04_c tos 0 id stay more off ttl proto 0 s d O o.length c _) ?_
              rintro e w ⟨rfl, hk⟩
              refine ⟨_, rfl, ?_⟩
              replace hS := hS.kept hk
              clear hk
              refine hK _ _ ?_; clear hK K
              refine rg_step 7 rfl (by kernel_rfl) (want_y rfl rfl rfl rfl (by rw [hg16_2]; rfl)) (oks_drop hS 0 rfl) ?_; intro K hK
              refine ow_call Try.func22 rfl rfl (evs_cons (tmA rfl rfl) <| evs_cons (tmA rfl rfl) <| evs_nil) (same04_c tos 0 id stay more off ttl proto 0 s d O1 o.length o.length tos 0 id stay more off ttl proto 0 s d O o.length c o o _ (viewV hS.ok 2 rfl) rfl hob (viewV hS.ok 8 rfl) rfl hob ⟨rfl, rfl, rfl, rfl, rfl, rfl, rfl, rfl, rfl, rfl, rfl, rfl⟩) ?_
              rintro e w ⟨rfl, hk⟩
              refine ⟨_, rfl, ?_⟩
              replace hS := hS.kept hk
              clear hk
              refine hK _ _ ?_; clear hK K
              refine rg_take 8 rfl rfl (by kernel_rfl) (by kernel_rfl) (by kernel_rfl) (want_0) (fun w hok => x_pickT (tmB rfl rfl) hg16_2 (tmB rfl rfl)) ?_
              refine rg_take 9 rfl rfl (by kernel_rfl) (by kernel_rfl) (by kernel_rfl) (want_0) (fun w hok => x_move (tmB rfl rfl)) ?_
              refine gs_rgs (tm (t := 117) rfl) (fun hg16_9 => ?_) (fun hg16_9 => ?_)
              · exfalso
                simp at hg16_9
              have hg16_9' := hg16_9; (try simp only [nrm] at hg16_9'); try (exfalso; first | with_reducible exact absurd hg16_9 Bool.false_ne_true | with_reducible exact absurd hg16_9.symm Bool.false_ne_true | omega | (simp at hg16_9; done))
              all_goals
               refine rg_take 10 rfl rfl (by kernel_rfl) (by kernel_rfl) (by kernel_rfl) (want_y rfl rfl rfl rfl (by rw [hg16_9]; rfl)) (fun w hok => x_move (tmS rfl rfl)) ?_
               first
                | refine rg_take 11 rfl rfl (by kernel_rfl) (by kernel_rfl) (by kernel_rfl) (want_y rfl rfl rfl rfl (by rw [hg16_9]; rfl)) (fun w hok => x_bstr Try.underlying22 Try.underlying5 Try.underlying9 (tmS rfl rfl) (viewV hok 1 rfl) (by first | assumption | exact Bytes.nil | (repeat' (first | assumption | exact Bytes.nil | exact be_bytes _ _ | apply Bytes.append | apply Bytes.take | apply Bytes.drop | apply Bytes.replicate))) (by first | rfl | assumption | (simp; done) | (simp; omega) | omega)) ?_
                | refine rg_take 11 rfl rfl (by kernel_rfl) (by kernel_rfl) (by kernel_rfl) (want_y rfl rfl rfl rfl (by rw [hg16_9]; rfl)) (fun w hok => x_bstr Try.underlying22 Try.underlying5 Try.underlying9 (tmS rfl rfl) (viewV hok 2 rfl) (by first | assumption | exact Bytes.nil | (repeat' (first | assumption | exact Bytes.nil | exact be_bytes _ _ | apply Bytes.append | apply Bytes.take | apply Bytes.drop | apply Bytes.replicate))) (by first | rfl | assumption | (simp; done) | (simp; omega) | omega)) ?_
                | refine rg_take 11 rfl rfl (by kernel_rfl) (by kernel_rfl) (by kernel_rfl) (want_y rfl rfl rfl rfl (by rw [hg16_9]; rfl)) (fun w hok => x_bstr Try.underlying22 Try.underlying5 Try.underlying9 (tmS rfl rfl) (viewR hok 3 rfl) (by first | assumption | exact Bytes.nil | (repeat' (first | assumption | exact Bytes.nil | exact be_bytes _ _ | apply Bytes.append | apply Bytes.take | apply Bytes.drop | apply Bytes.replicate))) (by first | rfl | assumption | (simp; done) | (simp; omega) | omega)) ?_
                | refine rg_take 11 rfl rfl (by kernel_rfl) (by kernel_rfl) (by kernel_rfl) (want_y rfl rfl rfl rfl (by rw [hg16_9]; rfl)) (fun w hok => x_bstr Try.underlying22 Try.underlying5 Try.underlying9 (tmS rfl rfl) (viewR hok 4 rfl) (by first | assumption | exact Bytes.nil | (repeat' (first | assumption | exact Bytes.nil | exact be_bytes _ _ | apply Bytes.append | apply Bytes.take | apply Bytes.drop | apply Bytes.replicate))) (by first | rfl | assumption | (simp; done) | (simp; omega) | omega)) ?_
                | refine rg_take 11 rfl rfl (by kernel_rfl) (by kernel_rfl) (by kernel_rfl) (want_y rfl rfl rfl rfl (by rw [hg16_9]; rfl)) (fun w hok => x_bstr Try.underlying22 Try.underlying5 Try.underlying9 (tmS rfl rfl) (viewV hok 7 rfl) (by first | assumption | exact Bytes.nil | (repeat' (first | assumption | exact Bytes.nil | exact be_bytes _ _ | apply Bytes.append | apply Bytes.take | apply Bytes.drop | apply Bytes.replicate))) (by first | rfl | assumption | (simp; done) | (simp; omega) | omega)) ?_
                | refine rg_take 11 rfl rfl (by kernel_rfl) (by kernel_rfl) (by kernel_rfl) (want_y rfl rfl rfl rfl (by rw [hg16_9]; rfl)) (fun w hok => x_bstr Try.underlying22 Try.underlying5 Try.underlying9 (tmS rfl rfl) (viewV hok 8 rfl) (by first | assumption | exact Bytes.nil | (repeat' (first | assumption | exact Bytes.nil | exact be_bytes _ _ | apply Bytes.append | apply Bytes.take | apply Bytes.drop | apply Bytes.replicate))) (by first | rfl | assumption | (simp; done) | (simp; omega) | omega)) ?_
                | refine rg_take 11 rfl rfl (by kernel_rfl) (by kernel_rfl) (by kernel_rfl) (want_y rfl rfl rfl rfl (by rw [hg16_9]; rfl)) (fun w hok => x_bstr (l := []) Try.underlying22 Try.underlying5 Try.underlying9 (tmS rfl rfl) View.nil_ (by first | assumption | exact Bytes.nil | (repeat' (first | assumption | exact Bytes.nil | exact be_bytes _ _ | apply Bytes.append | apply Bytes.take | apply Bytes.drop | apply Bytes.replicate))) (by first | rfl | assumption | (simp; done) | (simp; omega) | omega)) ?_
               refine rg_take 12 rfl rfl (by kernel_rfl) (by kernel_rfl) (by kernel_rfl) (want_y rfl rfl rfl rfl (by rw [hg16_9]; rfl)) (fun w hok => x_move (tmS rfl rfl)) ?_
               first
                | refine rg_take 13 rfl rfl (by kernel_rfl) (by kernel_rfl) (by kernel_rfl) (want_y rfl rfl rfl rfl (by rw [hg16_9]; rfl)) (fun w hok => x_bstr Try.underlying22 Try.underlying5 Try.underlying9 (tmS rfl rfl) (viewV hok 1 rfl) (by first | assumption | exact Bytes.nil | (repeat' (first | assumption | exact Bytes.nil | exact be_bytes _ _ | apply Bytes.append | apply Bytes.take | apply Bytes.drop | apply Bytes.replicate))) (by first | rfl | assumption | (simp; done) | (simp; omega) | omega)) ?_
                | refine rg_take 13 rfl rfl (by kernel_rfl) (by kernel_rfl) (by kernel_rfl) (want_y rfl rfl rfl rfl (by rw [hg16_9]; rfl)) (fun w hok => x_bstr Try.underlying22 Try.underlying5 Try.underlying9 (tmS rfl rfl) (viewV hok 2 rfl) (by first | assumption | exact Bytes.nil | (repeat' (first | assumption | exact Bytes.nil | exact be_bytes _ _ | apply Bytes.append | apply Bytes.take | apply Bytes.drop | apply Bytes.replicate))) (by first | rfl | assumption | (simp; done) | (simp; omega) | omega)) ?_
                | refine rg_take 13 rfl rfl (by kernel_rfl) (by kernel_rfl) (by kernel_rfl) (want_y rfl rfl rfl rfl (by rw [hg16_9]; rfl)) (fun w hok => x_bstr Try.underlying22 Try.underlying5 Try.underlying9 (tmS rfl rfl) (viewR hok 3 rfl) (by first | assumption | exact Bytes.nil | (repeat' (first | assumption | exact Bytes.nil | exact be_bytes _ _ | apply Bytes.append | apply Bytes.take | apply Bytes.drop | apply Bytes.replicate))) (by first | rfl | assumption | (simp; done) | (simp; omega) | omega)) ?_
                | refine rg_take 13 rfl rfl (by kernel_rfl) (by kernel_rfl) (by kernel_rfl) (want_y rfl rfl rfl rfl (by rw [hg16_9]; rfl)) (fun w hok => x_bstr Try.underlying22 Try.underlying5 Try.underlying9 (tmS rfl rfl) (viewR hok 4 rfl) (by first | assumption | exact Bytes.nil | (repeat' (first | assumption | exact Bytes.nil | exact be_bytes _ _ | apply Bytes.append | apply Bytes.take | apply Bytes.drop | apply Bytes.replicate))) (by first | rfl | assumption | (simp; done) | (simp; omega) | omega)) ?_
                | refine rg_take 13 rfl rfl (by kernel_rfl) (by kernel_rfl) (by kernel_rfl) (want_y rfl rfl rfl rfl (by rw [hg16_9]; rfl)) (fun w hok => x_bstr Try.underlying22 Try.underlying5 Try.underlying9 (tmS rfl rfl) (viewV hok 7 rfl) (by first | assumption | exact Bytes.nil | (repeat' (first | assumption | exact Bytes.nil | exact be_bytes _ _ | apply Bytes.append | apply Bytes.take | apply Bytes.drop | apply Bytes.replicate))) (by first | rfl | assumption | (simp; done) | (simp; omega) | omega)) ?_
                | refine rg_take 13 rfl rfl (by kernel_rfl) (by kernel_rfl) (by kernel_rfl) (want_y rfl rfl rfl rfl (by rw [hg16_9]; rfl)) (fun w hok => x_bstr Try.underlying22 Try.underlying5 Try.underlying9 (tmS rfl rfl) (viewV hok 8 rfl) (by first | assumption | exact Bytes.nil | (repeat' (first | assumption | exact Bytes.nil | exact be_bytes _ _ | apply Bytes.append | apply Bytes.take | apply Bytes.drop | apply Bytes.replicate))) (by first | rfl | assumption | (simp; done) | (simp; omega) | omega)) ?_
                | refine rg_take 13 rfl rfl (by kernel_rfl) (by kernel_rfl) (by kernel_rfl) (want_y rfl rfl rfl rfl (by rw [hg16_9]; rfl)) (fun w hok => x_bstr (l := []) Try.underlying22 Try.underlying5 Try.underlying9 (tmS rfl rfl) View.nil_ (by first | assumption | exact Bytes.nil | (repeat' (first | assumption | exact Bytes.nil | exact be_bytes _ _ | apply Bytes.append | apply Bytes.take | apply Bytes.drop | apply Bytes.replicate))) (by first | rfl | assumption | (simp; done) | (simp; omega) | omega)) ?_
               refine rg_take 14 rfl rfl (by kernel_rfl) (by kernel_rfl) (by kernel_rfl) (want_y rfl rfl rfl rfl (by rw [hg16_9]; rfl)) (fun w hok => x_Geql (tmG rfl rfl) (tmG rfl rfl) (by first | assumption | exact Bytes.nil | (repeat' (first | assumption | exact Bytes.nil | exact be_bytes _ _ | apply Bytes.append | apply Bytes.take | apply Bytes.drop | apply Bytes.replicate))) (by first | assumption | exact Bytes.nil | (repeat' (first | assumption | exact Bytes.nil | exact be_bytes _ _ | apply Bytes.append | apply Bytes.take | apply Bytes.drop | apply Bytes.replicate)))) ?_
               refine rg_take 15 rfl rfl (by kernel_rfl) (by kernel_rfl) (by kernel_rfl) (want_0) (fun w hok => x_pickT (tmB rfl rfl) hg16_9 (tmB rfl rfl)) ?_
               refine rg_take 16 rfl rfl (by kernel_rfl) (by kernel_rfl) (by kernel_rfl) (want_0) (fun w hok => x_move (tmB rfl rfl)) ?_
               refine gs_rgs (tm (t := 124) rfl) (fun hg16_16 => ?_) (fun hg16_16 => ?_)
               · exfalso
                 simp at hg16_16
               have hg16_16' := hg16_16; (try simp only [nrm] at hg16_16'); try (exfalso; first | with_reducible exact absurd hg16_16 Bool.false_ne_true | with_reducible exact absurd hg16_16.symm Bool.false_ne_true | omega | (simp at hg16_16; done))
               all_goals
                refine rg_step 17 rfl (by kernel_rfl) (want_y rfl rfl rfl rfl (by rw [hg16_16]; rfl)) (oks_drop hS 0 rfl) ?_; intro K hK
                refine ow_call Try.func19 rfl rfl (evs_nil) (law04_awake_c _) ?_
                rintro e w ⟨rfl, hk⟩
                refine ⟨_, rfl, ?_⟩
                replace hS := hS.kept hk
                clear hk
                refine hK _ _ ?_; clear hK K
                refine rg_take 18 rfl rfl (by kernel_rfl) (by kernel_rfl) (by kernel_rfl) (want_0) (fun w hok => x_pickT (tmB rfl rfl) hg16_16 (tmB rfl rfl)) ?_
                refine rg_take 19 rfl rfl (by kernel_rfl) (by kernel_rfl) (by kernel_rfl) (want_0) (fun w hok => x_assign (tmB rfl rfl)) ?_
                refine rg_done (oks_drop hS 0 rfl) (by kernel_rfl) ?_
                refine then_n (hK21 _ _ ?_); clear hK21 K21
                refine wp_ret ?_
                refine ret1 rfl (.tmp rfl (show _ = Value.bool _ from rfl)) ?_
                first
                  | exact ⟨rfl, hS.kp.below⟩
                  | exact ⟨by simp, hS.kp.below⟩
set_option maxRecDepth 100000 in
theorem walk (v : Value) (A : Option Addr) (n c : Nat) (l : List Nat) (w0 : World) {H : Type} {enc : TypeId × Value → H} {r : Reach} {b0 : Nat} {d : DataW H} {ps : List MemPlace} (hval : Value.okWide Try.prog w0 r b0 33 v) (hd : DataW.Trod enc Try.prog w0 0 (fun _ => true) true 33 v d ps) (hlt : ∀ p ∈ ps, p.block < w0.heap.size)
    (r1 : l.length = n ∧ (A = none → c = 0) ∧ BView w0 w0.heap.size A l ∧ n ≤ c) :
    Calls Try.prog 4 #[v, .slice A n c] w0 fun e w' => e = .returned (.bool true) ∧ Below w0.heap.size w0 w' := by
  obtain ⟨s, rfl, hs⟩ := RH4.open_a hval hd hlt
  obtain ⟨tos, len, id, stay, more, off, ttl, proto, sum, src, dst, ⟨O, o, co⟩⟩ := s
  obtain ⟨q1, q2, q3, _, _, q6, q7, q8, q9, _, _, ⟨_, _, hob, hov⟩⟩ := hs
  obtain ⟨hl, _, ⟨hb, hv⟩, _⟩ := r1
  exact walkC tos len id stay more off ttl proto sum src dst O co o A n c l w0 q1 q3 q7 q8 hob hov hl hb hv
end Ip4Writes
end Go.Proofs.Ytfagblcepibliaa
