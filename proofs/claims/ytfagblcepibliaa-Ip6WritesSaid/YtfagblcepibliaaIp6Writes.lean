
/- Proved: Ip6Writes returns true for every header and load, and changes no memory that was there. Conditions: none. -/
import Derived.Test.YtfagblcepibliaaIp6B
import Derived.Test.YtfagblcepibliaaArgs
namespace Go.Proofs.Ytfagblcepibliaa
open Go.ChangeShapes Go.WideShapes Go.ChangeAt Go.RowKit
structure RH6 where
  class_ : Nat
  label : Nat
  length : Int
  next : Nat
  hops : Nat
  src : Ad
  dst : Ad
def RH6.V (s : RH6) : List Value := [.int .u8 (s.class_ : Int), .int .u32 (s.label : Int), .int .i64 s.length, .int .u8 (s.next : Int), .int .u8 (s.hops : Int), .bool s.src.six, .int .u64 (s.src.high : Int), .int .u64 (s.src.low : Int), .bool s.dst.six, .int .u64 (s.dst.high : Int), .int .u64 (s.dst.low : Int)]
theorem RH6.len (s : RH6) : s.V.length = 11 := rfl
def RH6.ok (w : World) (s : RH6) : Prop := s.class_ < 256 ∧ s.label < 4294967296 ∧ (-9223372036854775808 ≤ s.length ∧ s.length ≤ 9223372036854775807) ∧ s.next < 256 ∧ s.hops < 256 ∧ s.src.ok w ∧ s.dst.ok w
instance : Inhabited RH6 := ⟨⟨0, 0, 0, 0, 0, default, default⟩⟩
set_option maxRecDepth 100000 in
theorem RH6.open_t {H : Type} {enc : TypeId × Value → H} {w : World} {fuel : Nat} {cs : List Value} {x : DataW H × List MemPlace} (hf : DataW.trod enc Try.prog w 0 (fun _ => true) true fuel 52 cs = some x) (hlt : ∀ p ∈ x.2, p.block < w.heap.size) : ∃ s : RH6, cs = s.V ∧ s.ok w := by
  have hC : Try.prog.cellsOf 52 = 11 := by kernel_rfl
  have hl := (DataW.trod_struct Try.underlying52 hf).choose_spec.choose_spec.2.2.1
  rw [hC] at hl
  obtain ⟨y0, k0, t0, b0⟩ := field_t Try.underlying52 hf hlt 0 _ rfl
  have hC0 : Try.prog.cellsOf 5 = 1 := by kernel_rfl
  obtain ⟨s0, e0, o0⟩ := t_u8 Try.underlying5 t0 b0
  have d0 := split_drop cs 0 1 (hC0 ▸ e0)
  obtain ⟨y1, k1, t1, b1⟩ := field_t Try.underlying52 hf hlt 1 _ rfl
  have hC1 : Try.prog.cellsOf 50 = 1 := by kernel_rfl
  obtain ⟨s1, e1, o1⟩ := t_u32 Try.underlying50 t1 b1
  have d1 := split_drop cs 1 1 (hC1 ▸ e1)
  obtain ⟨y2, k2, t2, b2⟩ := field_t Try.underlying52 hf hlt 2 _ rfl
  have hC2 : Try.prog.cellsOf 3 = 1 := by kernel_rfl
  obtain ⟨s2, e2, o2⟩ := t_i64 Try.underlying3 t2 b2
  have d2 := split_drop cs 2 1 (hC2 ▸ e2)
  obtain ⟨y3, k3, t3, b3⟩ := field_t Try.underlying52 hf hlt 3 _ rfl
  have hC3 : Try.prog.cellsOf 5 = 1 := by kernel_rfl
  obtain ⟨s3, e3, o3⟩ := t_u8 Try.underlying5 t3 b3
  have d3 := split_drop cs 3 1 (hC3 ▸ e3)
  obtain ⟨y4, k4, t4, b4⟩ := field_t Try.underlying52 hf hlt 4 _ rfl
  have hC4 : Try.prog.cellsOf 5 = 1 := by kernel_rfl
  obtain ⟨s4, e4, o4⟩ := t_u8 Try.underlying5 t4 b4
  have d4 := split_drop cs 4 1 (hC4 ▸ e4)
  obtain ⟨y5, k5, t5, b5⟩ := field_t Try.underlying52 hf hlt 5 _ rfl
  have hC5 : Try.prog.cellsOf 27 = 3 := by kernel_rfl
  obtain ⟨s5, e5, o5⟩ := Ad.open_t t5 b5
  have d5 := split_drop cs 5 3 (hC5 ▸ e5)
  obtain ⟨y6, k6, t6, b6⟩ := field_t Try.underlying52 hf hlt 6 _ rfl
  have hC6 : Try.prog.cellsOf 27 = 3 := by kernel_rfl
  obtain ⟨s6, e6, o6⟩ := Ad.open_t t6 b6
  have d6 := split_drop cs 8 3 (hC6 ▸ e6)
  refine ⟨⟨s0, s1, s2, s3, s4, s5, s6⟩, ?_, ⟨o0, o1, o2, o3, o4, o5, o6⟩⟩
  have dn : cs.drop 11 = [] := List.drop_eq_nil_of_le (by omega)
  rw [← List.drop_zero (l := cs)]
  refine d0.trans ?_
  rw [show cs.drop (0 + 1) = _ from d1]
  rw [show cs.drop (1 + 1) = _ from d2]
  rw [show cs.drop (2 + 1) = _ from d3]
  rw [show cs.drop (3 + 1) = _ from d4]
  rw [show cs.drop (4 + 1) = _ from d5]
  rw [show cs.drop (5 + 3) = _ from d6]
  rw [show cs.drop (8 + 3) = [] from dn]
  rfl
set_option maxRecDepth 100000 in
theorem RH6.open_a {H : Type} {enc : TypeId × Value → H} {w : World} {r : Reach} {b0 : Nat} {v : Value} {d : DataW H} {ps : List MemPlace} (hval : Value.okWide Try.prog w r b0 52 v) (hd : DataW.Trod enc Try.prog w 0 (fun _ => true) true 52 v d ps) (hlt : ∀ p ∈ ps, p.block < w.heap.size) : ∃ s : RH6, v = .agg s.V.toArray ∧ s.ok w := by
  obtain ⟨cs, rfl, _⟩ := okWide_struct Try.underlying52 hval
  obtain ⟨fuel, hf⟩ := hd
  obtain ⟨s, e, h⟩ := RH6.open_t hf hlt
  exact ⟨s, by rw [← e]; simp [Value.cells], h⟩
set_option maxRecDepth 100000 in
set_option maxHeartbeats 4000000 in
theorem to05_c (cl lb : Nat) (len : Int) (nx hp : Nat) (s d : Ad) (w0 : World) :
    Calls Try.prog 34 #[.agg (hd6V cl lb len nx hp s d).toArray] w0 fun e w' => e = .returned (.agg (hd6V cl lb len nx hp s d).toArray) ∧ Kp [] w0 w' := by
  have hS := St.sv w0
  refine ent (n := 18) Try.func34 rfl rfl ?_
  refine wp_seq_k ?_; intro K1 hK1
  refine wlit ?_
  refine wl_e rfl ?_; intro K hK
  refine ow_box hS (tmA rfl rfl) rfl ?_
  clear hS; intro g0_0 w hg0_0 hS
  refine hK _ _ ?_; clear hK K
  refine wl_e rfl ?_; intro K hK
  refine ow_alloc hS tz_53 rfl ?_
  clear hS; intro g0_1 w hg0_1 hS
  refine hK _ _ ?_; clear hK K
  refine wl_nil ?_
  refine then_n (hK1 _ _ ?_); clear hK1 K1
  refine wp_seq_k ?_; intro K2 hK2
  refine wlit ?_
  refine wl_v (x_fa 0 Try.underlying52 rfl rfl ts_5 (tmP rfl rfl)) ?_
  first
   | refine wl_v (x_load Try.underlying5 rfl (tmP rfl rfl) (cellB hS.ok 1 rfl rfl)) ?_
   | refine wl_v (x_load Try.underlying5 rfl (tmP rfl rfl) (cellB hS.ok 1 rfl (getm (by omega)))) ?_
  refine wl_v (x_fa 1 Try.underlying52 rfl rfl ts_50 (tmP rfl rfl)) ?_
  first
   | refine wl_v (x_load Try.underlying50 rfl (tmP rfl rfl) (cellB hS.ok 1 rfl rfl)) ?_
   | refine wl_v (x_load Try.underlying50 rfl (tmP rfl rfl) (cellB hS.ok 1 rfl (getm (by omega)))) ?_
  refine wl_v (x_fa 2 Try.underlying52 rfl rfl ts_3 (tmP rfl rfl)) ?_
  first
   | refine wl_v (x_load Try.underlying3 rfl (tmP rfl rfl) (cellB hS.ok 1 rfl rfl)) ?_
   | refine wl_v (x_load Try.underlying3 rfl (tmP rfl rfl) (cellB hS.ok 1 rfl (getm (by omega)))) ?_
  refine wl_v (x_fa 3 Try.underlying52 rfl rfl ts_5 (tmP rfl rfl)) ?_
  first
   | refine wl_v (x_load Try.underlying5 rfl (tmP rfl rfl) (cellB hS.ok 1 rfl rfl)) ?_
   | refine wl_v (x_load Try.underlying5 rfl (tmP rfl rfl) (cellB hS.ok 1 rfl (getm (by omega)))) ?_
  refine wl_v (x_fa 4 Try.underlying52 rfl rfl ts_5 (tmP rfl rfl)) ?_
  first
   | refine wl_v (x_load Try.underlying5 rfl (tmP rfl rfl) (cellB hS.ok 1 rfl rfl)) ?_
   | refine wl_v (x_load Try.underlying5 rfl (tmP rfl rfl) (cellB hS.ok 1 rfl (getm (by omega)))) ?_
  refine wl_v (x_fa 5 Try.underlying52 rfl rfl ts_27 (tmP rfl rfl)) ?_
  refine wl_v (x_loadA (cs := [_, _, _]) Try.underlying27 rfl ts_27 (tmP rfl rfl) (rangeB hS.ok 1 rfl rfl)) ?_
  refine wl_v (x_fa 8 Try.underlying52 rfl rfl ts_27 (tmP rfl rfl)) ?_
  refine wl_v (x_loadA (cs := [_, _, _]) Try.underlying27 rfl ts_27 (tmP rfl rfl) (rangeB hS.ok 1 rfl rfl)) ?_
  refine wl_v (x_build (bc_take (tmI rfl rfl) <| bc_take (tmI rfl rfl) <| bc_take (tmI rfl rfl) <| bc_take (tmI rfl rfl) <| bc_take (tmI rfl rfl) <| bc_takeL (tmA rfl rfl) <| bc_takeL (tmA rfl rfl) <| bc_nil) (by kernel_rfl)) ?_
  refine wl_e rfl ?_; intro K hK
  refine ow_storeA hS 0 rfl ts_53 (tmP rfl rfl) (tmA rfl rfl) rfl rfl rfl ?_
  clear hS; intro w hS
  try replace hS := St.nm (M' := [.blk _ _ [_, _, _, _, _, _, _, _, _, _, _], .blk _ _ [_, _, _, _, _, _, _, _, _, _, _], _]) hS rfl
  refine hK _ _ ?_; clear hK K
  refine wl_nil ?_
  refine then_n (hK2 _ _ ?_); clear hK2 K2
  refine wp_ret ?_
  refine ret1 rfl (.cell rfl rfl (load_rowB (cs := [_, _, _, _, _, _, _, _, _, _, _]) hS.ok 0 rfl Try.underlying53 rfl ts_53 rfl)) ?_
  exact ⟨rfl, hS.kp⟩
theorem ad6_of {l : List Nat} {p : Nat} {a : Ad} (h : (l.drop p).take 16 = adB a) (h6 : a.six = true) (hl : adLim a) : ad6 l p = a := by
  unfold ad6
  rw [h]
  obtain ⟨six, high, low⟩ := a
  have h6' : six = true := h6
  subst h6'
  have l1 : high ≤ 18446744073709551615 := hl.1
  have l2 : low ≤ 18446744073709551615 := hl.2
  have e1 : getN (adB ⟨true, high, low⟩) 0 8 = high % 256 ^ 8 := getN_at (P := []) (Q := be low 8) rfl rfl
  have e2 : getN (adB ⟨true, high, low⟩) 8 8 = low % 256 ^ 8 := getN_at (P := be high 8) (Q := []) (by rw [List.append_nil]; rfl) (be_length _ _)
  rw [e1, e2, Nat.mod_eq_of_lt (by omega), Nat.mod_eq_of_lt (by omega)]
theorem hd6_read {cl lb k nx hp : Nat} {s d : Ad} {x pp : List Nat} (q1 : cl < 256) (q4 : nx < 256) (q5 : hp < 256) (hls : adLim s) (hld : adLim d) (r1 : lb ≤ 1048575) (rk : k ≤ 65535) (hs : s.six = true) (hd : d.six = true) (hpp : pp = hd6B cl lb k nx hp s d ++ x) :
    getN pp 0 4 = hd6F cl lb ∧ getN pp 4 2 = k ∧ getN pp 6 1 = nx ∧ getN pp 7 1 = hp ∧ ad6 pp 8 = s ∧ ad6 pp 24 = d ∧ pp.drop 40 = x := by
  have hFb : hd6F cl lb ≤ 4294967295 := by unfold hd6F; omega
  have hns := adN_six hs
  have hnd := adN_six hd
  have b1 := getN_at (l := pp) (v := hd6F cl lb) (s := 4) (k := 0) (P := []) (Q := be k 2 ++ be nx 1 ++ be hp 1 ++ adB s ++ adB d ++ x) (by rw [hpp]; simp only [hd6B, List.append_assoc]) rfl
  have b2 := getN_at (l := pp) (v := k) (s := 2) (k := 4) (P := [] ++ be (hd6F cl lb) 4) (Q := be nx 1 ++ be hp 1 ++ adB s ++ adB d ++ x) (by rw [hpp]; simp only [hd6B, List.append_assoc]) (by simp [be_length])
  have b3 := getN_at (l := pp) (v := nx) (s := 1) (k := 6) (P := [] ++ be (hd6F cl lb) 4 ++ be k 2) (Q := be hp 1 ++ adB s ++ adB d ++ x) (by rw [hpp]; simp only [hd6B, List.append_assoc]) (by simp [be_length])
  have b4 := getN_at (l := pp) (v := hp) (s := 1) (k := 7) (P := [] ++ be (hd6F cl lb) 4 ++ be k 2 ++ be nx 1) (Q := adB s ++ adB d ++ x) (by rw [hpp]; simp only [hd6B, List.append_assoc]) (by simp [be_length])
  have b5 := part_at (l := pp) (o := adB s) (k := 8) (m := 16) (P := [] ++ be (hd6F cl lb) 4 ++ be k 2 ++ be nx 1 ++ be hp 1) (Q := adB d ++ x) (by rw [hpp]; simp only [hd6B, List.append_assoc]) (by simp [be_length]) (by rw [adB_len, hns])
  have b6 := part_at (l := pp) (o := adB d) (k := 24) (m := 16) (P := [] ++ be (hd6F cl lb) 4 ++ be k 2 ++ be nx 1 ++ be hp 1 ++ adB s) (Q := x) (by rw [hpp]; simp only [hd6B, List.append_assoc]) (by simp [be_length, adB_len, hns]) (by rw [adB_len, hnd])
  have b7 := tail_at (l := pp) (o := x) (k := 40) (P := hd6B cl lb k nx hp s d) hpp (hd6B_len hs hd)
  refine ⟨by rw [b1]; omega, by rw [b2]; omega, by rw [b3]; omega, by rw [b4]; omega, ad6_of b5 hs hls, ad6_of b6 hd hld, b7⟩

namespace Ip6Writes
set_option maxRecDepth 100000 in
set_option maxHeartbeats 8000000 in
theorem walkC (cl lb : Nat) (len : Int) (nx hp : Nat) (s d : Ad) (L : Option Addr) (k c : Nat) (x : List Nat) (w0 : World)
    (q1 : cl < 256) (q4 : nx < 256) (q5 : hp < 256) (hls : adLim s) (hld : adLim d) (hx : x.length = k) (hxb : Bytes x) (hxv : View w0 w0.heap.size L (x.map u8v)) :
    Calls Try.prog 6 #[.agg (hd6V cl lb len nx hp s d).toArray, .slice L k c] w0 fun e w' => e = .returned (.bool true) ∧ Below w0.heap.size w0 w' := by
  have hS := (St.sv w0).vcons rfl hxv
  by_cases hbig : 3000 < k
  · skip
    refine ent (n := 99) Try.func6 rfl rfl ?_
    refine wp_seq_k ?_; intro K1 hK1
    refine wlit ?_
    refine wl_e rfl ?_; intro K hK
    refine ow_box hS (tmA rfl rfl) rfl ?_
    clear hS; intro g0_0 w hg0_0 hS
    refine hK _ _ ?_; clear hK K
    refine wl_v (x_assign ev_c) ?_
    refine wl_nil ?_
    refine then_n (hK1 _ _ ?_); clear hK1 K1
    refine wp_seq_k ?_; intro K2 hK2
    refine wp_seq_k ?_; intro K3 hK3
    refine wlit ?_
    refine wl_v (x_move (tmS rfl rfl)) ?_
    refine wl_v (x_len Try.underlying22 (tmS rfl rfl)) ?_
    refine wl_v (x_gtr (tmI rfl rfl) (ev_cN 3000)) ?_
    refine wl_nil ?_
    refine then_n (hK3 _ _ ?_); clear hK3 K3
    refine cnds (tm rfl) (fun hc0 => ?_) (fun hc0 => ?_)
    · exfalso
      simp only [nrm] at hc0
      omega
    try (exfalso; first | with_reducible exact absurd hc0 Bool.false_ne_true | with_reducible exact absurd hc0.symm Bool.false_ne_true | (simp only [nrm] at hc0; omega) | (simp at hc0; done))
    all_goals
     try simp only [nrm] at hc0
     refine wp_seq_k ?_; intro K4 hK4
     refine wlit ?_
     refine wl_e rfl ?_; intro K hK
     refine ow_call Try.func33 rfl rfl (evs_nil) (law05_awake_c _) ?_
     rintro e w ⟨rfl, hk⟩
     refine ⟨_, rfl, ?_⟩
     replace hS := hS.kept hk
     clear hk
     refine hK _ _ ?_; clear hK K
     refine wl_v (x_assign (tmB rfl rfl)) ?_
     refine wl_nil ?_
     refine then_n (hK4 _ _ ?_); clear hK4 K4
     refine wp_ret ?_
     refine then_r ?_
     refine ret1 rfl (.tmp rfl (show _ = Value.bool _ from rfl)) ?_
     exact ⟨rfl, hS.kp.below⟩
  have hk3 : k ≤ 3000 := by omega
  have hB : ∃ bb : List Nat, (¬ hd6Right lb len s d → bb = []) ∧ Bytes bb ∧
      (∀ w, Calls Try.prog 37 #[.agg (hd6V cl lb len nx hp s d).toArray] w fun e w' => ∃ A n c', n = bb.length ∧ e = .returned (.slice A n c') ∧ New w w' (.row (.slice A n c') 5 1 n (bb.map u8v)) ∧ Kp [] w w') ∧
      (hd6Right lb len s d → ∀ w, Calls Try.prog 38 #[.agg (hd6V cl lb len nx hp s d).toArray] w fun e w' => ∃ A n c', n = bb.length ∧ e = .returned (.slice A n c') ∧ New w w' (.row (.slice A n c') 5 1 n (bb.map u8v)) ∧ Kp [] w w') := by
    by_cases hr : hd6Right lb len s d
    · have hr' := hr
      obtain ⟨r1, r2, r3, r4, r5⟩ := hr'
      obtain ⟨len, rfl⟩ := Int.eq_ofNat_of_zero_le (a := len) (by omega)
      refine ⟨_, fun h => absurd hr h, hd6B_bytes cl lb len nx hp s d, fun w => ?_, fun _ w => ?_⟩
      · rw [hd6B_len r4 r5]; exact ip6_bytes_c cl lb len nx hp s d w q1 q4 q5 hls hld hr
      · rw [hd6B_len r4 r5]; exact rip6_bytes_c cl lb len nx hp s d w q1 q4 q5 hls hld hr
    · exact ⟨[], fun _ => rfl, Bytes.nil, fun w => Calls.mono (ip6_nobytes_c cl lb len nx hp s d w hr) fun e w' h => ⟨none, 0, 0, rfl, h.1, ⟨World.ownsRow_nil w' 0 _ 1, rfl, fun g hg => by cases hg⟩, h.2⟩, fun h => absurd h hr⟩
  obtain ⟨bb, hbb0, hbbb, hI, hR⟩ := hB
  have hP : ∃ (pp : List Nat) (er : Nat), (er = 0 ∨ er = 1) ∧ Bytes pp ∧
      (∀ w, View w w.heap.size L (x.map u8v) → Calls Try.prog 39 #[.agg (hd6V cl lb len nx hp s d).toArray, .slice L k c] w fun e w' => ∃ A n c', n = pp.length ∧ e = .returned (.tuple #[.slice A n c', .int .i64 (er : Int)]) ∧ New w w' (.row (.slice A n c') 5 1 n (pp.map u8v)) ∧ Kp [] w w') ∧
      (∀ w, View w w.heap.size L (x.map u8v) → Calls Try.prog 40 #[.agg (hd6V cl lb len nx hp s d).toArray, .slice L k c] w fun e w' => ∃ A n c', n = pp.length ∧ e = .returned (.tuple #[.slice A n c', .int .i64 (er : Int)]) ∧ New w w' (.row (.slice A n c') 5 1 n (pp.map u8v)) ∧ Kp [] w w') ∧
      (er = 0 → ∀ w A c', View w w.heap.size A (pp.map u8v) → pp.length ≤ c' → Calls Try.prog 41 #[.slice A pp.length c'] w fun e w' => ∃ L1, e = .returned (.tuple #[.agg (hd6V cl lb (k : Int) nx hp s d).toArray, .slice L1 k k, .int .i64 0]) ∧ NewV w w' L1 (x.map u8v) ∧ Kp [] w w') := by
    by_cases hr : hd6Right lb (k : Int) s d
    · have hr' := hr
      obtain ⟨r1, r2, r3, r4, r5⟩ := hr'
      obtain ⟨pp, hpp⟩ : ∃ pp, pp = hd6B cl lb k nx hp s d ++ x := ⟨_, rfl⟩
      have hppl : pp.length = 40 + k := by rw [hpp, List.length_append, hd6B_len r4 r5, hx]
      have hppb : Bytes pp := by rw [hpp]; exact (hd6B_bytes _ _ _ _ _ _ _).append hxb
      obtain ⟨g1, g2, g3, g4, g5, g6, g7⟩ := hd6_read q1 q4 q5 hls hld r1 (by omega) r4 r5 hpp
      refine ⟨pp, 0, .inl rfl, hppb, fun w h2 => ?_, fun w h2 => ?_, fun _ w A c' hv hc => ?_⟩
      · rw [hppl, hpp]; exact ip6_packet_c cl lb len nx hp s d L k c x w h2 hx q1 q4 q5 hls hld hr
      · rw [hppl, hpp]; exact rip6_packet_c cl lb len nx hp s d L k c x w h2 hx q1 q4 q5 hls hld hr
      · have h := ip6_parse_c pp.length A c' pp w hv rfl hc hppb (by omega) k ⟨by omega, by rw [g1]; unfold hd6F; omega, g2, by omega⟩
        rw [g1, g3, g4, g5, g6, g7, List.take_of_length_le (by omega), show hd6F cl lb / 2 ^ 20 % 256 = cl by unfold hd6F; omega, show hd6F cl lb % 1048576 = lb by unfold hd6F; omega] at h
        exact h
    · refine ⟨[], 1, .inr rfl, Bytes.nil, fun w h2 => ?_, fun w h2 => ?_, fun h => by cases h⟩
      · exact Calls.mono (ip6_packet_bad cl lb len nx hp s d L k c w (by omega) hr) fun e w' h => ⟨none, 0, 0, rfl, h.1, ⟨World.ownsRow_nil w' 0 _ 1, rfl, fun g hg => by cases hg⟩, h.2⟩
      · exact Calls.mono (rip6_packet_bad cl lb len nx hp s d L k c w (by omega) hr) fun e w' h => ⟨none, 0, 0, rfl, h.1, ⟨World.ownsRow_nil w' 0 _ 1, rfl, fun g hg => by cases hg⟩, h.2⟩
  obtain ⟨pp, er, her, hppb, hPI, hPR, hpar⟩ := hP
  refine ent (n := 99) Try.func6 rfl rfl ?_
  refine wp_seq_k ?_; intro K1 hK1
  refine wlit ?_
  refine wl_e rfl ?_; intro K hK
  refine ow_box hS (tmA rfl rfl) rfl ?_
  clear hS; intro g0_0 w hg0_0 hS
  refine hK _ _ ?_; clear hK K
  refine wl_v (x_assign ev_c) ?_
  refine wl_nil ?_
  refine then_n (hK1 _ _ ?_); clear hK1 K1
  refine wp_seq_k ?_; intro K2 hK2
  refine wp_seq_k ?_; intro K3 hK3
  refine wlit ?_
  refine wl_v (x_move (tmS rfl rfl)) ?_
  refine wl_v (x_len Try.underlying22 (tmS rfl rfl)) ?_
  refine wl_v (x_gtr (tmI rfl rfl) (ev_cN 3000)) ?_
  refine wl_nil ?_
  refine then_n (hK3 _ _ ?_); clear hK3 K3
  refine cnd (tm rfl) (fun hc0 => ?_) (fun hc0 => ?_)
  · exfalso
    simp only [nrm] at hc0
    omega
  try (exfalso; first | with_reducible exact absurd hc0 Bool.false_ne_true | with_reducible exact absurd hc0.symm Bool.false_ne_true | (simp only [nrm] at hc0; omega) | (simp at hc0; done))
  all_goals
   try simp only [nrm] at hc0
   refine wp_skip ?_
   refine then_n (hK2 _ _ ?_); clear hK2 K2
   refine wp_seq_k ?_; intro K4 hK4
   refine wlit ?_
   refine wl_v (x_loadA (cs := [_, _, _, _, _, _, _, _, _, _, _]) Try.underlying52 rfl ts_52 (tmP rfl rfl) (rangeB hS.ok 0 rfl rfl)) ?_
   refine wl_e rfl ?_; intro K hK
   refine ow_call Try.func34 rfl rfl (evs_cons (tmA rfl rfl) <| evs_nil) (to05_c cl lb len nx hp s d _) ?_
   rintro e w ⟨rfl, hk⟩
   refine ⟨_, rfl, ?_⟩
   replace hS := hS.kept hk
   clear hk
   refine hK _ _ ?_; clear hK K
   refine wl_e rfl ?_; intro K hK
   refine ow_alloc hS tz_53 rfl ?_
   clear hS; intro g3_2 w hg3_2 hS
   refine hK _ _ ?_; clear hK K
   refine wl_e rfl ?_; intro K hK
   refine ow_storeA hS 0 rfl ts_53 (tmP rfl rfl) (tmA rfl rfl) rfl rfl rfl ?_
   clear hS; intro w hS
   try replace hS := St.nm (M' := [.blk _ _ [_, _, _, _, _, _, _, _, _, _, _], .blk _ _ [_, _, _, _, _, _, _, _, _, _, _], .vw _ _]) hS rfl
   refine hK _ _ ?_; clear hK K
   refine wl_nil ?_
   refine then_n (hK4 _ _ ?_); clear hK4 K4
   refine wp_seq_k ?_; intro K5 hK5
   refine wp_seq_k ?_; intro K6 hK6
   refine cutc [19, 20, 21, 22, 23, 24, 25, 26, 27, 28, 29, 30, 31, 32, 33, 34, 35, 36, 37, 38, 39, 40, 41, 42, 43, 44, 45, 46, 47] (fun g w => g 47 = .bool false ∧ St [] w0 [.blk g3_2 53 (hd6V cl lb len nx hp s d), .blk g0_0 52 (hd6V cl lb len nx hp s d), .vw L (x.map u8v)] w) ?_ ?_
   · skip
     refine rg_startk 0 hS mixed_ ?_
     clear hS; intro w hS
     refine rg_take 0 rfl rfl (by kernel_rfl) (by kernel_rfl) (by kernel_rfl) (want_0) (fun w hok => x_loadA (cs := [_, _, _, _, _, _, _, _, _, _, _]) Try.underlying53 rfl ts_53 (tmP rfl rfl) (rangeB hok 0 rfl rfl)) ?_
     refine rg_take 2 rfl rfl (by kernel_rfl) (by kernel_rfl) (by kernel_rfl) (want_0) (fun w hok => x_loadA (cs := [_, _, _, _, _, _, _, _, _, _, _]) Try.underlying52 rfl ts_52 (tmP rfl rfl) (rangeB hok 1 rfl rfl)) ?_
     refine rg_step 1 rfl (by kernel_rfl) (want_0) (oks_drop hS 0 rfl) ?_; intro K hK
     refine ow_call Try.func35 rfl rfl (evs_cons (tmA rfl rfl) <| evs_nil) (ip6_right_c cl lb len nx hp s d _) ?_
     rintro e w ⟨rfl, hk⟩
     refine ⟨_, rfl, ?_⟩
     replace hS := hS.kept hk
     clear hk
     refine hK _ _ ?_; clear hK K
     refine rg_step 3 rfl (by kernel_rfl) (want_0) (oks_drop hS 0 rfl) ?_; intro K hK
     refine ow_call Try.func36 rfl rfl (evs_cons (tmA rfl rfl) <| evs_nil) (rip6_right_c cl lb len nx hp s d _) ?_
     rintro e w ⟨rfl, hk⟩
     refine ⟨_, rfl, ?_⟩
     replace hS := hS.kept hk
     clear hk
     refine hK _ _ ?_; clear hK K
     refine rg_take 4 rfl rfl (by kernel_rfl) (by kernel_rfl) (by kernel_rfl) (want_0) (fun w hok => x_bneq Try.underlying4 (tmB rfl rfl) (tmB rfl rfl)) ?_
     refine rg_take 5 rfl rfl (by kernel_rfl) (by kernel_rfl) (by kernel_rfl) (want_0) (fun w hok => x_move (tmB rfl rfl)) ?_
     refine gs_rg (tm (t := 24) rfl) (fun hg4_5 => ?_) (fun hg4_5 => ?_)
     · exfalso
       simp at hg4_5
     have hg4_5' := hg4_5; (try simp only [nrm] at hg4_5'); try (exfalso; first | with_reducible exact absurd hg4_5 Bool.false_ne_true | with_reducible exact absurd hg4_5.symm Bool.false_ne_true | omega | (simp at hg4_5; done))
     all_goals
      refine rg_take 6 rfl rfl (by kernel_rfl) (by kernel_rfl) (by kernel_rfl) (want_y rfl rfl rfl rfl (by rw [hg4_5]; rfl)) (fun w hok => x_loadA (cs := [_, _, _, _, _, _, _, _, _, _, _]) Try.underlying52 rfl ts_52 (tmP rfl rfl) (rangeB hok 1 rfl rfl)) ?_
      refine rg_step 7 rfl (by kernel_rfl) (want_y rfl rfl rfl rfl (by rw [hg4_5]; rfl)) (oks_drop hS 0 rfl) ?_; intro K hK
      refine ow_call Try.func36 rfl rfl (evs_cons (tmA rfl rfl) <| evs_nil) (rip6_right_c cl lb len nx hp s d _) ?_
      rintro e w ⟨rfl, hk⟩
      refine ⟨_, rfl, ?_⟩
      replace hS := hS.kept hk
      clear hk
      refine hK _ _ ?_; clear hK K
      refine rg_take 8 rfl rfl (by kernel_rfl) (by kernel_rfl) (by kernel_rfl) (want_y rfl rfl rfl rfl (by rw [hg4_5]; rfl)) (fun w hok => x_move (tmB rfl rfl)) ?_
      refine gs_rg (tm (t := 27) rfl) (fun hg4_8 => ?_) (fun hg4_8 => ?_)
      · have hg4_8' := hg4_8; (try simp only [nrm] at hg4_8'); try (exfalso; first | with_reducible exact absurd hg4_8 Bool.false_ne_true | with_reducible exact absurd hg4_8.symm Bool.false_ne_true | omega | (simp at hg4_8; done))
        all_goals
         refine rg_take 9 rfl rfl (by kernel_rfl) (by kernel_rfl) (by kernel_rfl) (want_y rfl rfl rfl rfl (by rw [hg4_8]; rfl)) (fun w hok => x_loadA (cs := [_, _, _, _, _, _, _, _, _, _, _]) Try.underlying53 rfl ts_53 (tmP rfl rfl) (rangeB hok 0 rfl rfl)) ?_
         refine rg_take 12 rfl rfl (by kernel_rfl) (by kernel_rfl) (by kernel_rfl) (want_y rfl rfl rfl rfl (by rw [hg4_8]; rfl)) (fun w hok => x_loadA (cs := [_, _, _, _, _, _, _, _, _, _, _]) Try.underlying52 rfl ts_52 (tmP rfl rfl) (rangeB hok 1 rfl rfl)) ?_
         refine rg_step 10 rfl (by kernel_rfl) (want_y rfl rfl rfl rfl (by rw [hg4_8]; rfl)) (oks_drop hS 0 rfl) ?_; intro K hK
         refine ow_call Try.func37 rfl rfl (evs_cons (tmA rfl rfl) <| evs_nil) (hI _) ?_
         rintro e w ⟨A1, n1, c1, hn1, rfl, hn, hk⟩
         refine ⟨_, rfl, ?_⟩
         replace hS := hS.add hk hn -- +rowa
         clear hn hk
         refine hK _ _ ?_; clear hK K
         refine rg_step2 11 13 rfl rfl (by kernel_rfl) (want_y rfl rfl rfl rfl (by rw [hg4_8]; rfl)) (want_y rfl rfl rfl rfl (by rw [hg4_8]; rfl)) (oks_drop hS 1 rfl) ?_ ?_
         · intro K hK
           first
            | refine ow_v (x_bstr Try.underlying22 Try.underlying5 Try.underlying9 (tmS rfl rfl) (viewR hS.ok 0 rfl) (by first | assumption | exact Bytes.nil | (repeat' (first | assumption | exact Bytes.nil | exact be_bytes _ _ | apply Bytes.append | apply Bytes.take | apply Bytes.drop | apply Bytes.replicate))) (by first | rfl | assumption | (simp; done) | (simp; omega) | omega)) ?_
            | refine ow_v (x_bstr Try.underlying22 Try.underlying5 Try.underlying9 (tmS rfl rfl) (viewV hS.ok 3 rfl) (by first | assumption | exact Bytes.nil | (repeat' (first | assumption | exact Bytes.nil | exact be_bytes _ _ | apply Bytes.append | apply Bytes.take | apply Bytes.drop | apply Bytes.replicate))) (by first | rfl | assumption | (simp; done) | (simp; omega) | omega)) ?_
            | refine ow_v (x_bstr (l := []) Try.underlying22 Try.underlying5 Try.underlying9 (tmS rfl rfl) View.nil_ (by first | assumption | exact Bytes.nil | (repeat' (first | assumption | exact Bytes.nil | exact be_bytes _ _ | apply Bytes.append | apply Bytes.take | apply Bytes.drop | apply Bytes.replicate))) (by first | rfl | assumption | (simp; done) | (simp; omega) | omega)) ?_
           refine hK _ _ ?_; clear hK K
           refine rg_step 13 rfl (by kernel_rfl) (want_y rfl rfl rfl rfl (by rw [hg4_8]; rfl)) (oks_drop hS 1 rfl) ?_; intro K hK
           refine ow_call Try.func38 rfl rfl (evs_cons (tmA rfl rfl) <| evs_nil) (hR (by simpa using hg4_8) _) ?_
           rintro e w ⟨A2, n2, c2, hn2, rfl, hn, hk⟩
           refine ⟨_, rfl, ?_⟩
           replace hS := hS.add hk hn -- +rowb
           clear hn hk
           refine hK _ _ ?_; clear hK K
           refine rg_step 14 rfl (by kernel_rfl) (want_y rfl rfl rfl rfl (by rw [hg4_8]; rfl)) (oks_drop hS 2 rfl) ?_; intro K hK
           first
            | refine ow_v (x_bstr Try.underlying22 Try.underlying5 Try.underlying9 (tmS rfl rfl) (viewR hS.ok 0 rfl) (by first | assumption | exact Bytes.nil | (repeat' (first | assumption | exact Bytes.nil | exact be_bytes _ _ | apply Bytes.append | apply Bytes.take | apply Bytes.drop | apply Bytes.replicate))) (by first | rfl | assumption | (simp; done) | (simp; omega) | omega)) ?_
            | refine ow_v (x_bstr Try.underlying22 Try.underlying5 Try.underlying9 (tmS rfl rfl) (viewR hS.ok 1 rfl) (by first | assumption | exact Bytes.nil | (repeat' (first | assumption | exact Bytes.nil | exact be_bytes _ _ | apply Bytes.append | apply Bytes.take | apply Bytes.drop | apply Bytes.replicate))) (by first | rfl | assumption | (simp; done) | (simp; omega) | omega)) ?_
            | refine ow_v (x_bstr Try.underlying22 Try.underlying5 Try.underlying9 (tmS rfl rfl) (viewV hS.ok 4 rfl) (by first | assumption | exact Bytes.nil | (repeat' (first | assumption | exact Bytes.nil | exact be_bytes _ _ | apply Bytes.append | apply Bytes.take | apply Bytes.drop | apply Bytes.replicate))) (by first | rfl | assumption | (simp; done) | (simp; omega) | omega)) ?_
            | refine ow_v (x_bstr (l := []) Try.underlying22 Try.underlying5 Try.underlying9 (tmS rfl rfl) View.nil_ (by first | assumption | exact Bytes.nil | (repeat' (first | assumption | exact Bytes.nil | exact be_bytes _ _ | apply Bytes.append | apply Bytes.take | apply Bytes.drop | apply Bytes.replicate))) (by first | rfl | assumption | (simp; done) | (simp; omega) | omega)) ?_
           refine hK _ _ ?_; clear hK K
           refine rg_take 15 rfl rfl (by kernel_rfl) (by kernel_rfl) (by kernel_rfl) (want_y rfl rfl rfl rfl (by rw [hg4_8]; rfl)) (fun w hok => x_Gneq (tmG rfl rfl) (tmG rfl rfl) (by first | assumption | exact Bytes.nil | (repeat' (first | assumption | exact Bytes.nil | exact be_bytes _ _ | apply Bytes.append | apply Bytes.take | apply Bytes.drop | apply Bytes.replicate))) (by first | assumption | exact Bytes.nil | (repeat' (first | assumption | exact Bytes.nil | exact be_bytes _ _ | apply Bytes.append | apply Bytes.take | apply Bytes.drop | apply Bytes.replicate)))) ?_
           refine rg_take 16 rfl rfl (by kernel_rfl) (by kernel_rfl) (by kernel_rfl) (want_y rfl rfl rfl rfl (by rw [hg4_5]; rfl)) (fun w hok => x_pickT (tmB rfl rfl) hg4_8 (tmB rfl rfl)) ?_
           refine rg_take 17 rfl rfl (by kernel_rfl) (by kernel_rfl) (by kernel_rfl) (want_0) (fun w hok => x_pickF (tmB rfl rfl) hg4_5 (tmB rfl rfl)) ?_
           refine rg_take 18 rfl rfl (by kernel_rfl) (by kernel_rfl) (by kernel_rfl) (want_0) (fun w hok => x_move (tmB rfl rfl)) ?_
           refine gs_rg (tm (t := 37) rfl) (fun hg4_18 => ?_) (fun hg4_18 => ?_)
           · exfalso
             simp at hg4_18
           have hg4_18' := hg4_18; (try simp only [nrm] at hg4_18'); try (exfalso; first | with_reducible exact absurd hg4_18 Bool.false_ne_true | with_reducible exact absurd hg4_18.symm Bool.false_ne_true | omega | (simp at hg4_18; done))
           all_goals
            refine rg_take 19 rfl rfl (by kernel_rfl) (by kernel_rfl) (by kernel_rfl) (want_y rfl rfl rfl rfl (by rw [hg4_18]; rfl)) (fun w hok => x_loadA (cs := [_, _, _, _, _, _, _, _, _, _, _]) Try.underlying52 rfl ts_52 (tmP rfl rfl) (rangeB hok 1 rfl rfl)) ?_
            refine rg_step 20 rfl (by kernel_rfl) (want_y rfl rfl rfl rfl (by rw [hg4_18]; rfl)) (oks_drop hS 2 rfl) ?_; intro K hK
            refine ow_call Try.func36 rfl rfl (evs_cons (tmA rfl rfl) <| evs_nil) (rip6_right_c cl lb len nx hp s d _) ?_
            rintro e w ⟨rfl, hk⟩
            refine ⟨_, rfl, ?_⟩
            replace hS := hS.kept hk
            clear hk
            refine hK _ _ ?_; clear hK K
            refine rg_take 21 rfl rfl (by kernel_rfl) (by kernel_rfl) (by kernel_rfl) (want_y rfl rfl rfl rfl (by rw [hg4_18]; rfl)) (fun w hok => x_not (tmB rfl rfl)) ?_
            refine rg_take 22 rfl rfl (by kernel_rfl) (by kernel_rfl) (by kernel_rfl) (want_y rfl rfl rfl rfl (by rw [hg4_18]; rfl)) (fun w hok => x_move (tmB rfl rfl)) ?_
            refine gs_rg (tm (t := 41) rfl) (fun hg4_22 => ?_) (fun hg4_22 => ?_)
            · have hg4_22' := hg4_22; (try simp only [nrm] at hg4_22'); try (exfalso; first | with_reducible exact absurd hg4_22 Bool.false_ne_true | with_reducible exact absurd hg4_22.symm Bool.false_ne_true | omega | (simp at hg4_22; done))
              all_goals
               have hbb : bb = [] := hbb0 (by simpa using hg4_22)
               refine rg_take 23 rfl rfl (by kernel_rfl) (by kernel_rfl) (by kernel_rfl) (want_y rfl rfl rfl rfl (by rw [hg4_22]; rfl)) (fun w hok => x_loadA (cs := [_, _, _, _, _, _, _, _, _, _, _]) Try.underlying53 rfl ts_53 (tmP rfl rfl) (rangeB hok 0 rfl rfl)) ?_
               refine rg_step 24 rfl (by kernel_rfl) (want_y rfl rfl rfl rfl (by rw [hg4_22]; rfl)) (oks_drop hS 2 rfl) ?_; intro K hK
               refine ow_call Try.func37 rfl rfl (evs_cons (tmA rfl rfl) <| evs_nil) (hI _) ?_
               rintro e w ⟨A1, n1, c1, hn1, rfl, hn, hk⟩
               refine ⟨_, rfl, ?_⟩
               replace hS := hS.add hk hn -- +rowa
               clear hn hk
               refine hK _ _ ?_; clear hK K
               refine rg_take 25 rfl rfl (by kernel_rfl) (by kernel_rfl) (by kernel_rfl) (want_y rfl rfl rfl rfl (by rw [hg4_22]; rfl)) (fun w hok => x_len Try.underlying22 (tmS rfl rfl)) ?_
               refine rg_take 26 rfl rfl (by kernel_rfl) (by kernel_rfl) (by kernel_rfl) (want_y rfl rfl rfl rfl (by rw [hg4_22]; rfl)) (fun w hok => x_neq (tmI rfl rfl) (ev_cN 0)) ?_
               refine rg_take 27 rfl rfl (by kernel_rfl) (by kernel_rfl) (by kernel_rfl) (want_y rfl rfl rfl rfl (by rw [hg4_18]; rfl)) (fun w hok => x_pickT (tmB rfl rfl) hg4_22 (tmB rfl rfl)) ?_
               refine rg_take 28 rfl rfl (by kernel_rfl) (by kernel_rfl) (by kernel_rfl) (want_0) (fun w hok => x_pickF (tmB rfl rfl) hg4_18 (tmB rfl rfl)) ?_
               refine rg_done (oks_drop hS 3 rfl) (by kernel_rfl) ?_
               exact then_n ⟨_, rfl, (by repeat (first | exact agree_self | exact agree_refl | refine agree_upd rfl ?_ | refine agree_mix rfl ?_)), (by first | rfl | (exact congrArg Value.bool (by simp [*]); done) | (exact congrArg Value.bool (by simp [*]); rfl) | (exact congrArg Value.bool (by simp [*]); go_num)), (hS.pick [3, 4, 5] rfl rfl)⟩
            have hg4_22' := hg4_22; (try simp only [nrm] at hg4_22'); try (exfalso; first | with_reducible exact absurd hg4_22 Bool.false_ne_true | with_reducible exact absurd hg4_22.symm Bool.false_ne_true | omega | (simp at hg4_22; done))
            all_goals
             refine rg_skip 23 rfl rfl (by kernel_rfl) (by kernel_rfl) (by kernel_rfl) (want_n rfl rfl rfl rfl (by rw [hg4_22]; rfl)) ?_
             refine rg_skip 24 rfl rfl (by kernel_rfl) (by kernel_rfl) (by kernel_rfl) (want_n rfl rfl rfl rfl (by rw [hg4_22]; rfl)) ?_
             refine rg_skip 25 rfl rfl (by kernel_rfl) (by kernel_rfl) (by kernel_rfl) (want_n rfl rfl rfl rfl (by rw [hg4_22]; rfl)) ?_
             refine rg_skip 26 rfl rfl (by kernel_rfl) (by kernel_rfl) (by kernel_rfl) (want_n rfl rfl rfl rfl (by rw [hg4_22]; rfl)) ?_
             refine rg_take 27 rfl rfl (by kernel_rfl) (by kernel_rfl) (by kernel_rfl) (want_y rfl rfl rfl rfl (by rw [hg4_18]; rfl)) (fun w hok => x_pickF (tmB rfl rfl) hg4_22 ev_c) ?_
             refine rg_take 28 rfl rfl (by kernel_rfl) (by kernel_rfl) (by kernel_rfl) (want_0) (fun w hok => x_pickF (tmB rfl rfl) hg4_18 (tmB rfl rfl)) ?_
             refine rg_done (oks_drop hS 2 rfl) (by kernel_rfl) ?_
             exact then_n ⟨_, rfl, (by repeat (first | exact agree_self | exact agree_refl | refine agree_upd rfl ?_ | refine agree_mix rfl ?_)), (by first | rfl | (exact congrArg Value.bool (by simp [*]); done) | (exact congrArg Value.bool (by simp [*]); rfl) | (exact congrArg Value.bool (by simp [*]); go_num)), (hS.pick [2, 3, 4] rfl rfl)⟩
         · intro K hK
           refine ow_call Try.func38 rfl rfl (evs_cons (tmA rfl rfl) <| evs_nil) (hR (by simpa using hg4_8) _) ?_
           rintro e w ⟨A2, n2, c2, hn2, rfl, hn, hk⟩
           refine ⟨_, rfl, ?_⟩
           replace hS := hS.add hk hn -- +rowb
           clear hn hk
           refine hK _ _ ?_; clear hK K
           refine rg_step2 11 14 rfl rfl (by kernel_rfl) (want_y rfl rfl rfl rfl (by rw [hg4_8]; rfl)) (want_y rfl rfl rfl rfl (by rw [hg4_8]; rfl)) (oks_drop hS 2 rfl) ?_ ?_
           · intro K hK
             first
              | refine ow_v (x_bstr Try.underlying22 Try.underlying5 Try.underlying9 (tmS rfl rfl) (viewR hS.ok 0 rfl) (by first | assumption | exact Bytes.nil | (repeat' (first | assumption | exact Bytes.nil | exact be_bytes _ _ | apply Bytes.append | apply Bytes.take | apply Bytes.drop | apply Bytes.replicate))) (by first | rfl | assumption | (simp; done) | (simp; omega) | omega)) ?_
              | refine ow_v (x_bstr Try.underlying22 Try.underlying5 Try.underlying9 (tmS rfl rfl) (viewR hS.ok 1 rfl) (by first | assumption | exact Bytes.nil | (repeat' (first | assumption | exact Bytes.nil | exact be_bytes _ _ | apply Bytes.append | apply Bytes.take | apply Bytes.drop | apply Bytes.replicate))) (by first | rfl | assumption | (simp; done) | (simp; omega) | omega)) ?_
              | refine ow_v (x_bstr Try.underlying22 Try.underlying5 Try.underlying9 (tmS rfl rfl) (viewV hS.ok 4 rfl) (by first | assumption | exact Bytes.nil | (repeat' (first | assumption | exact Bytes.nil | exact be_bytes _ _ | apply Bytes.append | apply Bytes.take | apply Bytes.drop | apply Bytes.replicate))) (by first | rfl | assumption | (simp; done) | (simp; omega) | omega)) ?_
              | refine ow_v (x_bstr (l := []) Try.underlying22 Try.underlying5 Try.underlying9 (tmS rfl rfl) View.nil_ (by first | assumption | exact Bytes.nil | (repeat' (first | assumption | exact Bytes.nil | exact be_bytes _ _ | apply Bytes.append | apply Bytes.take | apply Bytes.drop | apply Bytes.replicate))) (by first | rfl | assumption | (simp; done) | (simp; omega) | omega)) ?_
             refine hK _ _ ?_; clear hK K
             refine rg_step 14 rfl (by kernel_rfl) (want_y rfl rfl rfl rfl (by rw [hg4_8]; rfl)) (oks_drop hS 2 rfl) ?_; intro K hK
             first
              | refine ow_v (x_bstr Try.underlying22 Try.underlying5 Try.underlying9 (tmS rfl rfl) (viewR hS.ok 0 rfl) (by first | assumption | exact Bytes.nil | (repeat' (first | assumption | exact Bytes.nil | exact be_bytes _ _ | apply Bytes.append | apply Bytes.take | apply Bytes.drop | apply Bytes.replicate))) (by first | rfl | assumption | (simp; done) | (simp; omega) | omega)) ?_
              | refine ow_v (x_bstr Try.underlying22 Try.underlying5 Try.underlying9 (tmS rfl rfl) (viewR hS.ok 1 rfl) (by first | assumption | exact Bytes.nil | (repeat' (first | assumption | exact Bytes.nil | exact be_bytes _ _ | apply Bytes.append | apply Bytes.take | apply Bytes.drop | apply Bytes.replicate))) (by first | rfl | assumption | (simp; done) | (simp; omega) | omega)) ?_
              | refine ow_v (x_bstr Try.underlying22 Try.underlying5 Try.underlying9 (tmS rfl rfl) (viewV hS.ok 4 rfl) (by first | assumption | exact Bytes.nil | (repeat' (first | assumption | exact Bytes.nil | exact be_bytes _ _ | apply Bytes.append | apply Bytes.take | apply Bytes.drop | apply Bytes.replicate))) (by first | rfl | assumption | (simp; done) | (simp; omega) | omega)) ?_
              | refine ow_v (x_bstr (l := []) Try.underlying22 Try.underlying5 Try.underlying9 (tmS rfl rfl) View.nil_ (by first | assumption | exact Bytes.nil | (repeat' (first | assumption | exact Bytes.nil | exact be_bytes _ _ | apply Bytes.append | apply Bytes.take | apply Bytes.drop | apply Bytes.replicate))) (by first | rfl | assumption | (simp; done) | (simp; omega) | omega)) ?_
             refine hK _ _ ?_; clear hK K
             refine rg_take 15 rfl rfl (by kernel_rfl) (by kernel_rfl) (by kernel_rfl) (want_y rfl rfl rfl rfl (by rw [hg4_8]; rfl)) (fun w hok => x_Gneq (tmG rfl rfl) (tmG rfl rfl) (by first | assumption | exact Bytes.nil | (repeat' (first | assumption | exact Bytes.nil | exact be_bytes _ _ | apply Bytes.append | apply Bytes.take | apply Bytes.drop | apply Bytes.replicate))) (by first | assumption | exact Bytes.nil | (repeat' (first | assumption | exact Bytes.nil | exact be_bytes _ _ | apply Bytes.append | apply Bytes.take | apply Bytes.drop | apply Bytes.replicate)))) ?_
             refine rg_take 16 rfl rfl (by kernel_rfl) (by kernel_rfl) (by kernel_rfl) (want_y rfl rfl rfl rfl (by rw [hg4_5]; rfl)) (fun w hok => x_pickT (tmB rfl rfl) hg4_8 (tmB rfl rfl)) ?_
             refine rg_take 17 rfl rfl (by kernel_rfl) (by kernel_rfl) (by kernel_rfl) (want_0) (fun w hok => x_pickF (tmB rfl rfl) hg4_5 (tmB rfl rfl)) ?_
             refine rg_take 18 rfl rfl (by kernel_rfl) (by kernel_rfl) (by kernel_rfl) (want_0) (fun w hok => x_move (tmB rfl rfl)) ?_
             refine gs_rg (tm (t := 37) rfl) (fun hg4_18 => ?_) (fun hg4_18 => ?_)
             · exfalso
               simp at hg4_18
             have hg4_18' := hg4_18; (try simp only [nrm] at hg4_18'); try (exfalso; first | with_reducible exact absurd hg4_18 Bool.false_ne_true | with_reducible exact absurd hg4_18.symm Bool.false_ne_true | omega | (simp at hg4_18; done))
             all_goals
              refine rg_take 19 rfl rfl (by kernel_rfl) (by kernel_rfl) (by kernel_rfl) (want_y rfl rfl rfl rfl (by rw [hg4_18]; rfl)) (fun w hok => x_loadA (cs := [_, _, _, _, _, _, _, _, _, _, _]) Try.underlying52 rfl ts_52 (tmP rfl rfl) (rangeB hok 1 rfl rfl)) ?_
              refine rg_step 20 rfl (by kernel_rfl) (want_y rfl rfl rfl rfl (by rw [hg4_18]; rfl)) (oks_drop hS 2 rfl) ?_; intro K hK
              refine ow_call Try.func36 rfl rfl (evs_cons (tmA rfl rfl) <| evs_nil) (rip6_right_c cl lb len nx hp s d _) ?_
              rintro e w ⟨rfl, hk⟩
              refine ⟨_, rfl, ?_⟩
              replace hS := hS.kept hk
              clear hk
              refine hK _ _ ?_; clear hK K
              refine rg_take 21 rfl rfl (by kernel_rfl) (by kernel_rfl) (by kernel_rfl) (want_y rfl rfl rfl rfl (by rw [hg4_18]; rfl)) (fun w hok => x_not (tmB rfl rfl)) ?_
              refine rg_take 22 rfl rfl (by kernel_rfl) (by kernel_rfl) (by kernel_rfl) (want_y rfl rfl rfl rfl (by rw [hg4_18]; rfl)) (fun w hok => x_move (tmB rfl rfl)) ?_
              refine gs_rg (tm (t := 41) rfl) (fun hg4_22 => ?_) (fun hg4_22 => ?_)
              · have hg4_22' := hg4_22; (try simp only [nrm] at hg4_22'); try (exfalso; first | with_reducible exact absurd hg4_22 Bool.false_ne_true | with_reducible exact absurd hg4_22.symm Bool.false_ne_true | omega | (simp at hg4_22; done))
                all_goals
                 have hbb : bb = [] := hbb0 (by simpa using hg4_22)
                 refine rg_take 23 rfl rfl (by kernel_rfl) (by kernel_rfl) (by kernel_rfl) (want_y rfl rfl rfl rfl (by rw [hg4_22]; rfl)) (fun w hok => x_loadA (cs := [_, _, _, _, _, _, _, _, _, _, _]) Try.underlying53 rfl ts_53 (tmP rfl rfl) (rangeB hok 0 rfl rfl)) ?_
                 refine rg_step 24 rfl (by kernel_rfl) (want_y rfl rfl rfl rfl (by rw [hg4_22]; rfl)) (oks_drop hS 2 rfl) ?_; intro K hK
                 refine ow_call Try.func37 rfl rfl (evs_cons (tmA rfl rfl) <| evs_nil) (hI _) ?_
                 rintro e w ⟨A1, n1, c1, hn1, rfl, hn, hk⟩
                 refine ⟨_, rfl, ?_⟩
                 replace hS := hS.add hk hn -- +rowa
                 clear hn hk
                 refine hK _ _ ?_; clear hK K
                 refine rg_take 25 rfl rfl (by kernel_rfl) (by kernel_rfl) (by kernel_rfl) (want_y rfl rfl rfl rfl (by rw [hg4_22]; rfl)) (fun w hok => x_len Try.underlying22 (tmS rfl rfl)) ?_
                 refine rg_take 26 rfl rfl (by kernel_rfl) (by kernel_rfl) (by kernel_rfl) (want_y rfl rfl rfl rfl (by rw [hg4_22]; rfl)) (fun w hok => x_neq (tmI rfl rfl) (ev_cN 0)) ?_
                 refine rg_take 27 rfl rfl (by kernel_rfl) (by kernel_rfl) (by kernel_rfl) (want_y rfl rfl rfl rfl (by rw [hg4_18]; rfl)) (fun w hok => x_pickT (tmB rfl rfl) hg4_22 (tmB rfl rfl)) ?_
                 refine rg_take 28 rfl rfl (by kernel_rfl) (by kernel_rfl) (by kernel_rfl) (want_0) (fun w hok => x_pickF (tmB rfl rfl) hg4_18 (tmB rfl rfl)) ?_
                 refine rg_done (oks_drop hS 3 rfl) (by kernel_rfl) ?_
                 exact then_n ⟨_, rfl, (by repeat (first | exact agree_self | exact agree_refl | refine agree_upd rfl ?_ | refine agree_mix rfl ?_)), (by first | rfl | (exact congrArg Value.bool (by simp [*]); done) | (exact congrArg Value.bool (by simp [*]); rfl) | (exact congrArg Value.bool (by simp [*]); go_num)), (hS.pick [3, 4, 5] rfl rfl)⟩
              have hg4_22' := hg4_22; (try simp only [nrm] at hg4_22'); try (exfalso; first | with_reducible exact absurd hg4_22 Bool.false_ne_true | with_reducible exact absurd hg4_22.symm Bool.false_ne_true | omega | (simp at hg4_22; done))
              all_goals
               refine rg_skip 23 rfl rfl (by kernel_rfl) (by kernel_rfl) (by kernel_rfl) (want_n rfl rfl rfl rfl (by rw [hg4_22]; rfl)) ?_
               refine rg_skip 24 rfl rfl (by kernel_rfl) (by kernel_rfl) (by kernel_rfl) (want_n rfl rfl rfl rfl (by rw [hg4_22]; rfl)) ?_
               refine rg_skip 25 rfl rfl (by kernel_rfl) (by kernel_rfl) (by kernel_rfl) (want_n rfl rfl rfl rfl (by rw [hg4_22]; rfl)) ?_
               refine rg_skip 26 rfl rfl (by kernel_rfl) (by kernel_rfl) (by kernel_rfl) (want_n rfl rfl rfl rfl (by rw [hg4_22]; rfl)) ?_
               refine rg_take 27 rfl rfl (by kernel_rfl) (by kernel_rfl) (by kernel_rfl) (want_y rfl rfl rfl rfl (by rw [hg4_18]; rfl)) (fun w hok => x_pickF (tmB rfl rfl) hg4_22 ev_c) ?_
               refine rg_take 28 rfl rfl (by kernel_rfl) (by kernel_rfl) (by kernel_rfl) (want_0) (fun w hok => x_pickF (tmB rfl rfl) hg4_18 (tmB rfl rfl)) ?_
               refine rg_done (oks_drop hS 2 rfl) (by kernel_rfl) ?_
               exact then_n ⟨_, rfl, (by repeat (first | exact agree_self | exact agree_refl | refine agree_upd rfl ?_ | refine agree_mix rfl ?_)), (by first | rfl | (exact congrArg Value.bool (by simp [*]); done) | (exact congrArg Value.bool (by simp [*]); rfl) | (exact congrArg Value.bool (by simp [*]); go_num)), (hS.pick [2, 3, 4] rfl rfl)⟩
           · intro K hK
             first
              | refine ow_v (x_bstr Try.underlying22 Try.underlying5 Try.underlying9 (tmS rfl rfl) (viewR hS.ok 0 rfl) (by first | assumption | exact Bytes.nil | (repeat' (first | assumption | exact Bytes.nil | exact be_bytes _ _ | apply Bytes.append | apply Bytes.take | apply Bytes.drop | apply Bytes.replicate))) (by first | rfl | assumption | (simp; done) | (simp; omega) | omega)) ?_
              | refine ow_v (x_bstr Try.underlying22 Try.underlying5 Try.underlying9 (tmS rfl rfl) (viewR hS.ok 1 rfl) (by first | assumption | exact Bytes.nil | (repeat' (first | assumption | exact Bytes.nil | exact be_bytes _ _ | apply Bytes.append | apply Bytes.take | apply Bytes.drop | apply Bytes.replicate))) (by first | rfl | assumption | (simp; done) | (simp; omega) | omega)) ?_
              | refine ow_v (x_bstr Try.underlying22 Try.underlying5 Try.underlying9 (tmS rfl rfl) (viewV hS.ok 4 rfl) (by first | assumption | exact Bytes.nil | (repeat' (first | assumption | exact Bytes.nil | exact be_bytes _ _ | apply Bytes.append | apply Bytes.take | apply Bytes.drop | apply Bytes.replicate))) (by first | rfl | assumption | (simp; done) | (simp; omega) | omega)) ?_
              | refine ow_v (x_bstr (l := []) Try.underlying22 Try.underlying5 Try.underlying9 (tmS rfl rfl) View.nil_ (by first | assumption | exact Bytes.nil | (repeat' (first | assumption | exact Bytes.nil | exact be_bytes _ _ | apply Bytes.append | apply Bytes.take | apply Bytes.drop | apply Bytes.replicate))) (by first | rfl | assumption | (simp; done) | (simp; omega) | omega)) ?_
             refine hK _ _ ?_; clear hK K
             refine rg_step 11 rfl (by kernel_rfl) (want_y rfl rfl rfl rfl (by rw [hg4_8]; rfl)) (oks_drop hS 2 rfl) ?_; intro K hK
             first
              | refine ow_v (x_bstr Try.underlying22 Try.underlying5 Try.underlying9 (tmS rfl rfl) (viewR hS.ok 0 rfl) (by first | assumption | exact Bytes.nil | (repeat' (first | assumption | exact Bytes.nil | exact be_bytes _ _ | apply Bytes.append | apply Bytes.take | apply Bytes.drop | apply Bytes.replicate))) (by first | rfl | assumption | (simp; done) | (simp; omega) | omega)) ?_
              | refine ow_v (x_bstr Try.underlying22 Try.underlying5 Try.underlying9 (tmS rfl rfl) (viewR hS.ok 1 rfl) (by first | assumption | exact Bytes.nil | (repeat' (first | assumption | exact Bytes.nil | exact be_bytes _ _ | apply Bytes.append | apply Bytes.take | apply Bytes.drop | apply Bytes.replicate))) (by first | rfl | assumption | (simp; done) | (simp; omega) | omega)) ?_
              | refine ow_v (x_bstr Try.underlying22 Try.underlying5 Try.underlying9 (tmS rfl rfl) (viewV hS.ok 4 rfl) (by first | assumption | exact Bytes.nil | (repeat' (first | assumption | exact Bytes.nil | exact be_bytes _ _ | apply Bytes.append | apply Bytes.take | apply Bytes.drop | apply Bytes.replicate))) (by first | rfl | assumption | (simp; done) | (simp; omega) | omega)) ?_
              | refine ow_v (x_bstr (l := []) Try.underlying22 Try.underlying5 Try.underlying9 (tmS rfl rfl) View.nil_ (by first | assumption | exact Bytes.nil | (repeat' (first | assumption | exact Bytes.nil | exact be_bytes _ _ | apply Bytes.append | apply Bytes.take | apply Bytes.drop | apply Bytes.replicate))) (by first | rfl | assumption | (simp; done) | (simp; omega) | omega)) ?_
             refine hK _ _ ?_; clear hK K
             refine rg_take 15 rfl rfl (by kernel_rfl) (by kernel_rfl) (by kernel_rfl) (want_y rfl rfl rfl rfl (by rw [hg4_8]; rfl)) (fun w hok => x_Gneq (tmG rfl rfl) (tmG rfl rfl) (by first | assumption | exact Bytes.nil | (repeat' (first | assumption | exact Bytes.nil | exact be_bytes _ _ | apply Bytes.append | apply Bytes.take | apply Bytes.drop | apply Bytes.replicate))) (by first | assumption | exact Bytes.nil | (repeat' (first | assumption | exact Bytes.nil | exact be_bytes _ _ | apply Bytes.append | apply Bytes.take | apply Bytes.drop | apply Bytes.replicate)))) ?_
             refine rg_take 16 rfl rfl (by kernel_rfl) (by kernel_rfl) (by kernel_rfl) (want_y rfl rfl rfl rfl (by rw [hg4_5]; rfl)) (fun w hok => x_pickT (tmB rfl rfl) hg4_8 (tmB rfl rfl)) ?_
             refine rg_take 17 rfl rfl (by kernel_rfl) (by kernel_rfl) (by kernel_rfl) (want_0) (fun w hok => x_pickF (tmB rfl rfl) hg4_5 (tmB rfl rfl)) ?_
             refine rg_take 18 rfl rfl (by kernel_rfl) (by kernel_rfl) (by kernel_rfl) (want_0) (fun w hok => x_move (tmB rfl rfl)) ?_
             refine gs_rg (tm (t := 37) rfl) (fun hg4_18 => ?_) (fun hg4_18 => ?_)
             · exfalso
               simp at hg4_18
             have hg4_18' := hg4_18; (try simp only [nrm] at hg4_18'); try (exfalso; first | with_reducible exact absurd hg4_18 Bool.false_ne_true | with_reducible exact absurd hg4_18.symm Bool.false_ne_true | omega | (simp at hg4_18; done))
             all_goals
              refine rg_take 19 rfl rfl (by kernel_rfl) (by kernel_rfl) (by kernel_rfl) (want_y rfl rfl rfl rfl (by rw [hg4_18]; rfl)) (fun w hok => x_loadA (cs := [_, _, _, _, _, _, _, _, _, _, _]) Try.underlying52 rfl ts_52 (tmP rfl rfl) (rangeB hok 1 rfl rfl)) ?_
              refine rg_step 20 rfl (by kernel_rfl) (want_y rfl rfl rfl rfl (by rw [hg4_18]; rfl)) (oks_drop hS 2 rfl) ?_; intro K hK
              refine ow_call Try.func36 rfl rfl (evs_cons (tmA rfl rfl) <| evs_nil) (rip6_right_c cl lb len nx hp s d _) ?_
              rintro e w ⟨rfl, hk⟩
              refine ⟨_, rfl, ?_⟩
              replace hS := hS.kept hk
              clear hk
              refine hK _ _ ?_; clear hK K
              refine rg_take 21 rfl rfl (by kernel_rfl) (by kernel_rfl) (by kernel_rfl) (want_y rfl rfl rfl rfl (by rw [hg4_18]; rfl)) (fun w hok => x_not (tmB rfl rfl)) ?_
              refine rg_take 22 rfl rfl (by kernel_rfl) (by kernel_rfl) (by kernel_rfl) (want_y rfl rfl rfl rfl (by rw [hg4_18]; rfl)) (fun w hok => x_move (tmB rfl rfl)) ?_
              refine gs_rg (tm (t := 41) rfl) (fun hg4_22 => ?_) (fun hg4_22 => ?_)
              · have hg4_22' := hg4_22; (try simp only [nrm] at hg4_22'); try (exfalso; first | with_reducible exact absurd hg4_22 Bool.false_ne_true | with_reducible exact absurd hg4_22.symm Bool.false_ne_true | omega | (simp at hg4_22; done))
                all_goals
                 have hbb : bb = [] := hbb0 (by simpa using hg4_22)
                 refine rg_take 23 rfl rfl (by kernel_rfl) (by kernel_rfl) (by kernel_rfl) (want_y rfl rfl rfl rfl (by rw [hg4_22]; rfl)) (fun w hok => x_loadA (cs := [_, _, _, _, _, _, _, _, _, _, _]) Try.underlying53 rfl ts_53 (tmP rfl rfl) (rangeB hok 0 rfl rfl)) ?_
                 refine rg_step 24 rfl (by kernel_rfl) (want_y rfl rfl rfl rfl (by rw [hg4_22]; rfl)) (oks_drop hS 2 rfl) ?_; intro K hK
                 refine ow_call Try.func37 rfl rfl (evs_cons (tmA rfl rfl) <| evs_nil) (hI _) ?_
                 rintro e w ⟨A1, n1, c1, hn1, rfl, hn, hk⟩
                 refine ⟨_, rfl, ?_⟩
                 replace hS := hS.add hk hn -- +rowa
                 clear hn hk
                 refine hK _ _ ?_; clear hK K
                 refine rg_take 25 rfl rfl (by kernel_rfl) (by kernel_rfl) (by kernel_rfl) (want_y rfl rfl rfl rfl (by rw [hg4_22]; rfl)) (fun w hok => x_len Try.underlying22 (tmS rfl rfl)) ?_
                 refine rg_take 26 rfl rfl (by kernel_rfl) (by kernel_rfl) (by kernel_rfl) (want_y rfl rfl rfl rfl (by rw [hg4_22]; rfl)) (fun w hok => x_neq (tmI rfl rfl) (ev_cN 0)) ?_
                 refine rg_take 27 rfl rfl (by kernel_rfl) (by kernel_rfl) (by kernel_rfl) (want_y rfl rfl rfl rfl (by rw [hg4_18]; rfl)) (fun w hok => x_pickT (tmB rfl rfl) hg4_22 (tmB rfl rfl)) ?_
                 refine rg_take 28 rfl rfl (by kernel_rfl) (by kernel_rfl) (by kernel_rfl) (want_0) (fun w hok => x_pickF (tmB rfl rfl) hg4_18 (tmB rfl rfl)) ?_
                 refine rg_done (oks_drop hS 3 rfl) (by kernel_rfl) ?_
                 exact then_n ⟨_, rfl, (by repeat (first | exact agree_self | exact agree_refl | refine agree_upd rfl ?_ | refine agree_mix rfl ?_)), (by first | rfl | (exact congrArg Value.bool (by simp [*]); done) | (exact congrArg Value.bool (by simp [*]); rfl) | (exact congrArg Value.bool (by simp [*]); go_num)), (hS.pick [3, 4, 5] rfl rfl)⟩
              have hg4_22' := hg4_22; (try simp only [nrm] at hg4_22'); try (exfalso; first | with_reducible exact absurd hg4_22 Bool.false_ne_true | with_reducible exact absurd hg4_22.symm Bool.false_ne_true | omega | (simp at hg4_22; done))
              all_goals
               refine rg_skip 23 rfl rfl (by kernel_rfl) (by kernel_rfl) (by kernel_rfl) (want_n rfl rfl rfl rfl (by rw [hg4_22]; rfl)) ?_
               refine rg_skip 24 rfl rfl (by kernel_rfl) (by kernel_rfl) (by kernel_rfl) (want_n rfl rfl rfl rfl (by rw [hg4_22]; rfl)) ?_
               refine rg_skip 25 rfl rfl (by kernel_rfl) (by kernel_rfl) (by kernel_rfl) (want_n rfl rfl rfl rfl (by rw [hg4_22]; rfl)) ?_
               refine rg_skip 26 rfl rfl (by kernel_rfl) (by kernel_rfl) (by kernel_rfl) (want_n rfl rfl rfl rfl (by rw [hg4_22]; rfl)) ?_
               refine rg_take 27 rfl rfl (by kernel_rfl) (by kernel_rfl) (by kernel_rfl) (want_y rfl rfl rfl rfl (by rw [hg4_18]; rfl)) (fun w hok => x_pickF (tmB rfl rfl) hg4_22 ev_c) ?_
               refine rg_take 28 rfl rfl (by kernel_rfl) (by kernel_rfl) (by kernel_rfl) (want_0) (fun w hok => x_pickF (tmB rfl rfl) hg4_18 (tmB rfl rfl)) ?_
               refine rg_done (oks_drop hS 2 rfl) (by kernel_rfl) ?_
               exact then_n ⟨_, rfl, (by repeat (first | exact agree_self | exact agree_refl | refine agree_upd rfl ?_ | refine agree_mix rfl ?_)), (by first | rfl | (exact congrArg Value.bool (by simp [*]); done) | (exact congrArg Value.bool (by simp [*]); rfl) | (exact congrArg Value.bool (by simp [*]); go_num)), (hS.pick [2, 3, 4] rfl rfl)⟩
      have hg4_8' := hg4_8; (try simp only [nrm] at hg4_8'); try (exfalso; first | with_reducible exact absurd hg4_8 Bool.false_ne_true | with_reducible exact absurd hg4_8.symm Bool.false_ne_true | omega | (simp at hg4_8; done))
      all_goals
       refine rg_skip 9 rfl rfl (by kernel_rfl) (by kernel_rfl) (by kernel_rfl) (want_n rfl rfl rfl rfl (by rw [hg4_8]; rfl)) ?_
       refine rg_skip 10 rfl rfl (by kernel_rfl) (by kernel_rfl) (by kernel_rfl) (want_n rfl rfl rfl rfl (by rw [hg4_8]; rfl)) ?_
       refine rg_skip 11 rfl rfl (by kernel_rfl) (by kernel_rfl) (by kernel_rfl) (want_n rfl rfl rfl rfl (by rw [hg4_8]; rfl)) ?_
       refine rg_skip 12 rfl rfl (by kernel_rfl) (by kernel_rfl) (by kernel_rfl) (want_n rfl rfl rfl rfl (by rw [hg4_8]; rfl)) ?_
       refine rg_skip 13 rfl rfl (by kernel_rfl) (by kernel_rfl) (by kernel_rfl) (want_n rfl rfl rfl rfl (by rw [hg4_8]; rfl)) ?_
       refine rg_skip 14 rfl rfl (by kernel_rfl) (by kernel_rfl) (by kernel_rfl) (want_n rfl rfl rfl rfl (by rw [hg4_8]; rfl)) ?_
       refine rg_skip 15 rfl rfl (by kernel_rfl) (by kernel_rfl) (by kernel_rfl) (want_n rfl rfl rfl rfl (by rw [hg4_8]; rfl)) ?_
       refine rg_take 16 rfl rfl (by kernel_rfl) (by kernel_rfl) (by kernel_rfl) (want_y rfl rfl rfl rfl (by rw [hg4_5]; rfl)) (fun w hok => x_pickF (tmB rfl rfl) hg4_8 ev_c) ?_
       refine rg_take 17 rfl rfl (by kernel_rfl) (by kernel_rfl) (by kernel_rfl) (want_0) (fun w hok => x_pickF (tmB rfl rfl) hg4_5 (tmB rfl rfl)) ?_
       refine rg_take 18 rfl rfl (by kernel_rfl) (by kernel_rfl) (by kernel_rfl) (want_0) (fun w hok => x_move (tmB rfl rfl)) ?_
       refine rg_take 19 rfl rfl (by kernel_rfl) (by kernel_rfl) (by kernel_rfl) (want_y rfl rfl rfl rfl rfl) (fun w hok => x_loadA (cs := [_, _, _, _, _, _, _, _, _, _, _]) Try.underlying52 rfl ts_52 (tmP rfl rfl) (rangeB hok 1 rfl rfl)) ?_
       refine rg_step 20 rfl (by kernel_rfl) (want_y rfl rfl rfl rfl rfl) (oks_drop hS 0 rfl) ?_; intro K hK
       refine ow_call Try.func36 rfl rfl (evs_cons (tmA rfl rfl) <| evs_nil) (rip6_right_c cl lb len nx hp s d _) ?_
       rintro e w ⟨rfl, hk⟩
       refine ⟨_, rfl, ?_⟩
       replace hS := hS.kept hk
       clear hk
       refine hK _ _ ?_; clear hK K
       refine rg_take 21 rfl rfl (by kernel_rfl) (by kernel_rfl) (by kernel_rfl) (want_y rfl rfl rfl rfl rfl) (fun w hok => x_not (tmB rfl rfl)) ?_
       refine rg_take 22 rfl rfl (by kernel_rfl) (by kernel_rfl) (by kernel_rfl) (want_y rfl rfl rfl rfl rfl) (fun w hok => x_move (tmB rfl rfl)) ?_
       refine gs_rg (tm (t := 41) rfl) (fun hg4_22 => ?_) (fun hg4_22 => ?_)
       · have hg4_22' := hg4_22; (try simp only [nrm] at hg4_22'); try (exfalso; first | with_reducible exact absurd hg4_22 Bool.false_ne_true | with_reducible exact absurd hg4_22.symm Bool.false_ne_true | omega | (simp at hg4_22; done))
         all_goals
          have hbb : bb = [] := hbb0 (by simpa using hg4_22)
          refine rg_take 23 rfl rfl (by kernel_rfl) (by kernel_rfl) (by kernel_rfl) (want_y rfl rfl rfl rfl (by rw [hg4_22]; rfl)) (fun w hok => x_loadA (cs := [_, _, _, _, _, _, _, _, _, _, _]) Try.underlying53 rfl ts_53 (tmP rfl rfl) (rangeB hok 0 rfl rfl)) ?_
          refine rg_step 24 rfl (by kernel_rfl) (want_y rfl rfl rfl rfl (by rw [hg4_22]; rfl)) (oks_drop hS 0 rfl) ?_; intro K hK
          refine ow_call Try.func37 rfl rfl (evs_cons (tmA rfl rfl) <| evs_nil) (hI _) ?_
          rintro e w ⟨A1, n1, c1, hn1, rfl, hn, hk⟩
          refine ⟨_, rfl, ?_⟩
          replace hS := hS.add hk hn -- +rowa
          clear hn hk
          refine hK _ _ ?_; clear hK K
          refine rg_take 25 rfl rfl (by kernel_rfl) (by kernel_rfl) (by kernel_rfl) (want_y rfl rfl rfl rfl (by rw [hg4_22]; rfl)) (fun w hok => x_len Try.underlying22 (tmS rfl rfl)) ?_
          refine rg_take 26 rfl rfl (by kernel_rfl) (by kernel_rfl) (by kernel_rfl) (want_y rfl rfl rfl rfl (by rw [hg4_22]; rfl)) (fun w hok => x_neq (tmI rfl rfl) (ev_cN 0)) ?_
          refine rg_take 27 rfl rfl (by kernel_rfl) (by kernel_rfl) (by kernel_rfl) (want_y rfl rfl rfl rfl rfl) (fun w hok => x_pickT (tmB rfl rfl) hg4_22 (tmB rfl rfl)) ?_
          refine rg_take 28 rfl rfl (by kernel_rfl) (by kernel_rfl) (by kernel_rfl) (want_0) (fun w hok => x_pickF (tmB rfl rfl) rfl (tmB rfl rfl)) ?_
          refine rg_done (oks_drop hS 1 rfl) (by kernel_rfl) ?_
          exact then_n ⟨_, rfl, (by repeat (first | exact agree_self | exact agree_refl | refine agree_upd rfl ?_ | refine agree_mix rfl ?_)), (by first | rfl | (exact congrArg Value.bool (by simp [*]); done) | (exact congrArg Value.bool (by simp [*]); rfl) | (exact congrArg Value.bool (by simp [*]); go_num)), (hS.pick [1, 2, 3] rfl rfl)⟩
       have hg4_22' := hg4_22; (try simp only [nrm] at hg4_22'); try (exfalso; first | with_reducible exact absurd hg4_22 Bool.false_ne_true | with_reducible exact absurd hg4_22.symm Bool.false_ne_true | omega | (simp at hg4_22; done))
       all_goals
        refine rg_skip 23 rfl rfl (by kernel_rfl) (by kernel_rfl) (by kernel_rfl) (want_n rfl rfl rfl rfl (by rw [hg4_22]; rfl)) ?_
        refine rg_skip 24 rfl rfl (by kernel_rfl) (by kernel_rfl) (by kernel_rfl) (want_n rfl rfl rfl rfl (by rw [hg4_22]; rfl)) ?_
        refine rg_skip 25 rfl rfl (by kernel_rfl) (by kernel_rfl) (by kernel_rfl) (want_n rfl rfl rfl rfl (by rw [hg4_22]; rfl)) ?_
        refine rg_skip 26 rfl rfl (by kernel_rfl) (by kernel_rfl) (by kernel_rfl) (want_n rfl rfl rfl rfl (by rw [hg4_22]; rfl)) ?_
        refine rg_take 27 rfl rfl (by kernel_rfl) (by kernel_rfl) (by kernel_rfl) (want_y rfl rfl rfl rfl rfl) (fun w hok => x_pickF (tmB rfl rfl) hg4_22 ev_c) ?_
        refine rg_take 28 rfl rfl (by kernel_rfl) (by kernel_rfl) (by kernel_rfl) (want_0) (fun w hok => x_pickF (tmB rfl rfl) rfl (tmB rfl rfl)) ?_
        refine rg_done (oks_drop hS 0 rfl) (by kernel_rfl) ?_
        exact then_n ⟨_, rfl, (by repeat (first | exact agree_self | exact agree_refl | refine agree_upd rfl ?_ | refine agree_mix rfl ?_)), (by first | rfl | (exact congrArg Value.bool (by simp [*]); done) | (exact congrArg Value.bool (by simp [*]); rfl) | (exact congrArg Value.bool (by simp [*]); go_num)), (hS.pick [0, 1, 2] rfl rfl)⟩
   · clear hS; intro g w hI
     obtain ⟨hs47, hS⟩ := hI
     refine fr_knowQ (d := 47) hs47 ?_; clear hs47
     refine then_n (hK6 _ _ ?_); clear hK6 K6
     refine cnd (tm rfl) (fun hc1 => ?_) (fun hc1 => ?_)
     · exfalso
       exact absurd hc1 (by decide)
     try (exfalso; first | with_reducible exact absurd hc1 Bool.false_ne_true | with_reducible exact absurd hc1.symm Bool.false_ne_true | (simp only [nrm] at hc1; omega) | (simp at hc1; done))
     all_goals
      try simp only [nrm] at hc1
      refine wp_skip ?_
      refine then_n (hK5 _ _ ?_); clear hK5 K5
      refine wp_seq_k ?_; intro K8 hK8
      refine wlit ?_
      refine wl_v (x_loadA (cs := [_, _, _, _, _, _, _, _, _, _, _]) Try.underlying53 rfl ts_53 (tmP rfl rfl) (rangeB hS.ok 0 rfl rfl)) ?_
      refine wl_v (x_move (tmS rfl rfl)) ?_
      refine wl_e rfl ?_; intro K hK
      refine ow_call Try.func39 rfl rfl (evs_cons (tmA rfl rfl) <| evs_cons (tmS rfl rfl) <| evs_nil) (hPI _ (viewV hS.ok 2 rfl)) ?_
      rintro e w ⟨A3, n3, c3, hn3, rfl, hn, hk⟩
      refine ⟨_, rfl, ?_⟩
      replace hS := hS.add hk hn -- +rowp
      clear hn hk
      refine hK _ _ ?_; clear hK K
      refine wl_v (x_move (tmT rfl rfl)) ?_
      refine wl_v (x_ext (tmT rfl rfl) rfl) ?_
      refine wl_v (x_ext (tmT rfl rfl) rfl) ?_
      refine wl_v (x_assign (tmS rfl rfl)) ?_
      refine wl_v (x_assign (tmI rfl rfl)) ?_
      refine wl_nil ?_
      refine then_n (hK8 _ _ ?_); clear hK8 K8
      refine wp_seq_k ?_; intro K9 hK9
      refine wlit ?_
      refine wl_v (x_loadA (cs := [_, _, _, _, _, _, _, _, _, _, _]) Try.underlying52 rfl ts_52 (tmP rfl rfl) (rangeB hS.ok 2 rfl rfl)) ?_
      refine wl_v (x_move (tmS rfl rfl)) ?_
      refine wl_e rfl ?_; intro K hK
      refine ow_call Try.func40 rfl rfl (evs_cons (tmA rfl rfl) <| evs_cons (tmS rfl rfl) <| evs_nil) (hPR _ (viewV hS.ok 3 rfl)) ?_
      rintro e w ⟨A4, n4, c4, hn4, rfl, hn, hk⟩
      refine ⟨_, rfl, ?_⟩
      replace hS := hS.add hk hn -- +rowq
      clear hn hk
      refine hK _ _ ?_; clear hK K
      refine wl_v (x_move (tmT rfl rfl)) ?_
      refine wl_v (x_ext (tmT rfl rfl) rfl) ?_
      refine wl_v (x_ext (tmT rfl rfl) rfl) ?_
      refine wl_v (x_assign (tmS rfl rfl)) ?_
      refine wl_v (x_assign (tmI rfl rfl)) ?_
      refine wl_nil ?_
      refine then_n (hK9 _ _ ?_); clear hK9 K9
      refine wp_seq_k ?_; intro K10 hK10
      refine wp_seq_k ?_; intro K11 hK11
      refine wlit ?_
      refine wl_v (x_move (tmS rfl rfl)) ?_
      first
       | refine wl_v (x_bstr Try.underlying22 Try.underlying5 Try.underlying9 (tmS rfl rfl) (viewR hS.ok 0 rfl) (by first | assumption | exact Bytes.nil | (repeat' (first | assumption | exact Bytes.nil | exact be_bytes _ _ | apply Bytes.append | apply Bytes.take | apply Bytes.drop | apply Bytes.replicate))) (by first | rfl | assumption | (simp; done) | (simp; omega) | omega)) ?_
       | refine wl_v (x_bstr Try.underlying22 Try.underlying5 Try.underlying9 (tmS rfl rfl) (viewR hS.ok 1 rfl) (by first | assumption | exact Bytes.nil | (repeat' (first | assumption | exact Bytes.nil | exact be_bytes _ _ | apply Bytes.append | apply Bytes.take | apply Bytes.drop | apply Bytes.replicate))) (by first | rfl | assumption | (simp; done) | (simp; omega) | omega)) ?_
       | refine wl_v (x_bstr Try.underlying22 Try.underlying5 Try.underlying9 (tmS rfl rfl) (viewV hS.ok 4 rfl) (by first | assumption | exact Bytes.nil | (repeat' (first | assumption | exact Bytes.nil | exact be_bytes _ _ | apply Bytes.append | apply Bytes.take | apply Bytes.drop | apply Bytes.replicate))) (by first | rfl | assumption | (simp; done) | (simp; omega) | omega)) ?_
       | refine wl_v (x_bstr (l := []) Try.underlying22 Try.underlying5 Try.underlying9 (tmS rfl rfl) View.nil_ (by first | assumption | exact Bytes.nil | (repeat' (first | assumption | exact Bytes.nil | exact be_bytes _ _ | apply Bytes.append | apply Bytes.take | apply Bytes.drop | apply Bytes.replicate))) (by first | rfl | assumption | (simp; done) | (simp; omega) | omega)) ?_
      refine wl_v (x_move (tmS rfl rfl)) ?_
      first
       | refine wl_v (x_bstr Try.underlying22 Try.underlying5 Try.underlying9 (tmS rfl rfl) (viewR hS.ok 0 rfl) (by first | assumption | exact Bytes.nil | (repeat' (first | assumption | exact Bytes.nil | exact be_bytes _ _ | apply Bytes.append | apply Bytes.take | apply Bytes.drop | apply Bytes.replicate))) (by first | rfl | assumption | (simp; done) | (simp; omega) | omega)) ?_
       | refine wl_v (x_bstr Try.underlying22 Try.underlying5 Try.underlying9 (tmS rfl rfl) (viewR hS.ok 1 rfl) (by first | assumption | exact Bytes.nil | (repeat' (first | assumption | exact Bytes.nil | exact be_bytes _ _ | apply Bytes.append | apply Bytes.take | apply Bytes.drop | apply Bytes.replicate))) (by first | rfl | assumption | (simp; done) | (simp; omega) | omega)) ?_
       | refine wl_v (x_bstr Try.underlying22 Try.underlying5 Try.underlying9 (tmS rfl rfl) (viewV hS.ok 4 rfl) (by first | assumption | exact Bytes.nil | (repeat' (first | assumption | exact Bytes.nil | exact be_bytes _ _ | apply Bytes.append | apply Bytes.take | apply Bytes.drop | apply Bytes.replicate))) (by first | rfl | assumption | (simp; done) | (simp; omega) | omega)) ?_
       | refine wl_v (x_bstr (l := []) Try.underlying22 Try.underlying5 Try.underlying9 (tmS rfl rfl) View.nil_ (by first | assumption | exact Bytes.nil | (repeat' (first | assumption | exact Bytes.nil | exact be_bytes _ _ | apply Bytes.append | apply Bytes.take | apply Bytes.drop | apply Bytes.replicate))) (by first | rfl | assumption | (simp; done) | (simp; omega) | omega)) ?_
      refine wl_v (x_Gneq (tmG rfl rfl) (tmG rfl rfl) (by first | assumption | exact Bytes.nil | (repeat' (first | assumption | exact Bytes.nil | exact be_bytes _ _ | apply Bytes.append | apply Bytes.take | apply Bytes.drop | apply Bytes.replicate))) (by first | assumption | exact Bytes.nil | (repeat' (first | assumption | exact Bytes.nil | exact be_bytes _ _ | apply Bytes.append | apply Bytes.take | apply Bytes.drop | apply Bytes.replicate)))) ?_
      refine wl_v (x_move (tmB rfl rfl)) ?_
      refine gs_wl (tm (t := 65) rfl) (fun hg8_5 => ?_) (fun hg8_5 => ?_)
      · exfalso
        simp at hg8_5
      have hg8_5' := hg8_5; (try simp only [nrm] at hg8_5'); try (exfalso; first | with_reducible exact absurd hg8_5 Bool.false_ne_true | with_reducible exact absurd hg8_5.symm Bool.false_ne_true | omega | (simp at hg8_5; done))
      all_goals
       refine wl_gv (want_y rfl rfl rfl rfl (by rw [hg8_5]; rfl)) (x_move (tmI rfl rfl)) ?_
       refine wl_gv (want_y rfl rfl rfl rfl (by rw [hg8_5]; rfl)) (x_move (tmI rfl rfl)) ?_
       refine wl_gv (want_y rfl rfl rfl rfl (by rw [hg8_5]; rfl)) (x_neq (tmI rfl rfl) (tmI rfl rfl)) ?_
       refine wl_v (x_pickF (tmB rfl rfl) hg8_5 (tmB rfl rfl)) ?_
       refine wl_nil ?_
       refine then_n (hK11 _ _ ?_); clear hK11 K11
       refine cnd (tm rfl) (fun hc2 => ?_) (fun hc2 => ?_)
       · exfalso
         simp_all
       try (exfalso; first | with_reducible exact absurd hc2 Bool.false_ne_true | with_reducible exact absurd hc2.symm Bool.false_ne_true | (simp only [nrm] at hc2; omega) | (simp at hc2; done))
       all_goals
        try simp only [nrm] at hc2
        refine wp_skip ?_
        refine then_n (hK10 _ _ ?_); clear hK10 K10
        refine wp_seq_k ?_; intro K12 hK12
        refine wp_seq_k ?_; intro K13 hK13
        refine wlit ?_
        refine wl_v (x_move (tmI rfl rfl)) ?_
        refine wl_v (x_neq (tmI rfl rfl) (ev_cN 0)) ?_
        refine wl_nil ?_
        refine then_n (hK13 _ _ ?_); clear hK13 K13
        refine cnd (tm rfl) (fun hc3 => ?_) (fun hc3 => ?_)
        · try (exfalso; first | with_reducible exact absurd hc3 Bool.false_ne_true | with_reducible exact absurd hc3.symm Bool.false_ne_true | (simp only [nrm] at hc3; omega) | (simp at hc3; done))
          all_goals
           try simp only [nrm] at hc3
           refine wp_seq_k ?_; intro K14 hK14
           refine wlit ?_
           refine wl_e rfl ?_; intro K hK
           refine ow_call Try.func33 rfl rfl (evs_nil) (law05_awake_c _) ?_
           rintro e w ⟨rfl, hk⟩
           refine ⟨_, rfl, ?_⟩
           replace hS := hS.kept hk
           clear hk
           refine hK _ _ ?_; clear hK K
           refine wl_v (x_assign (tmB rfl rfl)) ?_
           refine wl_nil ?_
           refine then_n (hK14 _ _ ?_); clear hK14 K14
           refine wp_ret ?_
           refine then_r ?_
           refine ret1 rfl (.tmp rfl (show _ = Value.bool _ from rfl)) ?_
           first
             | exact ⟨rfl, hS.kp.below⟩
             | exact ⟨by simp, hS.kp.below⟩
        try (exfalso; first | with_reducible exact absurd hc3 Bool.false_ne_true | with_reducible exact absurd hc3.symm Bool.false_ne_true | (simp only [nrm] at hc3; omega) | (simp at hc3; done))
        all_goals
         try simp only [nrm] at hc3
         have her0 : er = 0 := by simpa using hc3
         have hpr := hpar her0
         have hcap := row_cap (hS.rowOk 1 rfl) (by omega)
         subst hn3
         refine wp_skip ?_
         refine then_n (hK12 _ _ ?_); clear hK12 K12
         refine wp_seq_k ?_; intro K15 hK15
         refine wlit ?_
         refine wl_v (x_move (tmS rfl rfl)) ?_
         refine wl_e rfl ?_; intro K hK
         refine ow_call Try.func41 rfl rfl (evs_cons (tmS rfl rfl) <| evs_nil) (hpr _ _ _ (viewR hS.ok 1 rfl) hcap) ?_
         rintro e w ⟨L1, rfl, hm1, hk⟩
         refine ⟨_, rfl, ?_⟩
         replace hS := hS.addn hk hm1 -- +vl1
         clear hm1 hk
         refine hK _ _ ?_; clear hK K
         refine wl_v (x_move (tmT rfl rfl)) ?_
         refine wl_v (x_ext (tmT rfl rfl) rfl) ?_
         refine wl_v (x_ext (tmT rfl rfl) rfl) ?_
         refine wl_v (x_ext (tmT rfl rfl) rfl) ?_
         refine wl_e rfl ?_; intro K hK
         refine ow_alloc hS tz_53 rfl ?_
         clear hS; intro g12_6 w hg12_6 hS
         refine hK _ _ ?_; clear hK K
         refine wl_e rfl ?_; intro K hK
         refine ow_storeA hS 0 rfl ts_53 (tmP rfl rfl) (tmA rfl rfl) rfl rfl rfl ?_
         clear hS; intro w hS
         try replace hS := St.nm (M' := [.blk _ _ [_, _, _, _, _, _, _, _, _, _, _], .vw _ _, .row _ _ _ _ _, .row _ _ _ _ _, .blk _ _ [_, _, _, _, _, _, _, _, _, _, _], .blk _ _ [_, _, _, _, _, _, _, _, _, _, _], .vw _ _]) hS rfl
         refine hK _ _ ?_; clear hK K
         refine wl_v (x_assign (tmS rfl rfl)) ?_
         refine wl_v (x_assign (tmI rfl rfl)) ?_
         refine wl_nil ?_
         refine then_n (hK15 _ _ ?_); clear hK15 K15
         refine wp_seq_k ?_; intro K16 hK16
         refine wlit ?_
         refine wl_v (x_move (tmS rfl rfl)) ?_
         refine wl_v (x_len Try.underlying22 (tmS rfl rfl)) ?_
         refine wl_v (x_fa 2 Try.underlying53 rfl rfl ts_3 (tmP rfl rfl)) ?_
         refine wl_e rfl ?_; intro K hK
         first
          | refine ow_store hS 4 rfl ts_3 (tmP rfl rfl) (tmI rfl rfl) rfl rfl ?_
          | refine ow_storeX hS 4 rfl ts_3 (tmP rfl rfl) (tmI rfl rfl) rfl (by simp; omega) ?_
         clear hS; intro w hS
         try replace hS := St.nm (M' := [.blk _ _ [_, _, _, _, _, _, _, _, _, _, _], .vw _ _, .row _ _ _ _ _, .row _ _ _ _ _, .blk _ _ [_, _, _, _, _, _, _, _, _, _, _], .blk _ _ [_, _, _, _, _, _, _, _, _, _, _], .vw _ _]) hS rfl
         refine hK _ _ ?_; clear hK K
         refine wl_nil ?_
         refine then_n (hK16 _ _ ?_); clear hK16 K16
         refine wp_seq_k ?_; intro K17 hK17
         refine wlit ?_
         refine wl_v (x_move (tmI rfl rfl)) ?_
         refine wl_v (x_eql (tmI rfl rfl) (ev_cN 0)) ?_
         refine wl_v (x_move (tmB rfl rfl)) ?_
         refine gs_wls (tm (t := 84) rfl) (fun hg14_2 => ?_) (fun hg14_2 => ?_)
         · exfalso
           simp at hg14_2
         have hg14_2' := hg14_2; (try simp only [nrm] at hg14_2'); try (exfalso; first | with_reducible exact absurd hg14_2 Bool.false_ne_true | with_reducible exact absurd hg14_2.symm Bool.false_ne_true | omega | (simp at hg14_2; done))
         all_goals
          refine wl_gv (want_y rfl rfl rfl rfl (by rw [hg14_2]; rfl)) (x_loadA (cs := [_, _, _, _, _, _, _, _, _, _, _]) Try.underlying53 rfl ts_53 (tmP rfl rfl) (rangeB hS.ok 0 rfl rfl)) ?_
          refine wl_gv (want_y rfl rfl rfl rfl (by rw [hg14_2]; rfl)) (x_loadA (cs := [_, _, _, _, _, _, _, _, _, _, _]) Try.underlying53 rfl ts_53 (tmP rfl rfl) (rangeB hS.ok 4 rfl rfl)) ?_
          refine wl_gv (want_y rfl rfl rfl rfl (by rw [hg14_2]; rfl)) (x_Aeql (by kernel_rfl) (tmA rfl rfl) (tmA rfl rfl) (eqv_A Try.underlying53 (by kernel_rfl) (fe_cons rfl (pt_1 Try.underlying5 rfl rfl) (pt_1 Try.underlying5 rfl rfl) (eqv_i Try.underlying5) <| fe_cons rfl (pt_1 Try.underlying50 rfl rfl) (pt_1 Try.underlying50 rfl rfl) (eqv_i Try.underlying50) <| fe_cons rfl (pt_1 Try.underlying3 rfl rfl) (pt_1 Try.underlying3 rfl rfl) (eqv_i Try.underlying3) <| fe_cons rfl (pt_1 Try.underlying5 rfl rfl) (pt_1 Try.underlying5 rfl rfl) (eqv_i Try.underlying5) <| fe_cons rfl (pt_1 Try.underlying5 rfl rfl) (pt_1 Try.underlying5 rfl rfl) (eqv_i Try.underlying5) <| fe_cons rfl (pt_A (cs := [_, _, _]) Try.underlying27 rfl ts_27 rfl) (pt_A (cs := [_, _, _]) Try.underlying27 rfl ts_27 rfl) (eqv_A Try.underlying27 (by kernel_rfl) (fe_cons rfl (pt_1 Try.underlying4 rfl rfl) (pt_1 Try.underlying4 rfl rfl) (eqv_b Try.underlying4) <| fe_cons rfl (pt_1 Try.underlying25 rfl rfl) (pt_1 Try.underlying25 rfl rfl) (eqv_i Try.underlying25) <| fe_cons rfl (pt_1 Try.underlying25 rfl rfl) (pt_1 Try.underlying25 rfl rfl) (eqv_i Try.underlying25) <| fe_nil)) <| fe_cons rfl (pt_A (cs := [_, _, _]) Try.underlying27 rfl ts_27 rfl) (pt_A (cs := [_, _, _]) Try.underlying27 rfl ts_27 rfl) (eqv_A Try.underlying27 (by kernel_rfl) (fe_cons rfl (pt_1 Try.underlying4 rfl rfl) (pt_1 Try.underlying4 rfl rfl) (eqv_b Try.underlying4) <| fe_cons rfl (pt_1 Try.underlying25 rfl rfl) (pt_1 Try.underlying25 rfl rfl) (eqv_i Try.underlying25) <| fe_cons rfl (pt_1 Try.underlying25 rfl rfl) (pt_1 Try.underlying25 rfl rfl) (eqv_i Try.underlying25) <| fe_nil)) <| fe_nil))) ?_
          refine wl_v (x_pickT (tmB rfl rfl) hg14_2 (tmB rfl rfl)) ?_
          refine wl_v (x_move (tmB rfl rfl)) ?_
          refine gs_wls (tm (t := 89) rfl) (fun hg14_7 => ?_) (fun hg14_7 => ?_)
          · exfalso
            simp at hg14_7
          have hg14_7' := hg14_7; (try simp only [nrm] at hg14_7'); try (exfalso; first | with_reducible exact absurd hg14_7 Bool.false_ne_true | with_reducible exact absurd hg14_7.symm Bool.false_ne_true | omega | (simp at hg14_7; done))
          all_goals
           refine wl_gv (want_y rfl rfl rfl rfl (by rw [hg14_7]; rfl)) (x_move (tmS rfl rfl)) ?_
           first
            | refine wl_gv (want_y rfl rfl rfl rfl (by rw [hg14_7]; rfl)) (x_bstr Try.underlying22 Try.underlying5 Try.underlying9 (tmS rfl rfl) (viewV hS.ok 1 rfl) (by first | assumption | exact Bytes.nil | (repeat' (first | assumption | exact Bytes.nil | exact be_bytes _ _ | apply Bytes.append | apply Bytes.take | apply Bytes.drop | apply Bytes.replicate))) (by first | rfl | assumption | (simp; done) | (simp; omega) | omega)) ?_
            | refine wl_gv (want_y rfl rfl rfl rfl (by rw [hg14_7]; rfl)) (x_bstr Try.underlying22 Try.underlying5 Try.underlying9 (tmS rfl rfl) (viewR hS.ok 2 rfl) (by first | assumption | exact Bytes.nil | (repeat' (first | assumption | exact Bytes.nil | exact be_bytes _ _ | apply Bytes.append | apply Bytes.take | apply Bytes.drop | apply Bytes.replicate))) (by first | rfl | assumption | (simp; done) | (simp; omega) | omega)) ?_
            | refine wl_gv (want_y rfl rfl rfl rfl (by rw [hg14_7]; rfl)) (x_bstr Try.underlying22 Try.underlying5 Try.underlying9 (tmS rfl rfl) (viewR hS.ok 3 rfl) (by first | assumption | exact Bytes.nil | (repeat' (first | assumption | exact Bytes.nil | exact be_bytes _ _ | apply Bytes.append | apply Bytes.take | apply Bytes.drop | apply Bytes.replicate))) (by first | rfl | assumption | (simp; done) | (simp; omega) | omega)) ?_
            | refine wl_gv (want_y rfl rfl rfl rfl (by rw [hg14_7]; rfl)) (x_bstr Try.underlying22 Try.underlying5 Try.underlying9 (tmS rfl rfl) (viewV hS.ok 6 rfl) (by first | assumption | exact Bytes.nil | (repeat' (first | assumption | exact Bytes.nil | exact be_bytes _ _ | apply Bytes.append | apply Bytes.take | apply Bytes.drop | apply Bytes.replicate))) (by first | rfl | assumption | (simp; done) | (simp; omega) | omega)) ?_
            | refine wl_gv (want_y rfl rfl rfl rfl (by rw [hg14_7]; rfl)) (x_bstr (l := []) Try.underlying22 Try.underlying5 Try.underlying9 (tmS rfl rfl) View.nil_ (by first | assumption | exact Bytes.nil | (repeat' (first | assumption | exact Bytes.nil | exact be_bytes _ _ | apply Bytes.append | apply Bytes.take | apply Bytes.drop | apply Bytes.replicate))) (by first | rfl | assumption | (simp; done) | (simp; omega) | omega)) ?_
           refine wl_gv (want_y rfl rfl rfl rfl (by rw [hg14_7]; rfl)) (x_move (tmS rfl rfl)) ?_
           first
            | refine wl_gv (want_y rfl rfl rfl rfl (by rw [hg14_7]; rfl)) (x_bstr Try.underlying22 Try.underlying5 Try.underlying9 (tmS rfl rfl) (viewV hS.ok 1 rfl) (by first | assumption | exact Bytes.nil | (repeat' (first | assumption | exact Bytes.nil | exact be_bytes _ _ | apply Bytes.append | apply Bytes.take | apply Bytes.drop | apply Bytes.replicate))) (by first | rfl | assumption | (simp; done) | (simp; omega) | omega)) ?_
            | refine wl_gv (want_y rfl rfl rfl rfl (by rw [hg14_7]; rfl)) (x_bstr Try.underlying22 Try.underlying5 Try.underlying9 (tmS rfl rfl) (viewR hS.ok 2 rfl) (by first | assumption | exact Bytes.nil | (repeat' (first | assumption | exact Bytes.nil | exact be_bytes _ _ | apply Bytes.append | apply Bytes.take | apply Bytes.drop | apply Bytes.replicate))) (by first | rfl | assumption | (simp; done) | (simp; omega) | omega)) ?_
            | refine wl_gv (want_y rfl rfl rfl rfl (by rw [hg14_7]; rfl)) (x_bstr Try.underlying22 Try.underlying5 Try.underlying9 (tmS rfl rfl) (viewR hS.ok 3 rfl) (by first | assumption | exact Bytes.nil | (repeat' (first | assumption | exact Bytes.nil | exact be_bytes _ _ | apply Bytes.append | apply Bytes.take | apply Bytes.drop | apply Bytes.replicate))) (by first | rfl | assumption | (simp; done) | (simp; omega) | omega)) ?_
            | refine wl_gv (want_y rfl rfl rfl rfl (by rw [hg14_7]; rfl)) (x_bstr Try.underlying22 Try.underlying5 Try.underlying9 (tmS rfl rfl) (viewV hS.ok 6 rfl) (by first | assumption | exact Bytes.nil | (repeat' (first | assumption | exact Bytes.nil | exact be_bytes _ _ | apply Bytes.append | apply Bytes.take | apply Bytes.drop | apply Bytes.replicate))) (by first | rfl | assumption | (simp; done) | (simp; omega) | omega)) ?_
            | refine wl_gv (want_y rfl rfl rfl rfl (by rw [hg14_7]; rfl)) (x_bstr (l := []) Try.underlying22 Try.underlying5 Try.underlying9 (tmS rfl rfl) View.nil_ (by first | assumption | exact Bytes.nil | (repeat' (first | assumption | exact Bytes.nil | exact be_bytes _ _ | apply Bytes.append | apply Bytes.take | apply Bytes.drop | apply Bytes.replicate))) (by first | rfl | assumption | (simp; done) | (simp; omega) | omega)) ?_
           refine wl_gv (want_y rfl rfl rfl rfl (by rw [hg14_7]; rfl)) (x_Geql (tmG rfl rfl) (tmG rfl rfl) (by first | assumption | exact Bytes.nil | (repeat' (first | assumption | exact Bytes.nil | exact be_bytes _ _ | apply Bytes.append | apply Bytes.take | apply Bytes.drop | apply Bytes.replicate))) (by first | assumption | exact Bytes.nil | (repeat' (first | assumption | exact Bytes.nil | exact be_bytes _ _ | apply Bytes.append | apply Bytes.take | apply Bytes.drop | apply Bytes.replicate)))) ?_
           refine wl_v (x_pickT (tmB rfl rfl) hg14_7 (tmB rfl rfl)) ?_
           refine wl_v (x_move (tmB rfl rfl)) ?_
           refine gs_wls (tm (t := 96) rfl) (fun hg14_14 => ?_) (fun hg14_14 => ?_)
           · exfalso
             simp at hg14_14
           have hg14_14' := hg14_14; (try simp only [nrm] at hg14_14'); try (exfalso; first | with_reducible exact absurd hg14_14 Bool.false_ne_true | with_reducible exact absurd hg14_14.symm Bool.false_ne_true | omega | (simp at hg14_14; done))
           all_goals
            refine wl_g (want_y rfl rfl rfl rfl (by rw [hg14_14]; rfl)) ?_; intro K hK
            refine ow_call Try.func33 rfl rfl (evs_nil) (law05_awake_c _) ?_
            rintro e w ⟨rfl, hk⟩
            refine ⟨_, rfl, ?_⟩
            replace hS := hS.kept hk
            clear hk
            refine hK _ _ ?_; clear hK K
            refine wl_v (x_pickT (tmB rfl rfl) hg14_14 (tmB rfl rfl)) ?_
            refine wl_v (x_assign (tmB rfl rfl)) ?_
            refine wl_nil ?_
            refine then_n (hK17 _ _ ?_); clear hK17 K17
            refine wp_ret ?_
            refine ret1 rfl (.tmp rfl (show _ = Value.bool _ from rfl)) ?_
            first
              | exact ⟨rfl, hS.kp.below⟩
              | exact ⟨by simp, hS.kp.below⟩
set_option maxRecDepth 100000 in
theorem walk (v : Value) (A : Option Addr) (n c : Nat) (l : List Nat) (w0 : World) {H : Type} {enc : TypeId × Value → H} {r : Reach} {b0 : Nat} {d : DataW H} {ps : List MemPlace} (hval : Value.okWide Try.prog w0 r b0 52 v) (hd : DataW.Trod enc Try.prog w0 0 (fun _ => true) true 52 v d ps) (hlt : ∀ p ∈ ps, p.block < w0.heap.size)
    (r1 : l.length = n ∧ (A = none → c = 0) ∧ BView w0 w0.heap.size A l ∧ n ≤ c) :
    Calls Try.prog 6 #[v, .slice A n c] w0 fun e w' => e = .returned (.bool true) ∧ Below w0.heap.size w0 w' := by
  obtain ⟨s, rfl, hs⟩ := RH6.open_a hval hd hlt
  obtain ⟨cl, lb, len, nx, hp, src, dst⟩ := s
  obtain ⟨q1, q2, q3, q4, q5, hs1, hs2⟩ := hs
  obtain ⟨hl, _, ⟨hb, hv⟩, _⟩ := r1
  exact walkC cl lb len nx hp src dst A n c l w0 q1 q4 q5 ⟨by have := hs1; simp [Ad.ok] at this; omega, by have := hs1; simp [Ad.ok] at this; omega⟩ ⟨by have := hs2; simp [Ad.ok] at this; omega, by have := hs2; simp [Ad.ok] at this; omega⟩ hl hb hv
end Ip6Writes
end Go.Proofs.Ytfagblcepibliaa
