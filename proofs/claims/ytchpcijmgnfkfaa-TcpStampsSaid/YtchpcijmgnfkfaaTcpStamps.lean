
/- Proved: TcpStamps returns true for every segment, and changes no memory that was there. Conditions: none. -/
import Derived.Test.YtchpcijmgnfkfaaTcpB
import Derived.Test.YtchpcijmgnfkfaaO
import Derived.Test.YtchpcijmgnfkfaaArgs
namespace Go.Proofs.Ytchpcijmgnfkfaa
open Go.ChangeShapes Go.WideShapes Go.ChangeAt Go.RowKit
structure RSeg where
  srcPort : Nat
  dstPort : Nat
  seq : Nat
  ack : Nat
  flags : Nat
  window : Nat
  sum : Nat
  urgent : Nat
  options : Sl Nat
  load : Sl Nat
def RSeg.V (s : RSeg) : List Value := [.int .u16 (s.srcPort : Int), .int .u16 (s.dstPort : Int), .int .u32 (s.seq : Int), .int .u32 (s.ack : Int), .int .u8 (s.flags : Int), .int .u16 (s.window : Int), .int .u16 (s.sum : Int), .int .u16 (s.urgent : Int), .slice s.options.a s.options.l.length s.options.c, .slice s.load.a s.load.l.length s.load.c]
theorem RSeg.len (s : RSeg) : s.V.length = 10 := rfl
def RSeg.ok (w : World) (s : RSeg) : Prop := s.srcPort < 65536 ∧ s.dstPort < 65536 ∧ s.seq < 4294967296 ∧ s.ack < 4294967296 ∧ s.flags < 256 ∧ s.window < 65536 ∧ s.sum < 65536 ∧ s.urgent < 65536 ∧ okB w s.options ∧ okB w s.load
instance : Inhabited RSeg := ⟨⟨0, 0, 0, 0, 0, 0, 0, 0, default, default⟩⟩
set_option maxRecDepth 100000 in
theorem RSeg.open_t {H : Type} {enc : TypeId × Value → H} {w : World} {fuel : Nat} {cs : List Value} {x : DataW H × List MemPlace} (hf : DataW.trod enc Try.prog w 0 (fun _ => true) true fuel 180 cs = some x) (hlt : ∀ p ∈ x.2, p.block < w.heap.size) : ∃ s : RSeg, cs = s.V ∧ s.ok w := by
  have hC : Try.prog.cellsOf 180 = 10 := by kernel_rfl
  have hl := (DataW.trod_struct Try.underlying180 hf).choose_spec.choose_spec.2.2.1
  rw [hC] at hl
  obtain ⟨y0, k0, t0, b0⟩ := field_t Try.underlying180 hf hlt 0 _ rfl
  have hC0 : Try.prog.cellsOf 37 = 1 := by kernel_rfl
  obtain ⟨s0, e0, o0⟩ := t_u16 Try.underlying37 t0 b0
  have d0 := split_drop cs 0 1 (hC0 ▸ e0)
  obtain ⟨y1, k1, t1, b1⟩ := field_t Try.underlying180 hf hlt 1 _ rfl
  have hC1 : Try.prog.cellsOf 37 = 1 := by kernel_rfl
  obtain ⟨s1, e1, o1⟩ := t_u16 Try.underlying37 t1 b1
  have d1 := split_drop cs 1 1 (hC1 ▸ e1)
  obtain ⟨y2, k2, t2, b2⟩ := field_t Try.underlying180 hf hlt 2 _ rfl
  have hC2 : Try.prog.cellsOf 39 = 1 := by kernel_rfl
  obtain ⟨s2, e2, o2⟩ := t_u32 Try.underlying39 t2 b2
  have d2 := split_drop cs 2 1 (hC2 ▸ e2)
  obtain ⟨y3, k3, t3, b3⟩ := field_t Try.underlying180 hf hlt 3 _ rfl
  have hC3 : Try.prog.cellsOf 39 = 1 := by kernel_rfl
  obtain ⟨s3, e3, o3⟩ := t_u32 Try.underlying39 t3 b3
  have d3 := split_drop cs 3 1 (hC3 ▸ e3)
  obtain ⟨y4, k4, t4, b4⟩ := field_t Try.underlying180 hf hlt 4 _ rfl
  have hC4 : Try.prog.cellsOf 5 = 1 := by kernel_rfl
  obtain ⟨s4, e4, o4⟩ := t_u8 Try.underlying5 t4 b4
  have d4 := split_drop cs 4 1 (hC4 ▸ e4)
  obtain ⟨y5, k5, t5, b5⟩ := field_t Try.underlying180 hf hlt 5 _ rfl
  have hC5 : Try.prog.cellsOf 37 = 1 := by kernel_rfl
  obtain ⟨s5, e5, o5⟩ := t_u16 Try.underlying37 t5 b5
  have d5 := split_drop cs 5 1 (hC5 ▸ e5)
  obtain ⟨y6, k6, t6, b6⟩ := field_t Try.underlying180 hf hlt 6 _ rfl
  have hC6 : Try.prog.cellsOf 37 = 1 := by kernel_rfl
  obtain ⟨s6, e6, o6⟩ := t_u16 Try.underlying37 t6 b6
  have d6 := split_drop cs 6 1 (hC6 ▸ e6)
  obtain ⟨y7, k7, t7, b7⟩ := field_t Try.underlying180 hf hlt 7 _ rfl
  have hC7 : Try.prog.cellsOf 37 = 1 := by kernel_rfl
  obtain ⟨s7, e7, o7⟩ := t_u16 Try.underlying37 t7 b7
  have d7 := split_drop cs 7 1 (hC7 ▸ e7)
  obtain ⟨y8, k8, t8, b8⟩ := field_t Try.underlying180 hf hlt 8 _ rfl
  have hC8 : Try.prog.cellsOf 36 = 1 := by kernel_rfl
  obtain ⟨s8, e8, o8⟩ := t_bytes Try.underlying36 Try.underlying5 (by kernel_rfl) t8 b8
  have d8 := split_drop cs 8 1 (hC8 ▸ e8)
  obtain ⟨y9, k9, t9, b9⟩ := field_t Try.underlying180 hf hlt 9 _ rfl
  have hC9 : Try.prog.cellsOf 36 = 1 := by kernel_rfl
  obtain ⟨s9, e9, o9⟩ := t_bytes Try.underlying36 Try.underlying5 (by kernel_rfl) t9 b9
  have d9 := split_drop cs 9 1 (hC9 ▸ e9)
  refine ⟨⟨s0, s1, s2, s3, s4, s5, s6, s7, s8, s9⟩, ?_, ⟨o0, o1, o2, o3, o4, o5, o6, o7, o8, o9⟩⟩
  have dn : cs.drop 10 = [] := List.drop_eq_nil_of_le (by omega)
  rw [← List.drop_zero (l := cs)]
  refine d0.trans ?_
  rw [show cs.drop (0 + 1) = _ from d1]
  rw [show cs.drop (1 + 1) = _ from d2]
  rw [show cs.drop (2 + 1) = _ from d3]
  rw [show cs.drop (3 + 1) = _ from d4]
  rw [show cs.drop (4 + 1) = _ from d5]
  rw [show cs.drop (5 + 1) = _ from d6]
  rw [show cs.drop (6 + 1) = _ from d7]
  rw [show cs.drop (7 + 1) = _ from d8]
  rw [show cs.drop (8 + 1) = _ from d9]
  rw [show cs.drop (9 + 1) = [] from dn]
  rfl
set_option maxRecDepth 100000 in
theorem RSeg.open_a {H : Type} {enc : TypeId × Value → H} {w : World} {r : Reach} {b0 : Nat} {v : Value} {d : DataW H} {ps : List MemPlace} (hval : Value.okWide Try.prog w r b0 180 v) (hd : DataW.Trod enc Try.prog w 0 (fun _ => true) true 180 v d ps) (hlt : ∀ p ∈ ps, p.block < w.heap.size) : ∃ s : RSeg, v = .agg s.V.toArray ∧ s.ok w := by
  obtain ⟨cs, rfl, _⟩ := okWide_struct Try.underlying180 hval
  obtain ⟨fuel, hf⟩ := hd
  obtain ⟨s, e, h⟩ := RSeg.open_t hf hlt
  exact ⟨s, by rw [← e]; simp [Value.cells], h⟩
theorem stampsF_le (l : List Nat) : ∀ f p q, stampsF l f p = some q → q + 8 ≤ l.length := by
  intro f
  induction f with
  | zero => intro p q h; simp [stampsF] at h
  | succ f ih =>
    intro p q h
    simp only [stampsF] at h
    split at h
    · rename_i hp
      split at h
      · exact ih _ _ h
      · split at h
        · simp at h
        · rename_i h1
          split at h
          · split at h
            · simp at h
              omega
            · simp at h
          · exact ih _ _ h
    · simp at h
theorem stampsL_le {l : List Nat} {q : Nat} (h : stampsL l 0 = some q) : q + 8 ≤ l.length := stampsF_le l _ _ _ h
theorem getN_drop0 (l : List Nat) (q k : Nat) : getN (l.drop q) 0 k = getN l q k := by simp [getN]
theorem getN_drop4 (l : List Nat) (q k : Nat) : getN (l.drop q) (0 + 4) k = getN l (q + 4) k := by simp [getN]
def stI (o : Option Nat) : Int := match o with | none => -1 | some v => (v : Int)

set_option maxRecDepth 100000 in
set_option maxHeartbeats 4000000 in
theorem stamps_none_c (n : Nat) (A : Option Addr) (c : Nat) (l : List Nat) (w0 : World) (hv : View w0 w0.heap.size A (l.map u8v)) (hl : l.length = n) (hb : Bytes l) (hn4 : n ≤ 900000) (h : stampsL l 0 = none) :
    Calls Try.prog 99 #[.slice A n c] w0 fun e w' => e = .returned (.tuple #[.int .i64 0, .bool false]) ∧ Kp [] w0 w' := by
  have h2 := stamps_c n A c l w0 hv hl hb hn4
  rw [h] at h2
  exact h2
set_option maxRecDepth 100000 in
set_option maxHeartbeats 4000000 in
theorem stamps_some_c (n : Nat) (A : Option Addr) (c : Nat) (l : List Nat) (q : Nat) (w0 : World) (hv : View w0 w0.heap.size A (l.map u8v)) (hl : l.length = n) (hb : Bytes l) (hn4 : n ≤ 900000) (h : stampsL l 0 = some q) :
    Calls Try.prog 99 #[.slice A n c] w0 fun e w' => e = .returned (.tuple #[.int .i64 (q : Int), .bool true]) ∧ Kp [] w0 w' := by
  have h2 := stamps_c n A c l w0 hv hl hb hn4
  rw [h] at h2
  exact h2

set_option maxRecDepth 100000 in
set_option maxHeartbeats 4000000 in
theorem rstamps_c (n : Nat) (A : Option Addr) (c : Nat) (l : List Nat) (w0 : World) (hv : View w0 w0.heap.size A (l.map u8v)) (hl : l.length = n) (hb : Bytes l) (hn4 : n ≤ 900000) :
    Calls Try.prog 100 #[.slice A n c] w0 fun e w' => e = .returned (.int .i64 (stI (stampsL l 0))) ∧ Kp [] w0 w' := by
  have hS := (St.sv w0).vcons rfl hv
  refine ent (n := 65) Try.func100 rfl rfl ?_
  refine wp_seq_k ?_; intro K1 hK1
  refine wlit ?_
  refine wl_v (x_assign (ev_cN 0)) ?_
  refine wl_nil ?_
  refine then_n (hK1 _ _ ?_); clear hK1 K1
  refine wp_seq_k ?_; intro K2 hK2
  refine wlit ?_
  refine wl_v (x_assign (ev_cN 0)) ?_
  refine wl_nil ?_
  refine then_n (hK2 _ _ ?_); clear hK2 K2
  refine wp_seq_k ?_; intro K3 hK3
  refine wp_block ?_
  refine lp [2, 3, 4, 5, 6, 7, 8, 9, 10, 11, 12, 13, 14, 15, 16, 17, 18, 19, 20, 21, 22, 23, 24, 25, 26, 27, 28, 29, 30, 31, 32, 33, 34, 35, 36, 37, 38, 39, 40, 41, 42, 43, 44, 45, 46, 47, 48, 49, 50, 51, 52, 53, 54, 55, 56, 57, 58, 59, 60, 61, 62, 63, 64] (fun mz g w => ∃ (p : Nat), mz = n - p ∧ g 3 = .int .i64 (p : Int) ∧ St [] w0 [.vw A (l.map u8v)] w ∧ (p ≤ n) ∧ (stampsL l 0 = stampsL l p)) ?_ ?_
  · exact ⟨_, 0, rfl, (by first | rfl | go_num | exact congrArg (Value.int _) (by first | omega | (simp; done) | (simp; omega))), hS, (by omega), (by first | rfl | exact hx1 | exact hx2)⟩
  · clear hS; intro mz g w hI
    obtain ⟨p, rfl, hs3, hS, hp, hst⟩ := hI
    refine fr_know (d := 3) hs3 ?_; clear hs3
    refine wp_seq_k ?_; intro K4 hK4
    refine wp_seq_k ?_; intro K5 hK5
    refine wlit ?_
    refine wl_v (x_move (tmI rfl rfl)) ?_
    refine wl_v (x_move (tmS rfl rfl)) ?_
    refine wl_v (x_len Try.underlying36 (tmS rfl rfl)) ?_
    refine wl_v (x_lss (tmI rfl rfl) (tmI rfl rfl)) ?_
    refine wl_v (x_move (tmB rfl rfl)) ?_
    refine gs_wl (tm (t := 9) rfl) (fun hg2_4 => ?_) (fun hg2_4 => ?_)
    · have hg2_4' := hg2_4; (try simp only [nrm] at hg2_4'); try (exfalso; first | with_reducible exact absurd hg2_4 Bool.false_ne_true | with_reducible exact absurd hg2_4.symm Bool.false_ne_true | omega | (simp at hg2_4; done))
      all_goals
       obtain ⟨b4, o4, rfl⟩ := view_some hv (by rw [List.length_map]; omega)
       have e1 : l.getD p 0 = nth l p := rfl
       have e2 : l.getD (p + 1) 0 = nth l (p + 1) := rfl
       have q1 := nth_lt hb p
       have q2 := nth_lt hb (p + 1)
       have hu := stampsL_eq l p
       refine wl_gv (want_y rfl rfl rfl rfl (by rw [hg2_4]; rfl)) (x_move (tmS rfl rfl)) ?_
       refine wl_gv (want_y rfl rfl rfl rfl (by rw [hg2_4]; rfl)) (x_move (tmI rfl rfl)) ?_
       refine wl_gv (want_y rfl rfl rfl rfl (by rw [hg2_4]; rfl)) (x_ixs1 Try.underlying36 ts_5 (tmS rfl rfl) (tmI rfl rfl) (by omega)) ?_
       first
        | refine wl_gv (want_y rfl rfl rfl rfl (by rw [hg2_4]; rfl)) (x_load Try.underlying5 rfl (tmP rfl rfl) (cellV hS.ok 0 rfl rfl)) ?_
        | refine wl_gv (want_y rfl rfl rfl rfl (by rw [hg2_4]; rfl)) (x_load Try.underlying5 rfl (tmP rfl rfl) (cellV hS.ok 0 rfl (getm (by omega)))) ?_
        | refine wl_gv (want_y rfl rfl rfl rfl (by rw [hg2_4]; rfl)) (x_load Try.underlying5 rfl (tmP rfl rfl) (cellVs hS.ok 0 rfl (fun _ => rfl) rfl (by omega) rfl)) ?_
       refine wl_gv (want_y rfl rfl rfl rfl (by rw [hg2_4]; rfl)) (x_neq (tmI rfl rfl) (ev_cN 0)) ?_
       refine wl_v (x_pickT (tmB rfl rfl) hg2_4 (tmB rfl rfl)) ?_
       refine wl_nil ?_
       refine then_n (hK5 _ _ ?_); clear hK5 K5
       refine cnd (tm rfl) (fun hc0 => ?_) (fun hc0 => ?_)
       · try (exfalso; first | with_reducible exact absurd hc0 Bool.false_ne_true | with_reducible exact absurd hc0.symm Bool.false_ne_true | (simp only [nrm] at hc0; omega) | (simp at hc0; done))
         all_goals
          try simp only [nrm] at hc0
          refine wp_skip ?_
          refine then_n (hK4 _ _ ?_); clear hK4 K4
          refine wp_block ?_
          refine wp_seq_k ?_; intro K6 hK6
          refine wp_seq_k ?_; intro K7 hK7
          refine wlit ?_
          refine wl_v (x_move (tmS rfl rfl)) ?_
          refine wl_v (x_move (tmI rfl rfl)) ?_
          refine wl_v (x_ixs1 Try.underlying36 ts_5 (tmS rfl rfl) (tmI rfl rfl) (by omega)) ?_
          first
           | refine wl_v (x_load Try.underlying5 rfl (tmP rfl rfl) (cellV hS.ok 0 rfl rfl)) ?_
           | refine wl_v (x_load Try.underlying5 rfl (tmP rfl rfl) (cellV hS.ok 0 rfl (getm (by omega)))) ?_
           | refine wl_v (x_load Try.underlying5 rfl (tmP rfl rfl) (cellVs hS.ok 0 rfl (fun _ => rfl) rfl (by omega) rfl)) ?_
          refine wl_v (x_eql (tmI rfl rfl) (ev_cN 1)) ?_
          refine wl_nil ?_
          refine then_n (hK7 _ _ ?_); clear hK7 K7
          refine cnd (tm rfl) (fun hc1 => ?_) (fun hc1 => ?_)
          · try (exfalso; first | with_reducible exact absurd hc1 Bool.false_ne_true | with_reducible exact absurd hc1.symm Bool.false_ne_true | (simp only [nrm] at hc1; omega) | (simp at hc1; done))
            all_goals
             try simp only [nrm] at hc1
             have hx1 : stampsL l 0 = stampsL l (p + 1) := by rw [hst, hu, if_pos ⟨by omega, by omega⟩, if_pos (by omega)]
             refine wp_seq_k ?_; intro K8 hK8
             refine wlit ?_
             refine wl_v (x_move (tmI rfl rfl)) ?_
             first
              | refine wl_v (x_addN (tmI rfl rfl) (ev_cN 1) (fit_i64 (by omega))) ?_
              | refine wl_v (x_addI (tmI rfl rfl) (ev_cN 1) (IntWalk.i64_in _ (by omega))) ?_
              | refine wl_v (x_add (tmI rfl rfl) (ev_cN 1)) ?_
             refine wl_v (x_assign (tmI rfl rfl)) ?_
             refine wl_nil ?_
             refine then_n (hK8 _ _ ?_); clear hK8 K8
             refine wp_exit ?_
             refine then_x ?_; clear hK6 K6
             refine inb_x ?_
             first
              | exact then_n ⟨_, _, rfl, (by show _ < _; omega), (by repeat (first | exact agree_self | exact agree_refl | refine agree_upd rfl ?_ | refine agree_mix rfl ?_)), p + 1, rfl, (by first | rfl | go_num | exact congrArg (Value.int _) (by first | omega | (simp; done) | (simp; omega))), hS, (by omega), (by first | rfl | exact hx1 | exact hx2)⟩
              | exact then_n ⟨_, _, rfl, (by show _ < _; omega), (by repeat (first | exact agree_self | exact agree_refl | refine agree_upd rfl ?_ | refine agree_mix rfl ?_)), p + l.getD (p + 1) 0, rfl, (by first | rfl | go_num | exact congrArg (Value.int _) (by first | omega | (simp; done) | (simp; omega))), hS, (by omega), (by first | rfl | exact hx1 | exact hx2)⟩
          try (exfalso; first | with_reducible exact absurd hc1 Bool.false_ne_true | with_reducible exact absurd hc1.symm Bool.false_ne_true | (simp only [nrm] at hc1; omega) | (simp at hc1; done))
          all_goals
           try simp only [nrm] at hc1
           refine wp_skip ?_
           refine then_n (hK6 _ _ ?_); clear hK6 K6
           refine wp_seq_k ?_; intro K9 hK9
           refine wp_seq_k ?_; intro K10 hK10
           refine wlit ?_
           refine wl_v (x_move (tmI rfl rfl)) ?_
           first
            | refine wl_v (x_addN (tmI rfl rfl) (ev_cN 1) (fit_i64 (by omega))) ?_
            | refine wl_v (x_addI (tmI rfl rfl) (ev_cN 1) (IntWalk.i64_in _ (by omega))) ?_
            | refine wl_v (x_add (tmI rfl rfl) (ev_cN 1)) ?_
           refine wl_v (x_move (tmS rfl rfl)) ?_
           refine wl_v (x_len Try.underlying36 (tmS rfl rfl)) ?_
           refine wl_v (x_eql (tmI rfl rfl) (tmI rfl rfl)) ?_
           refine wl_nil ?_
           refine then_n (hK10 _ _ ?_); clear hK10 K10
           refine cnd (tm rfl) (fun hc2 => ?_) (fun hc2 => ?_)
           · try (exfalso; first | with_reducible exact absurd hc2 Bool.false_ne_true | with_reducible exact absurd hc2.symm Bool.false_ne_true | (simp only [nrm] at hc2; omega) | (simp at hc2; done))
             all_goals
              try simp only [nrm] at hc2
              refine wp_seq_k ?_; intro K11 hK11
              refine wlit ?_
              refine wl_v (x_assign ev_c) ?_
              refine wl_nil ?_
              refine then_n (hK11 _ _ ?_); clear hK11 K11
              refine wp_ret ?_
              refine then_r ?_
              refine inb_r ?_
              refine then_r ?_
              refine inb_r ?_
              refine then_r ?_
              refine ret1 rfl (.tmp rfl (show _ = Value.int _ _ from rfl)) ?_
              have hu := stampsL_eq l p
              have e1 : l.getD p 0 = nth l p := rfl
              have e2 : l.getD (p + 1) 0 = nth l (p + 1) := rfl
              refine ⟨?_, hS.kp⟩
              rw [hst]
              first
                | (rw [if_neg (by omega)] at hu
                   rw [hu]; rfl)
                | (rw [if_pos ⟨by omega, by omega⟩, if_neg (by omega), if_pos (by omega)] at hu
                   rw [hu]; rfl)
                | (rw [if_pos ⟨by omega, by omega⟩, if_neg (by omega), if_neg (by omega), if_pos (by omega), if_neg (by omega)] at hu
                   rw [hu]; rfl)
                | (rw [if_pos ⟨by omega, by omega⟩, if_neg (by omega), if_neg (by omega), if_pos (by omega), if_pos (by omega)] at hu
                   rw [hu]; rfl)
           try (exfalso; first | with_reducible exact absurd hc2 Bool.false_ne_true | with_reducible exact absurd hc2.symm Bool.false_ne_true | (simp only [nrm] at hc2; omega) | (simp at hc2; done))
           all_goals
            try simp only [nrm] at hc2
            refine wp_skip ?_
            refine then_n (hK9 _ _ ?_); clear hK9 K9
            refine wp_seq_k ?_; intro K12 hK12
            refine wlit ?_
            refine wl_v (x_move (tmS rfl rfl)) ?_
            refine wl_v (x_move (tmI rfl rfl)) ?_
            first
             | refine wl_v (x_addN (tmI rfl rfl) (ev_cN 1) (fit_i64 (by omega))) ?_
             | refine wl_v (x_addI (tmI rfl rfl) (ev_cN 1) (IntWalk.i64_in _ (by omega))) ?_
             | refine wl_v (x_add (tmI rfl rfl) (ev_cN 1)) ?_
            refine wl_v (x_ixs1 Try.underlying36 ts_5 (tmS rfl rfl) (tmI rfl rfl) (by omega)) ?_
            first
             | refine wl_v (x_load Try.underlying5 rfl (tmP rfl rfl) (cellV hS.ok 0 rfl rfl)) ?_
             | refine wl_v (x_load Try.underlying5 rfl (tmP rfl rfl) (cellV hS.ok 0 rfl (getm (by omega)))) ?_
             | refine wl_v (x_load Try.underlying5 rfl (tmP rfl rfl) (cellVs hS.ok 0 rfl (fun _ => rfl) rfl (by omega) rfl)) ?_
            first
             | refine wl_v (x_convN Try.underlying5 Try.underlying3 (tmI rfl rfl) (fit_i64 (by omega))) ?_
             | refine wl_v (x_conv Try.underlying5 Try.underlying3 (tmI rfl rfl)) ?_
            refine wl_v (x_assign (tmI rfl rfl)) ?_
            refine wl_nil ?_
            refine then_n (hK12 _ _ ?_); clear hK12 K12
            refine wp_seq_k ?_; intro K13 hK13
            refine wp_seq_k ?_; intro K14 hK14
            refine wlit ?_
            refine wl_v (x_move (tmI rfl rfl)) ?_
            refine wl_v (x_lss (tmI rfl rfl) (ev_cN 2)) ?_
            refine wl_v (x_move (tmB rfl rfl)) ?_
            refine gs_wl (tm (t := 36) rfl) (fun hg8_2 => ?_) (fun hg8_2 => ?_)
            · have hg8_2' := hg8_2; (try simp only [nrm] at hg8_2'); try (exfalso; first | with_reducible exact absurd hg8_2 Bool.false_ne_true | with_reducible exact absurd hg8_2.symm Bool.false_ne_true | omega | (simp at hg8_2; done))
              all_goals
               refine wl_s rfl (want_n rfl rfl rfl rfl (by rw [hg8_2]; rfl)) ?_
               refine wl_s rfl (want_n rfl rfl rfl rfl (by rw [hg8_2]; rfl)) ?_
               refine wl_s rfl (want_n rfl rfl rfl rfl (by rw [hg8_2]; rfl)) ?_
               refine wl_s rfl (want_n rfl rfl rfl rfl (by rw [hg8_2]; rfl)) ?_
               refine wl_s rfl (want_n rfl rfl rfl rfl (by rw [hg8_2]; rfl)) ?_
               refine wl_s rfl (want_n rfl rfl rfl rfl (by rw [hg8_2]; rfl)) ?_
               refine wl_v (x_pickT (tmB rfl rfl) hg8_2 ev_c) ?_
               refine wl_v (x_move (tmB rfl rfl)) ?_
               refine wl_s rfl (want_n rfl rfl rfl rfl rfl) ?_
               refine wl_s rfl (want_n rfl rfl rfl rfl rfl) ?_
               refine wl_s rfl (want_n rfl rfl rfl rfl rfl) ?_
               refine wl_s rfl (want_n rfl rfl rfl rfl rfl) ?_
               refine wl_s rfl (want_n rfl rfl rfl rfl rfl) ?_
               refine wl_s rfl (want_n rfl rfl rfl rfl rfl) ?_
               refine wl_s rfl (want_u rfl rfl rfl rfl) ?_
               refine wl_s rfl (want_u rfl rfl rfl rfl) ?_
               refine wl_s rfl (want_n rfl rfl rfl rfl rfl) ?_
               refine wl_v (x_pickT (tmB rfl rfl) rfl ev_c) ?_
               refine wl_nil ?_
               refine then_n (hK14 _ _ ?_); clear hK14 K14
               refine cnd_t (tmB rfl rfl) rfl ?_
               refine wp_seq_k ?_; intro K15 hK15
               refine wlit ?_
               refine wl_v (x_assign ev_c) ?_
               refine wl_nil ?_
               refine then_n (hK15 _ _ ?_); clear hK15 K15
               refine wp_ret ?_
               refine then_r ?_
               refine inb_r ?_
               refine then_r ?_
               refine inb_r ?_
               refine then_r ?_
               refine ret1 rfl (.tmp rfl (show _ = Value.int _ _ from rfl)) ?_
               have hu := stampsL_eq l p
               have e1 : l.getD p 0 = nth l p := rfl
               have e2 : l.getD (p + 1) 0 = nth l (p + 1) := rfl
               refine ⟨?_, hS.kp⟩
               rw [hst]
               first
                 | (rw [if_neg (by omega)] at hu
                    rw [hu]; rfl)
                 | (rw [if_pos ⟨by omega, by omega⟩, if_neg (by omega), if_pos (by omega)] at hu
                    rw [hu]; rfl)
                 | (rw [if_pos ⟨by omega, by omega⟩, if_neg (by omega), if_neg (by omega), if_pos (by omega), if_neg (by omega)] at hu
                    rw [hu]; rfl)
                 | (rw [if_pos ⟨by omega, by omega⟩, if_neg (by omega), if_neg (by omega), if_pos (by omega), if_pos (by omega)] at hu
                    rw [hu]; rfl)
            have hg8_2' := hg8_2; (try simp only [nrm] at hg8_2'); try (exfalso; first | with_reducible exact absurd hg8_2 Bool.false_ne_true | with_reducible exact absurd hg8_2.symm Bool.false_ne_true | omega | (simp at hg8_2; done))
            all_goals
             refine wl_gv (want_y rfl rfl rfl rfl (by rw [hg8_2]; rfl)) (x_move (tmI rfl rfl)) ?_
             refine wl_gv (want_y rfl rfl rfl rfl (by rw [hg8_2]; rfl)) (x_move (tmI rfl rfl)) ?_
             first
              | refine wl_gv (want_y rfl rfl rfl rfl (by rw [hg8_2]; rfl)) (x_addN (tmI rfl rfl) (tmI rfl rfl) (fit_i64 (by omega))) ?_
              | refine wl_gv (want_y rfl rfl rfl rfl (by rw [hg8_2]; rfl)) (x_addI (tmI rfl rfl) (tmI rfl rfl) (IntWalk.i64_in _ (by omega))) ?_
              | refine wl_gv (want_y rfl rfl rfl rfl (by rw [hg8_2]; rfl)) (x_add (tmI rfl rfl) (tmI rfl rfl)) ?_
             refine wl_gv (want_y rfl rfl rfl rfl (by rw [hg8_2]; rfl)) (x_move (tmS rfl rfl)) ?_
             refine wl_gv (want_y rfl rfl rfl rfl (by rw [hg8_2]; rfl)) (x_len Try.underlying36 (tmS rfl rfl)) ?_
             refine wl_gv (want_y rfl rfl rfl rfl (by rw [hg8_2]; rfl)) (x_gtr (tmI rfl rfl) (tmI rfl rfl)) ?_
             refine wl_v (x_pickF (tmB rfl rfl) hg8_2 (tmB rfl rfl)) ?_
             refine wl_v (x_move (tmB rfl rfl)) ?_
             refine gs_wl (tm (t := 44) rfl) (fun hg8_10 => ?_) (fun hg8_10 => ?_)
             · have hg8_10' := hg8_10; (try simp only [nrm] at hg8_10'); try (exfalso; first | with_reducible exact absurd hg8_10 Bool.false_ne_true | with_reducible exact absurd hg8_10.symm Bool.false_ne_true | omega | (simp at hg8_10; done))
               all_goals
                refine wl_s rfl (want_n rfl rfl rfl rfl (by rw [hg8_10]; rfl)) ?_
                refine wl_s rfl (want_n rfl rfl rfl rfl (by rw [hg8_10]; rfl)) ?_
                refine wl_s rfl (want_n rfl rfl rfl rfl (by rw [hg8_10]; rfl)) ?_
                refine wl_s rfl (want_n rfl rfl rfl rfl (by rw [hg8_10]; rfl)) ?_
                refine wl_s rfl (want_n rfl rfl rfl rfl (by rw [hg8_10]; rfl)) ?_
                refine wl_s rfl (want_n rfl rfl rfl rfl (by rw [hg8_10]; rfl)) ?_
                refine wl_s rfl (want_u rfl rfl rfl rfl) ?_
                refine wl_s rfl (want_u rfl rfl rfl rfl) ?_
                refine wl_s rfl (want_n rfl rfl rfl rfl (by rw [hg8_10]; rfl)) ?_
                refine wl_v (x_pickT (tmB rfl rfl) hg8_10 ev_c) ?_
                refine wl_nil ?_
                refine then_n (hK14 _ _ ?_); clear hK14 K14
                refine cnd_t (tmB rfl rfl) rfl ?_
                refine wp_seq_k ?_; intro K16 hK16
                refine wlit ?_
                refine wl_v (x_assign ev_c) ?_
                refine wl_nil ?_
                refine then_n (hK16 _ _ ?_); clear hK16 K16
                refine wp_ret ?_
                refine then_r ?_
                refine inb_r ?_
                refine then_r ?_
                refine inb_r ?_
                refine then_r ?_
                refine ret1 rfl (.tmp rfl (show _ = Value.int _ _ from rfl)) ?_
                have hu := stampsL_eq l p
                have e1 : l.getD p 0 = nth l p := rfl
                have e2 : l.getD (p + 1) 0 = nth l (p + 1) := rfl
                refine ⟨?_, hS.kp⟩
                rw [hst]
                first
                  | (rw [if_neg (by omega)] at hu
                     rw [hu]; rfl)
                  | (rw [if_pos ⟨by omega, by omega⟩, if_neg (by omega), if_pos (by omega)] at hu
                     rw [hu]; rfl)
                  | (rw [if_pos ⟨by omega, by omega⟩, if_neg (by omega), if_neg (by omega), if_pos (by omega), if_neg (by omega)] at hu
                     rw [hu]; rfl)
                  | (rw [if_pos ⟨by omega, by omega⟩, if_neg (by omega), if_neg (by omega), if_pos (by omega), if_pos (by omega)] at hu
                     rw [hu]; rfl)
             have hg8_10' := hg8_10; (try simp only [nrm] at hg8_10'); try (exfalso; first | with_reducible exact absurd hg8_10 Bool.false_ne_true | with_reducible exact absurd hg8_10.symm Bool.false_ne_true | omega | (simp at hg8_10; done))
             all_goals
              refine wl_gv (want_y rfl rfl rfl rfl (by rw [hg8_10]; rfl)) (x_move (tmS rfl rfl)) ?_
              refine wl_gv (want_y rfl rfl rfl rfl (by rw [hg8_10]; rfl)) (x_move (tmI rfl rfl)) ?_
              refine wl_gv (want_y rfl rfl rfl rfl (by rw [hg8_10]; rfl)) (x_ixs1 Try.underlying36 ts_5 (tmS rfl rfl) (tmI rfl rfl) (by omega)) ?_
              first
               | refine wl_gv (want_y rfl rfl rfl rfl (by rw [hg8_10]; rfl)) (x_load Try.underlying5 rfl (tmP rfl rfl) (cellV hS.ok 0 rfl rfl)) ?_
               | refine wl_gv (want_y rfl rfl rfl rfl (by rw [hg8_10]; rfl)) (x_load Try.underlying5 rfl (tmP rfl rfl) (cellV hS.ok 0 rfl (getm (by omega)))) ?_
               | refine wl_gv (want_y rfl rfl rfl rfl (by rw [hg8_10]; rfl)) (x_load Try.underlying5 rfl (tmP rfl rfl) (cellVs hS.ok 0 rfl (fun _ => rfl) rfl (by omega) rfl)) ?_
              refine wl_gv (want_y rfl rfl rfl rfl (by rw [hg8_10]; rfl)) (x_eql (tmI rfl rfl) (ev_cN 8)) ?_
              refine wl_gv (want_y rfl rfl rfl rfl (by rw [hg8_10]; rfl)) (x_move (tmB rfl rfl)) ?_
              refine gs_wl (tm (t := 50) rfl) (fun hg8_16 => ?_) (fun hg8_16 => ?_)
              · have hg8_16' := hg8_16; (try simp only [nrm] at hg8_16'); try (exfalso; first | with_reducible exact absurd hg8_16 Bool.false_ne_true | with_reducible exact absurd hg8_16.symm Bool.false_ne_true | omega | (simp at hg8_16; done))
                all_goals
                 refine wl_gv (want_y rfl rfl rfl rfl (by rw [hg8_16]; rfl)) (x_move (tmI rfl rfl)) ?_
                 refine wl_gv (want_y rfl rfl rfl rfl (by rw [hg8_16]; rfl)) (x_neq (tmI rfl rfl) (ev_cN 10)) ?_
                 refine wl_gv (want_y rfl rfl rfl rfl (by rw [hg8_10]; rfl)) (x_pickT (tmB rfl rfl) hg8_16 (tmB rfl rfl)) ?_
                 refine wl_v (x_pickF (tmB rfl rfl) hg8_10 (tmB rfl rfl)) ?_
                 refine wl_nil ?_
                 refine then_n (hK14 _ _ ?_); clear hK14 K14
                 refine cnd (tm rfl) (fun hc3 => ?_) (fun hc3 => ?_)
                 · try (exfalso; first | with_reducible exact absurd hc3 Bool.false_ne_true | with_reducible exact absurd hc3.symm Bool.false_ne_true | (simp only [nrm] at hc3; omega) | (simp at hc3; done))
                   all_goals
                    try simp only [nrm] at hc3
                    refine wp_seq_k ?_; intro K17 hK17
                    refine wlit ?_
                    refine wl_v (x_assign ev_c) ?_
                    refine wl_nil ?_
                    refine then_n (hK17 _ _ ?_); clear hK17 K17
                    refine wp_ret ?_
                    refine then_r ?_
                    refine inb_r ?_
                    refine then_r ?_
                    refine inb_r ?_
                    refine then_r ?_
                    refine ret1 rfl (.tmp rfl (show _ = Value.int _ _ from rfl)) ?_
                    have hu := stampsL_eq l p
                    have e1 : l.getD p 0 = nth l p := rfl
                    have e2 : l.getD (p + 1) 0 = nth l (p + 1) := rfl
                    refine ⟨?_, hS.kp⟩
                    rw [hst]
                    first
                      | (rw [if_neg (by omega)] at hu
                         rw [hu]; rfl)
                      | (rw [if_pos ⟨by omega, by omega⟩, if_neg (by omega), if_pos (by omega)] at hu
                         rw [hu]; rfl)
                      | (rw [if_pos ⟨by omega, by omega⟩, if_neg (by omega), if_neg (by omega), if_pos (by omega), if_neg (by omega)] at hu
                         rw [hu]; rfl)
                      | (rw [if_pos ⟨by omega, by omega⟩, if_neg (by omega), if_neg (by omega), if_pos (by omega), if_pos (by omega)] at hu
                         rw [hu]; rfl)
                 try (exfalso; first | with_reducible exact absurd hc3 Bool.false_ne_true | with_reducible exact absurd hc3.symm Bool.false_ne_true | (simp only [nrm] at hc3; omega) | (simp at hc3; done))
                 all_goals
                  try simp only [nrm] at hc3
                  refine wp_skip ?_
                  refine then_n (hK13 _ _ ?_); clear hK13 K13
                  refine wp_seq_k ?_; intro K18 hK18
                  refine wp_seq_k ?_; intro K19 hK19
                  refine wlit ?_
                  refine wl_v (x_move (tmS rfl rfl)) ?_
                  refine wl_v (x_move (tmI rfl rfl)) ?_
                  refine wl_v (x_ixs1 Try.underlying36 ts_5 (tmS rfl rfl) (tmI rfl rfl) (by omega)) ?_
                  first
                   | refine wl_v (x_load Try.underlying5 rfl (tmP rfl rfl) (cellV hS.ok 0 rfl rfl)) ?_
                   | refine wl_v (x_load Try.underlying5 rfl (tmP rfl rfl) (cellV hS.ok 0 rfl (getm (by omega)))) ?_
                   | refine wl_v (x_load Try.underlying5 rfl (tmP rfl rfl) (cellVs hS.ok 0 rfl (fun _ => rfl) rfl (by omega) rfl)) ?_
                  refine wl_v (x_eql (tmI rfl rfl) (ev_cN 8)) ?_
                  refine wl_nil ?_
                  refine then_n (hK19 _ _ ?_); clear hK19 K19
                  refine cnd (tm rfl) (fun hc4 => ?_) (fun hc4 => ?_)
                  · try (exfalso; first | with_reducible exact absurd hc4 Bool.false_ne_true | with_reducible exact absurd hc4.symm Bool.false_ne_true | (simp only [nrm] at hc4; omega) | (simp at hc4; done))
                    all_goals
                     try simp only [nrm] at hc4
                     refine wp_seq_k ?_; intro K20 hK20
                     refine wlit ?_
                     refine wl_v (x_move (tmI rfl rfl)) ?_
                     first
                      | refine wl_v (x_addN (tmI rfl rfl) (ev_cN 2) (fit_i64 (by omega))) ?_
                      | refine wl_v (x_addI (tmI rfl rfl) (ev_cN 2) (IntWalk.i64_in _ (by omega))) ?_
                      | refine wl_v (x_add (tmI rfl rfl) (ev_cN 2)) ?_
                     refine wl_v (x_assign (tmI rfl rfl)) ?_
                     refine wl_nil ?_
                     refine then_n (hK20 _ _ ?_); clear hK20 K20
                     refine wp_ret ?_
                     refine then_r ?_
                     refine inb_r ?_
                     refine then_r ?_
                     refine inb_r ?_
                     refine then_r ?_
                     refine ret1 rfl (.tmp rfl (show _ = Value.int _ _ from rfl)) ?_
                     have hu := stampsL_eq l p
                     have e1 : l.getD p 0 = nth l p := rfl
                     have e2 : l.getD (p + 1) 0 = nth l (p + 1) := rfl
                     refine ⟨?_, hS.kp⟩
                     rw [hst]
                     first
                       | (rw [if_neg (by omega)] at hu
                          rw [hu]; rfl)
                       | (rw [if_pos ⟨by omega, by omega⟩, if_neg (by omega), if_pos (by omega)] at hu
                          rw [hu]; rfl)
                       | (rw [if_pos ⟨by omega, by omega⟩, if_neg (by omega), if_neg (by omega), if_pos (by omega), if_neg (by omega)] at hu
                          rw [hu]; rfl)
                       | (rw [if_pos ⟨by omega, by omega⟩, if_neg (by omega), if_neg (by omega), if_pos (by omega), if_pos (by omega)] at hu
                          rw [hu]; rfl)
                  try (exfalso; first | with_reducible exact absurd hc4 Bool.false_ne_true | with_reducible exact absurd hc4.symm Bool.false_ne_true | (simp only [nrm] at hc4; omega) | (simp at hc4; done))
                  all_goals
                   try simp only [nrm] at hc4
                   have hx2 : stampsL l 0 = stampsL l (p + l.getD (p + 1) 0) := by rw [hst, hu, if_pos ⟨by omega, by omega⟩, if_neg (by omega), if_neg (by omega), if_neg (by omega)]; rfl
                   refine wp_skip ?_
                   refine then_n (hK18 _ _ ?_); clear hK18 K18
                   refine wlit ?_
                   refine wl_v (x_move (tmI rfl rfl)) ?_
                   refine wl_v (x_move (tmI rfl rfl)) ?_
                   first
                    | refine wl_v (x_addN (tmI rfl rfl) (tmI rfl rfl) (fit_i64 (by omega))) ?_
                    | refine wl_v (x_addI (tmI rfl rfl) (tmI rfl rfl) (IntWalk.i64_in _ (by omega))) ?_
                    | refine wl_v (x_add (tmI rfl rfl) (tmI rfl rfl)) ?_
                   refine wl_v (x_assign (tmI rfl rfl)) ?_
                   refine wl_nil ?_
                   refine inb_n ?_
                   first
                    | exact then_n ⟨_, _, rfl, (by show _ < _; omega), (by repeat (first | exact agree_self | exact agree_refl | refine agree_upd rfl ?_ | refine agree_mix rfl ?_)), p + 1, rfl, (by first | rfl | go_num | exact congrArg (Value.int _) (by first | omega | (simp; done) | (simp; omega))), hS, (by omega), (by first | rfl | exact hx1 | exact hx2)⟩
                    | exact then_n ⟨_, _, rfl, (by show _ < _; omega), (by repeat (first | exact agree_self | exact agree_refl | refine agree_upd rfl ?_ | refine agree_mix rfl ?_)), p + l.getD (p + 1) 0, rfl, (by first | rfl | go_num | exact congrArg (Value.int _) (by first | omega | (simp; done) | (simp; omega))), hS, (by omega), (by first | rfl | exact hx1 | exact hx2)⟩
              have hg8_16' := hg8_16; (try simp only [nrm] at hg8_16'); try (exfalso; first | with_reducible exact absurd hg8_16 Bool.false_ne_true | with_reducible exact absurd hg8_16.symm Bool.false_ne_true | omega | (simp at hg8_16; done))
              all_goals
               refine wl_s rfl (want_n rfl rfl rfl rfl (by rw [hg8_16]; rfl)) ?_
               refine wl_s rfl (want_n rfl rfl rfl rfl (by rw [hg8_16]; rfl)) ?_
               refine wl_gv (want_y rfl rfl rfl rfl (by rw [hg8_10]; rfl)) (x_pickF (tmB rfl rfl) hg8_16 ev_c) ?_
               refine wl_v (x_pickF (tmB rfl rfl) hg8_10 (tmB rfl rfl)) ?_
               refine wl_nil ?_
               refine then_n (hK14 _ _ ?_); clear hK14 K14
               refine cnd_f (tmB rfl rfl) rfl ?_
               refine wp_skip ?_
               refine then_n (hK13 _ _ ?_); clear hK13 K13
               refine wp_seq_k ?_; intro K21 hK21
               refine wp_seq_k ?_; intro K22 hK22
               refine wlit ?_
               refine wl_v (x_move (tmS rfl rfl)) ?_
               refine wl_v (x_move (tmI rfl rfl)) ?_
               refine wl_v (x_ixs1 Try.underlying36 ts_5 (tmS rfl rfl) (tmI rfl rfl) (by omega)) ?_
               first
                | refine wl_v (x_load Try.underlying5 rfl (tmP rfl rfl) (cellV hS.ok 0 rfl rfl)) ?_
                | refine wl_v (x_load Try.underlying5 rfl (tmP rfl rfl) (cellV hS.ok 0 rfl (getm (by omega)))) ?_
                | refine wl_v (x_load Try.underlying5 rfl (tmP rfl rfl) (cellVs hS.ok 0 rfl (fun _ => rfl) rfl (by omega) rfl)) ?_
               refine wl_v (x_eql (tmI rfl rfl) (ev_cN 8)) ?_
               refine wl_nil ?_
               refine then_n (hK22 _ _ ?_); clear hK22 K22
               refine cnd (tm rfl) (fun hc4 => ?_) (fun hc4 => ?_)
               · try (exfalso; first | with_reducible exact absurd hc4 Bool.false_ne_true | with_reducible exact absurd hc4.symm Bool.false_ne_true | (simp only [nrm] at hc4; omega) | (simp at hc4; done))
                 all_goals
                  try simp only [nrm] at hc4
                  refine wp_seq_k ?_; intro K23 hK23
                  refine wlit ?_
                  refine wl_v (x_move (tmI rfl rfl)) ?_
                  first
                   | refine wl_v (x_addN (tmI rfl rfl) (ev_cN 2) (fit_i64 (by omega))) ?_
                   | refine wl_v (x_addI (tmI rfl rfl) (ev_cN 2) (IntWalk.i64_in _ (by omega))) ?_
                   | refine wl_v (x_add (tmI rfl rfl) (ev_cN 2)) ?_
                  refine wl_v (x_assign (tmI rfl rfl)) ?_
                  refine wl_nil ?_
                  refine then_n (hK23 _ _ ?_); clear hK23 K23
                  refine wp_ret ?_
                  refine then_r ?_
                  refine inb_r ?_
                  refine then_r ?_
                  refine inb_r ?_
                  refine then_r ?_
                  refine ret1 rfl (.tmp rfl (show _ = Value.int _ _ from rfl)) ?_
                  have hu := stampsL_eq l p
                  have e1 : l.getD p 0 = nth l p := rfl
                  have e2 : l.getD (p + 1) 0 = nth l (p + 1) := rfl
                  refine ⟨?_, hS.kp⟩
                  rw [hst]
                  first
                    | (rw [if_neg (by omega)] at hu
                       rw [hu]; rfl)
                    | (rw [if_pos ⟨by omega, by omega⟩, if_neg (by omega), if_pos (by omega)] at hu
                       rw [hu]; rfl)
                    | (rw [if_pos ⟨by omega, by omega⟩, if_neg (by omega), if_neg (by omega), if_pos (by omega), if_neg (by omega)] at hu
                       rw [hu]; rfl)
                    | (rw [if_pos ⟨by omega, by omega⟩, if_neg (by omega), if_neg (by omega), if_pos (by omega), if_pos (by omega)] at hu
                       rw [hu]; rfl)
               try (exfalso; first | with_reducible exact absurd hc4 Bool.false_ne_true | with_reducible exact absurd hc4.symm Bool.false_ne_true | (simp only [nrm] at hc4; omega) | (simp at hc4; done))
               all_goals
                try simp only [nrm] at hc4
                have hx2 : stampsL l 0 = stampsL l (p + l.getD (p + 1) 0) := by rw [hst, hu, if_pos ⟨by omega, by omega⟩, if_neg (by omega), if_neg (by omega), if_neg (by omega)]; rfl
                refine wp_skip ?_
                refine then_n (hK21 _ _ ?_); clear hK21 K21
                refine wlit ?_
                refine wl_v (x_move (tmI rfl rfl)) ?_
                refine wl_v (x_move (tmI rfl rfl)) ?_
                first
                 | refine wl_v (x_addN (tmI rfl rfl) (tmI rfl rfl) (fit_i64 (by omega))) ?_
                 | refine wl_v (x_addI (tmI rfl rfl) (tmI rfl rfl) (IntWalk.i64_in _ (by omega))) ?_
                 | refine wl_v (x_add (tmI rfl rfl) (tmI rfl rfl)) ?_
                refine wl_v (x_assign (tmI rfl rfl)) ?_
                refine wl_nil ?_
                refine inb_n ?_
                first
                 | exact then_n ⟨_, _, rfl, (by show _ < _; omega), (by repeat (first | exact agree_self | exact agree_refl | refine agree_upd rfl ?_ | refine agree_mix rfl ?_)), p + 1, rfl, (by first | rfl | go_num | exact congrArg (Value.int _) (by first | omega | (simp; done) | (simp; omega))), hS, (by omega), (by first | rfl | exact hx1 | exact hx2)⟩
                 | exact then_n ⟨_, _, rfl, (by show _ < _; omega), (by repeat (first | exact agree_self | exact agree_refl | refine agree_upd rfl ?_ | refine agree_mix rfl ?_)), p + l.getD (p + 1) 0, rfl, (by first | rfl | go_num | exact congrArg (Value.int _) (by first | omega | (simp; done) | (simp; omega))), hS, (by omega), (by first | rfl | exact hx1 | exact hx2)⟩
       try (exfalso; first | with_reducible exact absurd hc0 Bool.false_ne_true | with_reducible exact absurd hc0.symm Bool.false_ne_true | (simp only [nrm] at hc0; omega) | (simp at hc0; done))
       all_goals
        try simp only [nrm] at hc0
        refine wp_exit ?_
        refine then_x ?_; clear hK4 K4
        refine then_x ?_
        refine inb_x ?_
        refine then_n (hK3 _ _ ?_); clear hK3 K3
        refine wp_seq_k ?_; intro K24 hK24
        refine wlit ?_
        refine wl_v (x_assign ev_c) ?_
        refine wl_nil ?_
        refine then_n (hK24 _ _ ?_); clear hK24 K24
        refine wp_ret ?_
        refine ret1 rfl (.tmp rfl (show _ = Value.int _ _ from rfl)) ?_
        have hu := stampsL_eq l p
        have e1 : l.getD p 0 = nth l p := rfl
        have e2 : l.getD (p + 1) 0 = nth l (p + 1) := rfl
        refine ⟨?_, hS.kp⟩
        rw [hst]
        first
          | (rw [if_neg (by omega)] at hu
             rw [hu]; rfl)
          | (rw [if_pos ⟨by omega, by omega⟩, if_neg (by omega), if_pos (by omega)] at hu
             rw [hu]; rfl)
          | (rw [if_pos ⟨by omega, by omega⟩, if_neg (by omega), if_neg (by omega), if_pos (by omega), if_neg (by omega)] at hu
             rw [hu]; rfl)
          | (rw [if_pos ⟨by omega, by omega⟩, if_neg (by omega), if_neg (by omega), if_pos (by omega), if_pos (by omega)] at hu
             rw [hu]; rfl)
    have hg2_4' := hg2_4; (try simp only [nrm] at hg2_4'); try (exfalso; first | with_reducible exact absurd hg2_4 Bool.false_ne_true | with_reducible exact absurd hg2_4.symm Bool.false_ne_true | omega | (simp at hg2_4; done))
    all_goals
     refine wl_s rfl (want_n rfl rfl rfl rfl (by rw [hg2_4]; rfl)) ?_
     refine wl_s rfl (want_n rfl rfl rfl rfl (by rw [hg2_4]; rfl)) ?_
     refine wl_s rfl (want_n rfl rfl rfl rfl (by rw [hg2_4]; rfl)) ?_
     refine wl_s rfl (want_n rfl rfl rfl rfl (by rw [hg2_4]; rfl)) ?_
     refine wl_s rfl (want_n rfl rfl rfl rfl (by rw [hg2_4]; rfl)) ?_
     refine wl_v (x_pickF (tmB rfl rfl) hg2_4 ev_c) ?_
     refine wl_nil ?_
     refine then_n (hK5 _ _ ?_); clear hK5 K5
     refine cnd_f (tmB rfl rfl) rfl ?_
     refine wp_exit ?_
     refine then_x ?_; clear hK4 K4
     refine then_x ?_
     refine inb_x ?_
     refine then_n (hK3 _ _ ?_); clear hK3 K3
     refine wp_seq_k ?_; intro K25 hK25
     refine wlit ?_
     refine wl_v (x_assign ev_c) ?_
     refine wl_nil ?_
     refine then_n (hK25 _ _ ?_); clear hK25 K25
     refine wp_ret ?_
     refine ret1 rfl (.tmp rfl (show _ = Value.int _ _ from rfl)) ?_
     have hu := stampsL_eq l p
     have e1 : l.getD p 0 = nth l p := rfl
     have e2 : l.getD (p + 1) 0 = nth l (p + 1) := rfl
     refine ⟨?_, hS.kp⟩
     rw [hst]
     first
       | (rw [if_neg (by omega)] at hu
          rw [hu]; rfl)
       | (rw [if_pos ⟨by omega, by omega⟩, if_neg (by omega), if_pos (by omega)] at hu
          rw [hu]; rfl)
       | (rw [if_pos ⟨by omega, by omega⟩, if_neg (by omega), if_neg (by omega), if_pos (by omega), if_neg (by omega)] at hu
          rw [hu]; rfl)
       | (rw [if_pos ⟨by omega, by omega⟩, if_neg (by omega), if_neg (by omega), if_pos (by omega), if_pos (by omega)] at hu
          rw [hu]; rfl)
set_option maxRecDepth 100000 in
set_option maxHeartbeats 4000000 in
theorem rstamps_none_c (n : Nat) (A : Option Addr) (c : Nat) (l : List Nat) (w0 : World) (hv : View w0 w0.heap.size A (l.map u8v)) (hl : l.length = n) (hb : Bytes l) (hn4 : n ≤ 900000) (h : stampsL l 0 = none) :
    Calls Try.prog 100 #[.slice A n c] w0 fun e w' => e = .returned (.int .i64 (-1)) ∧ Kp [] w0 w' := by
  have h2 := rstamps_c n A c l w0 hv hl hb hn4
  rw [h] at h2
  exact h2
set_option maxRecDepth 100000 in
set_option maxHeartbeats 4000000 in
theorem rstamps_some_c (n : Nat) (A : Option Addr) (c : Nat) (l : List Nat) (q : Nat) (w0 : World) (hv : View w0 w0.heap.size A (l.map u8v)) (hl : l.length = n) (hb : Bytes l) (hn4 : n ≤ 900000) (h : stampsL l 0 = some q) :
    Calls Try.prog 100 #[.slice A n c] w0 fun e w' => e = .returned (.int .i64 (q : Int)) ∧ Kp [] w0 w' := by
  have h2 := rstamps_c n A c l w0 hv hl hb hn4
  rw [h] at h2
  exact h2

set_option maxRecDepth 100000 in
set_option maxHeartbeats 4000000 in
theorem stamp_none_c (a1 a2 a3 a4 a5 a6 a7 a8 : Nat) (O : Option Addr) (m c : Nat) (L : Option Addr) (k d : Nat) (o : List Nat) (w0 : World) (hv : View w0 w0.heap.size O (o.map u8v)) (hl : o.length = m) (hb : Bytes o) (hn4 : m ≤ 900000) (h : stampsL o 0 = none) :
    Calls Try.prog 102 #[.agg (segV a1 a2 a3 a4 a5 a6 a7 a8 O m c L k d).toArray] w0 fun e w' => e = .returned (.tuple #[.int .u32 0, .int .u32 0, .bool false]) ∧ Kp [] w0 w' := by
  have hS := (St.sv w0).vcons rfl hv
  refine ent (n := 24) Try.func102 rfl rfl ?_
  refine wp_seq_k ?_; intro K1 hK1
  refine wlit ?_
  refine wl_e rfl ?_; intro K hK
  refine ow_box hS (tmA rfl rfl) rfl ?_
  clear hS; intro g0_0 w hg0_0 hS
  refine hK _ _ ?_; clear hK K
  refine wl_v (x_assign (ev_cN 0)) ?_
  refine wl_v (x_assign (ev_cN 0)) ?_
  refine wl_v (x_assign ev_c) ?_
  refine wl_nil ?_
  refine then_n (hK1 _ _ ?_); clear hK1 K1
  refine wp_seq_k ?_; intro K2 hK2
  refine wlit ?_
  refine wl_v (x_fa 8 Try.underlying186 rfl rfl ts_36 (tmP rfl rfl)) ?_
  first
   | refine wl_v (x_load Try.underlying36 rfl (tmP rfl rfl) (cellB hS.ok 0 rfl rfl)) ?_
   | refine wl_v (x_load Try.underlying36 rfl (tmP rfl rfl) (cellB hS.ok 0 rfl (getm (by omega)))) ?_
  refine wl_e rfl ?_; intro K hK
  refine ow_call Try.func99 rfl rfl (evs_cons (tmS rfl rfl) <| evs_nil) (stamps_none_c m O c o _ (viewV hS.ok 1 rfl) hl hb hn4 h) ?_
  rintro e w ⟨rfl, hk⟩
  refine ⟨_, rfl, ?_⟩
  replace hS := hS.kept hk
  clear hk
  refine hK _ _ ?_; clear hK K
  refine wl_v (x_move (tmT rfl rfl)) ?_
  refine wl_v (x_ext (tmT rfl rfl) rfl) ?_
  refine wl_v (x_ext (tmT rfl rfl) rfl) ?_
  refine wl_v (x_assign (tmI rfl rfl)) ?_
  refine wl_v (x_assign (tmB rfl rfl)) ?_
  refine wl_nil ?_
  refine then_n (hK2 _ _ ?_); clear hK2 K2
  refine wp_seq_k ?_; intro K3 hK3
  refine wp_seq_k ?_; intro K4 hK4
  refine wlit ?_
  refine wl_v (x_move (tmB rfl rfl)) ?_
  refine wl_v (x_not (tmB rfl rfl)) ?_
  refine wl_nil ?_
  refine then_n (hK4 _ _ ?_); clear hK4 K4
  refine cnds (tm rfl) (fun hc0 => ?_) (fun hc0 => ?_)
  · exfalso
    simp at hc0
  try (exfalso; first | with_reducible exact absurd hc0 Bool.false_ne_true | with_reducible exact absurd hc0.symm Bool.false_ne_true | (simp only [nrm] at hc0; omega) | (simp at hc0; done))
  all_goals
   try simp only [nrm] at hc0
   refine wp_seq_k ?_; intro K5 hK5
   refine wlit ?_
   refine wl_v (x_assign (ev_cN 0)) ?_
   refine wl_v (x_assign (ev_cN 0)) ?_
   refine wl_v (x_assign ev_c) ?_
   refine wl_nil ?_
   refine then_n (hK5 _ _ ?_); clear hK5 K5
   refine wp_ret ?_
   refine then_r ?_
   refine ret3 rfl (.tmp rfl (show _ = Value.int _ _ from rfl)) (.tmp rfl (show _ = Value.int _ _ from rfl)) (.tmp rfl (show _ = Value.bool _ from rfl)) ?_
   exact ⟨rfl, hS.kp⟩
set_option maxRecDepth 100000 in
set_option maxHeartbeats 4000000 in
theorem stamp_some_c (a1 a2 a3 a4 a5 a6 a7 a8 : Nat) (O : Option Addr) (m c : Nat) (L : Option Addr) (k d : Nat) (o : List Nat) (q : Nat) (w0 : World) (hv : View w0 w0.heap.size O (o.map u8v)) (hl : o.length = m) (hmc : m ≤ c) (hb : Bytes o) (hn4 : m ≤ 900000) (h : stampsL o 0 = some q) :
    Calls Try.prog 102 #[.agg (segV a1 a2 a3 a4 a5 a6 a7 a8 O m c L k d).toArray] w0 fun e w' => e = .returned (.tuple #[.int .u32 ((getN o q 4 : Nat) : Int), .int .u32 ((getN o (q + 4) 4 : Nat) : Int), .bool true]) ∧ Kp [] w0 w' := by
  have hS := (St.sv w0).vcons rfl hv
  have hq := stampsL_le h
  have hl2 : (o.drop q).length = m - q := by rw [List.length_drop, hl]
  have hb2 : Bytes (o.drop q) := hb.drop q
  refine ent (n := 24) Try.func102 rfl rfl ?_
  refine wp_seq_k ?_; intro K1 hK1
  refine wlit ?_
  refine wl_e rfl ?_; intro K hK
  refine ow_box hS (tmA rfl rfl) rfl ?_
  clear hS; intro g0_0 w hg0_0 hS
  refine hK _ _ ?_; clear hK K
  refine wl_v (x_assign (ev_cN 0)) ?_
  refine wl_v (x_assign (ev_cN 0)) ?_
  refine wl_v (x_assign ev_c) ?_
  refine wl_nil ?_
  refine then_n (hK1 _ _ ?_); clear hK1 K1
  refine wp_seq_k ?_; intro K2 hK2
  refine wlit ?_
  refine wl_v (x_fa 8 Try.underlying186 rfl rfl ts_36 (tmP rfl rfl)) ?_
  first
   | refine wl_v (x_load Try.underlying36 rfl (tmP rfl rfl) (cellB hS.ok 0 rfl rfl)) ?_
   | refine wl_v (x_load Try.underlying36 rfl (tmP rfl rfl) (cellB hS.ok 0 rfl (getm (by omega)))) ?_
  refine wl_e rfl ?_; intro K hK
  refine ow_call Try.func99 rfl rfl (evs_cons (tmS rfl rfl) <| evs_nil) (stamps_some_c m O c o q _ (viewV hS.ok 1 rfl) hl hb hn4 h) ?_
  rintro e w ⟨rfl, hk⟩
  refine ⟨_, rfl, ?_⟩
  replace hS := hS.kept hk
  clear hk
  refine hK _ _ ?_; clear hK K
  refine wl_v (x_move (tmT rfl rfl)) ?_
  refine wl_v (x_ext (tmT rfl rfl) rfl) ?_
  refine wl_v (x_ext (tmT rfl rfl) rfl) ?_
  refine wl_v (x_assign (tmI rfl rfl)) ?_
  refine wl_v (x_assign (tmB rfl rfl)) ?_
  refine wl_nil ?_
  refine then_n (hK2 _ _ ?_); clear hK2 K2
  refine wp_seq_k ?_; intro K3 hK3
  refine wp_seq_k ?_; intro K4 hK4
  refine wlit ?_
  refine wl_v (x_move (tmB rfl rfl)) ?_
  refine wl_v (x_not (tmB rfl rfl)) ?_
  refine wl_nil ?_
  refine then_n (hK4 _ _ ?_); clear hK4 K4
  refine cnd (tm rfl) (fun hc0 => ?_) (fun hc0 => ?_)
  · exfalso
    simp at hc0
  try (exfalso; first | with_reducible exact absurd hc0 Bool.false_ne_true | with_reducible exact absurd hc0.symm Bool.false_ne_true | (simp only [nrm] at hc0; omega) | (simp at hc0; done))
  all_goals
   try simp only [nrm] at hc0
   refine wp_skip ?_
   refine then_n (hK3 _ _ ?_); clear hK3 K3
   refine wp_seq_k ?_; intro K5 hK5
   refine wlit ?_
   refine wl_v (x_fa 8 Try.underlying186 rfl rfl ts_36 (tmP rfl rfl)) ?_
   first
    | refine wl_v (x_load Try.underlying36 rfl (tmP rfl rfl) (cellB hS.ok 0 rfl rfl)) ?_
    | refine wl_v (x_load Try.underlying36 rfl (tmP rfl rfl) (cellB hS.ok 0 rfl (getm (by omega)))) ?_
   refine wl_v (x_move (tmI rfl rfl)) ?_
   refine wl_v (x_sliceL Try.underlying36 ts_5 (tmS rfl rfl) (tmI rfl rfl) (by omega)) ?_
   replace hS := hS.dropb 1 q rfl (by omega : o.length ≤ c)
   refine wl_e rfl ?_; intro K hK
   refine ow_call Try.func121 rfl rfl (evs_cons (tmS rfl rfl) <| evs_nil) (read_c (m - q) _ (c - q) (o.drop q) _ (viewV hS.ok 0 rfl) hl2 (by omega)) ?_
   rintro e w ⟨gr, A0, rfl, hS2⟩
   refine ⟨_, rfl, ?_⟩
   replace hS := hS.adds hS2 rfl -- +gr,rowb
   clear hS2
   have hA : Off A0 0 (m - q) A0 := off_zero
   have hcp : m - q - 0 ≤ m - q := by omega
   refine hK _ _ ?_; clear hK K
   refine wl_v (x_assign (tmP rfl rfl)) ?_
   refine wl_nil ?_
   refine then_n (hK5 _ _ ?_); clear hK5 K5
   refine wp_seq_k ?_; intro K6 hK6
   refine wlit ?_
   refine wl_v (x_move (tmP rfl rfl)) ?_
   refine wl_e rfl ?_; intro K hK
   refine ow_call Try.func138 rfl rfl (evs_cons (tmP rfl rfl) <| evs_nil) (long_c gr A0 _ _ (m - q) _ (o.drop q) false _ _ (hS.enter [0] [1] rfl rfl) hA (by omega) hcp hl2 hb2) ?_
   rintro e w ⟨A1, c1, rfl, hS2, hA, hcp⟩
   refine ⟨_, rfl, ?_⟩
   replace hS := hS.turn 0 rfl rfl hS2 rfl
   clear hS2
   try replace hS := St.nm (M' := [_, .row _ _ _ _ _, .vw _ _, .blk _ _ [_, _, _, _, _, _, _, _, _, _], .vw _ _]) hS rfl
   refine hK _ _ ?_; clear hK K
   refine wl_v (x_move (tmP rfl rfl)) ?_
   refine wl_e rfl ?_; intro K hK
   refine ow_call Try.func138 rfl rfl (evs_cons (tmP rfl rfl) <| evs_nil) (long_c gr A0 _ _ (m - q) _ (o.drop q) false _ _ (hS.enter [0] [1] rfl rfl) hA (by omega) hcp hl2 hb2) ?_
   rintro e w ⟨A1, c1, rfl, hS2, hA, hcp⟩
   refine ⟨_, rfl, ?_⟩
   replace hS := hS.turn 0 rfl rfl hS2 rfl
   clear hS2
   try replace hS := St.nm (M' := [_, .row _ _ _ _ _, .vw _ _, .blk _ _ [_, _, _, _, _, _, _, _, _, _], .vw _ _]) hS rfl
   refine hK _ _ ?_; clear hK K
   refine wl_v (x_assign (tmI rfl rfl)) ?_
   refine wl_v (x_assign (tmI rfl rfl)) ?_
   refine wl_v (x_assign ev_c) ?_
   refine wl_nil ?_
   refine then_n (hK6 _ _ ?_); clear hK6 K6
   refine wp_ret ?_
   refine ret3 rfl (.tmp rfl (show _ = Value.int _ _ from rfl)) (.tmp rfl (show _ = Value.int _ _ from rfl)) (.tmp rfl (show _ = Value.bool _ from rfl)) ?_
   refine ⟨?_, hS.kp⟩
   rw [getN_drop0, getN_drop4]
set_option maxRecDepth 100000 in
set_option maxHeartbeats 4000000 in
theorem first_c (a1 a2 a3 a4 a5 a6 a7 a8 : Nat) (O : Option Addr) (m c : Nat) (L : Option Addr) (k d : Nat) (w0 : World) (q5 : a5 < 256) :
    Calls Try.prog 103 #[.agg (segV a1 a2 a3 a4 a5 a6 a7 a8 O m c L k d).toArray] w0 fun e w' => e = .returned (.bool (decide (((a5 &&& 23 : Nat) : Int) = ((2 : Nat) : Int)))) ∧ Kp [] w0 w' := by
  have hS := St.sv w0
  refine ent (n := 7) Try.func103 rfl rfl ?_
  refine wp_seq_k ?_; intro K1 hK1
  refine wlit ?_
  refine wl_e rfl ?_; intro K hK
  refine ow_box hS (tmA rfl rfl) rfl ?_
  clear hS; intro g0_0 w hg0_0 hS
  refine hK _ _ ?_; clear hK K
  refine wl_v (x_assign ev_c) ?_
  refine wl_nil ?_
  refine then_n (hK1 _ _ ?_); clear hK1 K1
  refine wp_seq_k ?_; intro K2 hK2
  refine wlit ?_
  refine wl_v (x_fa 4 Try.underlying186 rfl rfl ts_5 (tmP rfl rfl)) ?_
  first
   | refine wl_v (x_load Try.underlying5 rfl (tmP rfl rfl) (cellB hS.ok 0 rfl rfl)) ?_
   | refine wl_v (x_load Try.underlying5 rfl (tmP rfl rfl) (cellB hS.ok 0 rfl (getm (by omega)))) ?_
  refine wl_v (x_andN (tmI rfl rfl) (ev_cN 23) (fit_u8 (by omega)) (fit_u8 (by omega))) ?_
  refine wl_v (x_eql (tmI rfl rfl) (ev_cN 2)) ?_
  refine wl_v (x_assign (tmB rfl rfl)) ?_
  refine wl_nil ?_
  refine then_n (hK2 _ _ ?_); clear hK2 K2
  refine wp_ret ?_
  refine ret1 rfl (.tmp rfl (show _ = Value.bool _ from rfl)) ?_
  exact ⟨rfl, hS.kp⟩
set_option maxRecDepth 100000 in
set_option maxHeartbeats 4000000 in
theorem light06_c (a1 a2 a3 a4 a5 a6 a7 a8 : Nat) (O : Option Addr) (m c : Nat) (L : Option Addr) (k d : Nat) (w0 : World) :
    Calls Try.prog 97 #[.agg (segV a1 a2 a3 a4 a5 a6 a7 a8 O m c L k d).toArray] w0 fun e w' => e = .returned (.bool (decide (m ≤ 200 ∧ k ≤ 2000))) ∧ Kp [] w0 w' := by
  have hS := St.sv w0
  refine ent (n := 13) Try.func97 rfl rfl ?_
  refine wp_seq_k ?_; intro K1 hK1
  refine wlit ?_
  refine wl_e rfl ?_; intro K hK
  refine ow_box hS (tmA rfl rfl) rfl ?_
  clear hS; intro g0_0 w hg0_0 hS
  refine hK _ _ ?_; clear hK K
  refine wl_v (x_assign ev_c) ?_
  refine wl_nil ?_
  refine then_n (hK1 _ _ ?_); clear hK1 K1
  refine wp_seq_k ?_; intro K2 hK2
  refine wlit ?_
  refine wl_v (x_fa 8 Try.underlying180 rfl rfl ts_36 (tmP rfl rfl)) ?_
  first
   | refine wl_v (x_load Try.underlying36 rfl (tmP rfl rfl) (cellB hS.ok 0 rfl rfl)) ?_
   | refine wl_v (x_load Try.underlying36 rfl (tmP rfl rfl) (cellB hS.ok 0 rfl (getm (by omega)))) ?_
  refine wl_v (x_len Try.underlying36 (tmS rfl rfl)) ?_
  refine wl_v (x_leq (tmI rfl rfl) (ev_cN 200)) ?_
  refine wl_v (x_move (tmB rfl rfl)) ?_
  refine gs_wl (tm (t := 7) rfl) (fun hg1_4 => ?_) (fun hg1_4 => ?_)
  · have hg1_4' := hg1_4; (try simp only [nrm] at hg1_4'); try (exfalso; first | with_reducible exact absurd hg1_4 Bool.false_ne_true | with_reducible exact absurd hg1_4.symm Bool.false_ne_true | omega | (simp at hg1_4; done))
    all_goals
     refine wl_gv (want_y rfl rfl rfl rfl (by rw [hg1_4]; rfl)) (x_fa 9 Try.underlying180 rfl rfl ts_36 (tmP rfl rfl)) ?_
     first
      | refine wl_gv (want_y rfl rfl rfl rfl (by rw [hg1_4]; rfl)) (x_load Try.underlying36 rfl (tmP rfl rfl) (cellB hS.ok 0 rfl rfl)) ?_
      | refine wl_gv (want_y rfl rfl rfl rfl (by rw [hg1_4]; rfl)) (x_load Try.underlying36 rfl (tmP rfl rfl) (cellB hS.ok 0 rfl (getm (by omega)))) ?_
     refine wl_gv (want_y rfl rfl rfl rfl (by rw [hg1_4]; rfl)) (x_len Try.underlying36 (tmS rfl rfl)) ?_
     refine wl_gv (want_y rfl rfl rfl rfl (by rw [hg1_4]; rfl)) (x_leq (tmI rfl rfl) (ev_cN 2000)) ?_
     refine wl_v (x_pickT (tmB rfl rfl) hg1_4 (tmB rfl rfl)) ?_
     refine wl_v (x_assign (tmB rfl rfl)) ?_
     refine wl_nil ?_
     refine then_n (hK2 _ _ ?_); clear hK2 K2
     refine wp_ret ?_
     refine ret1 rfl (.tmp rfl (show _ = Value.bool _ from rfl)) ?_
     refine ⟨?_, hS.kp⟩
     congr 2
     first
       | (symm; apply decide_eq_false; omega)
       | (apply decide_eq_decide.2; omega)
  have hg1_4' := hg1_4; (try simp only [nrm] at hg1_4'); try (exfalso; first | with_reducible exact absurd hg1_4 Bool.false_ne_true | with_reducible exact absurd hg1_4.symm Bool.false_ne_true | omega | (simp at hg1_4; done))
  all_goals
   refine wl_s rfl (want_n rfl rfl rfl rfl (by rw [hg1_4]; rfl)) ?_
   refine wl_s rfl (want_n rfl rfl rfl rfl (by rw [hg1_4]; rfl)) ?_
   refine wl_s rfl (want_n rfl rfl rfl rfl (by rw [hg1_4]; rfl)) ?_
   refine wl_s rfl (want_n rfl rfl rfl rfl (by rw [hg1_4]; rfl)) ?_
   refine wl_v (x_pickF (tmB rfl rfl) hg1_4 ev_c) ?_
   refine wl_v (x_assign (tmB rfl rfl)) ?_
   refine wl_nil ?_
   refine then_n (hK2 _ _ ?_); clear hK2 K2
   refine wp_ret ?_
   refine ret1 rfl (.tmp rfl (show _ = Value.bool _ from rfl)) ?_
   refine ⟨?_, hS.kp⟩
   congr 2
   first
     | (symm; apply decide_eq_false; omega)
     | (apply decide_eq_decide.2; omega)
namespace TcpStamps
set_option maxRecDepth 100000 in
set_option maxHeartbeats 8000000 in
theorem walkC (a1 a2 a3 a4 a5 a6 a7 a8 : Nat) (O : Option Addr) (c : Nat) (L : Option Addr) (d : Nat) (o x : List Nat) (w0 : World) (q5 : a5 < 256) (hoc : o.length ≤ c) (hob : Bytes o) (hov : View w0 w0.heap.size O (o.map u8v)) (hxv : View w0 w0.heap.size L (x.map u8v)) :
    Calls Try.prog 18 #[.agg (segV a1 a2 a3 a4 a5 a6 a7 a8 O o.length c L x.length d).toArray] w0 fun e w' => e = .returned (.bool true) ∧ Below w0.heap.size w0 w' := by
  have hS := ((St.sv w0).vcons rfl hov).vcons rfl hxv
  by_cases hm : o.length ≤ 200 ∧ x.length ≤ 2000
  · obtain ⟨hm1, hm2⟩ := hm
    rcases hst : stampsL o 0 with _ | q
    · skip
      refine ent (n := 95) Try.func18 rfl rfl ?_
      refine wp_seq_k ?_; intro K1 hK1
      refine wlit ?_
      refine wl_e rfl ?_; intro K hK
      refine ow_box hS (tmA rfl rfl) rfl ?_
      clear hS; intro g0_0 w hg0_0 hS
      refine hK _ _ ?_; clear hK K
      refine wl_v (x_assign ev_c) ?_
      refine wl_nil ?_
      refine then_n (hK1 _ _ ?_); clear hK1 K1
      refine wp_seq_k ?_; intro K2 hK2
      refine wp_seq_k ?_; intro K3 hK3
      refine wlit ?_
      refine wl_v (x_loadA (cs := [_, _, _, _, _, _, _, _, _, _]) Try.underlying180 rfl ts_180 (tmP rfl rfl) (rangeB hS.ok 0 rfl rfl)) ?_
      refine wl_e rfl ?_; intro K hK
      refine ow_call Try.func97 rfl rfl (evs_cons (tmA rfl rfl) <| evs_nil) (light06_c _ _ _ _ _ _ _ _ _ _ _ _ _ _ _) ?_
      rintro e w ⟨rfl, hk⟩
      refine ⟨_, rfl, ?_⟩
      replace hS := hS.kept hk
      clear hk
      refine hK _ _ ?_; clear hK K
      refine wl_v (x_not (tmB rfl rfl)) ?_
      refine wl_nil ?_
      refine then_n (hK3 _ _ ?_); clear hK3 K3
      refine cnd (tm rfl) (fun hc0 => ?_) (fun hc0 => ?_)
      · exfalso
        simp at hc0
        omega
      try (exfalso; first | with_reducible exact absurd hc0 Bool.false_ne_true | with_reducible exact absurd hc0.symm Bool.false_ne_true | (simp only [nrm] at hc0; omega) | (simp at hc0; done))
      all_goals
       try simp only [nrm] at hc0
       refine wp_skip ?_
       refine then_n (hK2 _ _ ?_); clear hK2 K2
       refine wp_seq_k ?_; intro K4 hK4
       refine wlit ?_
       refine wl_v (x_fa 8 Try.underlying180 rfl rfl ts_36 (tmP rfl rfl)) ?_
       first
        | refine wl_v (x_load Try.underlying36 rfl (tmP rfl rfl) (cellB hS.ok 0 rfl rfl)) ?_
        | refine wl_v (x_load Try.underlying36 rfl (tmP rfl rfl) (cellB hS.ok 0 rfl (getm (by omega)))) ?_
       refine wl_e rfl ?_; intro K hK
       refine ow_call Try.func99 rfl rfl (evs_cons (tmS rfl rfl) <| evs_nil) (stamps_none_c o.length O c o _ (viewV hS.ok 2 rfl) rfl hob (by omega) hst) ?_
       rintro e w ⟨rfl, hk⟩
       refine ⟨_, rfl, ?_⟩
       replace hS := hS.kept hk
       clear hk
       refine hK _ _ ?_; clear hK K
       refine wl_v (x_move (tmT rfl rfl)) ?_
       refine wl_v (x_ext (tmT rfl rfl) rfl) ?_
       refine wl_v (x_ext (tmT rfl rfl) rfl) ?_
       refine wl_v (x_assign (tmI rfl rfl)) ?_
       refine wl_v (x_assign (tmB rfl rfl)) ?_
       refine wl_nil ?_
       refine then_n (hK4 _ _ ?_); clear hK4 K4
       refine wp_seq_k ?_; intro K5 hK5
       refine wlit ?_
       refine wl_v (x_fa 8 Try.underlying180 rfl rfl ts_36 (tmP rfl rfl)) ?_
       first
        | refine wl_v (x_load Try.underlying36 rfl (tmP rfl rfl) (cellB hS.ok 0 rfl rfl)) ?_
        | refine wl_v (x_load Try.underlying36 rfl (tmP rfl rfl) (cellB hS.ok 0 rfl (getm (by omega)))) ?_
       refine wl_e rfl ?_; intro K hK
       refine ow_call Try.func100 rfl rfl (evs_cons (tmS rfl rfl) <| evs_nil) (rstamps_none_c o.length O c o _ (viewV hS.ok 2 rfl) rfl hob (by omega) hst) ?_
       rintro e w ⟨rfl, hk⟩
       refine ⟨_, rfl, ?_⟩
       replace hS := hS.kept hk
       clear hk
       refine hK _ _ ?_; clear hK K
       refine wl_v (x_assign (tmI rfl rfl)) ?_
       refine wl_nil ?_
       refine then_n (hK5 _ _ ?_); clear hK5 K5
       refine wp_seq_k ?_; intro K6 hK6
       refine wlit ?_
       refine wl_v (x_loadA (cs := [_, _, _, _, _, _, _, _, _, _]) Try.underlying180 rfl ts_180 (tmP rfl rfl) (rangeB hS.ok 0 rfl rfl)) ?_
       refine wl_e rfl ?_; intro K hK
       refine ow_call Try.func101 rfl rfl (evs_cons (tmA rfl rfl) <| evs_nil) (to06_c _ _ _ _ _ _ _ _ _ _ _ _ _ _ _) ?_
       rintro e w ⟨rfl, hk⟩
       refine ⟨_, rfl, ?_⟩
       replace hS := hS.kept hk
       clear hk
       refine hK _ _ ?_; clear hK K
       refine wl_e rfl ?_; intro K hK
       refine ow_call Try.func102 rfl rfl (evs_cons (tmA rfl rfl) <| evs_nil) (stamp_none_c a1 a2 a3 a4 a5 a6 a7 a8 O o.length c L x.length d o _ (viewV hS.ok 2 rfl) rfl hob (by omega) hst) ?_
       rintro e w ⟨rfl, hk⟩
       refine ⟨_, rfl, ?_⟩
       replace hS := hS.kept hk
       clear hk
       refine hK _ _ ?_; clear hK K
       refine wl_v (x_move (tmT rfl rfl)) ?_
       refine wl_v (x_ext (tmT rfl rfl) rfl) ?_
       refine wl_v (x_ext (tmT rfl rfl) rfl) ?_
       refine wl_v (x_ext (tmT rfl rfl) rfl) ?_
       refine wl_v (x_assign (tmI rfl rfl)) ?_
       refine wl_v (x_assign (tmI rfl rfl)) ?_
       refine wl_v (x_assign (tmB rfl rfl)) ?_
       refine wl_nil ?_
       refine then_n (hK6 _ _ ?_); clear hK6 K6
       refine wp_seq_k ?_; intro K7 hK7
       refine wp_seq_k ?_; intro K8 hK8
       refine rg_startk 0 hS mixed_ ?_
       clear hS; intro w hS
       refine rg_take 0 rfl rfl (by kernel_rfl) (by kernel_rfl) (by kernel_rfl) (want_0) (fun w hok => x_move (tmB rfl rfl)) ?_
       refine rg_take 1 rfl rfl (by kernel_rfl) (by kernel_rfl) (by kernel_rfl) (want_0) (fun w hok => x_move (tmI rfl rfl)) ?_
       refine rg_take 2 rfl rfl (by kernel_rfl) (by kernel_rfl) (by kernel_rfl) (want_0) (fun w hok => x_geq (tmI rfl rfl) (ev_cN 0)) ?_
       refine rg_take 3 rfl rfl (by kernel_rfl) (by kernel_rfl) (by kernel_rfl) (want_0) (fun w hok => x_bneq Try.underlying4 (tmB rfl rfl) (tmB rfl rfl)) ?_
       refine rg_take 4 rfl rfl (by kernel_rfl) (by kernel_rfl) (by kernel_rfl) (want_0) (fun w hok => x_move (tmB rfl rfl)) ?_
       refine gs_rg (tm (t := 33) rfl) (fun hg6_4 => ?_) (fun hg6_4 => ?_)
       · exfalso
         simp at hg6_4
       have hg6_4' := hg6_4; (try simp only [nrm] at hg6_4'); try (exfalso; first | with_reducible exact absurd hg6_4 Bool.false_ne_true | with_reducible exact absurd hg6_4.symm Bool.false_ne_true | omega | (simp at hg6_4; done))
       all_goals
        refine rg_take 5 rfl rfl (by kernel_rfl) (by kernel_rfl) (by kernel_rfl) (want_y rfl rfl rfl rfl (by rw [hg6_4]; rfl)) (fun w hok => x_move (tmB rfl rfl)) ?_
        refine rg_take 6 rfl rfl (by kernel_rfl) (by kernel_rfl) (by kernel_rfl) (want_y rfl rfl rfl rfl (by rw [hg6_4]; rfl)) (fun w hok => x_move (tmB rfl rfl)) ?_
        refine rg_take 7 rfl rfl (by kernel_rfl) (by kernel_rfl) (by kernel_rfl) (want_y rfl rfl rfl rfl (by rw [hg6_4]; rfl)) (fun w hok => x_bneq Try.underlying4 (tmB rfl rfl) (tmB rfl rfl)) ?_
        refine rg_take 8 rfl rfl (by kernel_rfl) (by kernel_rfl) (by kernel_rfl) (want_0) (fun w hok => x_pickF (tmB rfl rfl) hg6_4 (tmB rfl rfl)) ?_
        refine rg_take 9 rfl rfl (by kernel_rfl) (by kernel_rfl) (by kernel_rfl) (want_0) (fun w hok => x_move (tmB rfl rfl)) ?_
        refine gs_rg (tm (t := 38) rfl) (fun hg6_9 => ?_) (fun hg6_9 => ?_)
        · exfalso
          simp at hg6_9
        have hg6_9' := hg6_9; (try simp only [nrm] at hg6_9'); try (exfalso; first | with_reducible exact absurd hg6_9 Bool.false_ne_true | with_reducible exact absurd hg6_9.symm Bool.false_ne_true | omega | (simp at hg6_9; done))
        all_goals
         refine rg_take 10 rfl rfl (by kernel_rfl) (by kernel_rfl) (by kernel_rfl) (want_y rfl rfl rfl rfl (by rw [hg6_9]; rfl)) (fun w hok => x_move (tmB rfl rfl)) ?_
         refine rg_take 11 rfl rfl (by kernel_rfl) (by kernel_rfl) (by kernel_rfl) (want_y rfl rfl rfl rfl (by rw [hg6_9]; rfl)) (fun w hok => x_move (tmB rfl rfl)) ?_
         refine gs_rg (tm (t := 40) rfl) (fun hg6_11 => ?_) (fun hg6_11 => ?_)
         · exfalso
           simp at hg6_11
         have hg6_11' := hg6_11; (try simp only [nrm] at hg6_11'); try (exfalso; first | with_reducible exact absurd hg6_11 Bool.false_ne_true | with_reducible exact absurd hg6_11.symm Bool.false_ne_true | omega | (simp at hg6_11; done))
         all_goals
          refine rg_skip 12 rfl rfl (by kernel_rfl) (by kernel_rfl) (by kernel_rfl) (want_n rfl rfl rfl rfl (by rw [hg6_11]; rfl)) ?_
          refine rg_skip 13 rfl rfl (by kernel_rfl) (by kernel_rfl) (by kernel_rfl) (want_n rfl rfl rfl rfl (by rw [hg6_11]; rfl)) ?_
          refine rg_skip 14 rfl rfl (by kernel_rfl) (by kernel_rfl) (by kernel_rfl) (want_n rfl rfl rfl rfl (by rw [hg6_11]; rfl)) ?_
          refine rg_take 15 rfl rfl (by kernel_rfl) (by kernel_rfl) (by kernel_rfl) (want_y rfl rfl rfl rfl (by rw [hg6_9]; rfl)) (fun w hok => x_pickF (tmB rfl rfl) hg6_11 ev_c) ?_
          refine rg_take 16 rfl rfl (by kernel_rfl) (by kernel_rfl) (by kernel_rfl) (want_0) (fun w hok => x_pickF (tmB rfl rfl) hg6_9 (tmB rfl rfl)) ?_
          refine rg_take 17 rfl rfl (by kernel_rfl) (by kernel_rfl) (by kernel_rfl) (want_0) (fun w hok => x_move (tmB rfl rfl)) ?_
          refine rg_take 18 rfl rfl (by kernel_rfl) (by kernel_rfl) (by kernel_rfl) (want_y rfl rfl rfl rfl rfl) (fun w hok => x_move (tmB rfl rfl)) ?_
          refine rg_take 19 rfl rfl (by kernel_rfl) (by kernel_rfl) (by kernel_rfl) (want_y rfl rfl rfl rfl rfl) (fun w hok => x_not (tmB rfl rfl)) ?_
          refine rg_take 20 rfl rfl (by kernel_rfl) (by kernel_rfl) (by kernel_rfl) (want_y rfl rfl rfl rfl rfl) (fun w hok => x_move (tmB rfl rfl)) ?_
          refine gs_rgs (tm (t := 49) rfl) (fun hg6_20 => ?_) (fun hg6_20 => ?_)
          · exfalso
            simp at hg6_20
          have hg6_20' := hg6_20; (try simp only [nrm] at hg6_20'); try (exfalso; first | with_reducible exact absurd hg6_20 Bool.false_ne_true | with_reducible exact absurd hg6_20.symm Bool.false_ne_true | omega | (simp at hg6_20; done))
          all_goals
           refine rg_take 21 rfl rfl (by kernel_rfl) (by kernel_rfl) (by kernel_rfl) (want_y rfl rfl rfl rfl (by rw [hg6_20]; rfl)) (fun w hok => x_move (tmI rfl rfl)) ?_
           refine rg_take 22 rfl rfl (by kernel_rfl) (by kernel_rfl) (by kernel_rfl) (want_y rfl rfl rfl rfl (by rw [hg6_20]; rfl)) (fun w hok => x_neq (tmI rfl rfl) (ev_cN 0)) ?_
           refine rg_take 23 rfl rfl (by kernel_rfl) (by kernel_rfl) (by kernel_rfl) (want_y rfl rfl rfl rfl rfl) (fun w hok => x_pickT (tmB rfl rfl) hg6_20 (tmB rfl rfl)) ?_
           refine rg_take 24 rfl rfl (by kernel_rfl) (by kernel_rfl) (by kernel_rfl) (want_0) (fun w hok => x_pickF (tmB rfl rfl) rfl (tmB rfl rfl)) ?_
           refine rg_take 25 rfl rfl (by kernel_rfl) (by kernel_rfl) (by kernel_rfl) (want_0) (fun w hok => x_move (tmB rfl rfl)) ?_
           refine gs_rg (tm (t := 54) rfl) (fun hg6_25 => ?_) (fun hg6_25 => ?_)
           · exfalso
             simp at hg6_25
           have hg6_25' := hg6_25; (try simp only [nrm] at hg6_25'); try (exfalso; first | with_reducible exact absurd hg6_25 Bool.false_ne_true | with_reducible exact absurd hg6_25.symm Bool.false_ne_true | omega | (simp at hg6_25; done))
           all_goals
            refine rg_take 26 rfl rfl (by kernel_rfl) (by kernel_rfl) (by kernel_rfl) (want_y rfl rfl rfl rfl (by rw [hg6_25]; rfl)) (fun w hok => x_loadA (cs := [_, _, _, _, _, _, _, _, _, _]) Try.underlying180 rfl ts_180 (tmP rfl rfl) (rangeB hok 0 rfl rfl)) ?_
            refine rg_take 29 rfl rfl (by kernel_rfl) (by kernel_rfl) (by kernel_rfl) (want_y rfl rfl rfl rfl (by rw [hg6_25]; rfl)) (fun w hok => x_fa 4 Try.underlying180 rfl rfl ts_5 (tmP rfl rfl)) ?_
            first
             | refine rg_take 30 rfl rfl (by kernel_rfl) (by kernel_rfl) (by kernel_rfl) (want_y rfl rfl rfl rfl (by rw [hg6_25]; rfl)) (fun w hok => x_load Try.underlying5 rfl (tmP rfl rfl) (cellB hok 0 rfl rfl)) ?_
             | refine rg_take 30 rfl rfl (by kernel_rfl) (by kernel_rfl) (by kernel_rfl) (want_y rfl rfl rfl rfl (by rw [hg6_25]; rfl)) (fun w hok => x_load Try.underlying5 rfl (tmP rfl rfl) (cellB hok 0 rfl (getm (by omega)))) ?_
            refine rg_take 31 rfl rfl (by kernel_rfl) (by kernel_rfl) (by kernel_rfl) (want_y rfl rfl rfl rfl (by rw [hg6_25]; rfl)) (fun w hok => x_andN (tmI rfl rfl) (ev_cN 23) (fit_u8 (by omega)) (fit_u8 (by omega))) ?_
            refine rg_take 32 rfl rfl (by kernel_rfl) (by kernel_rfl) (by kernel_rfl) (want_y rfl rfl rfl rfl (by rw [hg6_25]; rfl)) (fun w hok => x_eql (tmI rfl rfl) (ev_cN 2)) ?_
            refine rg_step 27 rfl (by kernel_rfl) (want_y rfl rfl rfl rfl (by rw [hg6_25]; rfl)) (oks_drop hS 0 rfl) ?_; intro K hK
            refine ow_call Try.func101 rfl rfl (evs_cons (tmA rfl rfl) <| evs_nil) (to06_c _ _ _ _ _ _ _ _ _ _ _ _ _ _ _) ?_
            rintro e w ⟨rfl, hk⟩
            refine ⟨_, rfl, ?_⟩
            replace hS := hS.kept hk
            clear hk
            refine hK _ _ ?_; clear hK K
            refine rg_step 28 rfl (by kernel_rfl) (want_y rfl rfl rfl rfl (by rw [hg6_25]; rfl)) (oks_drop hS 0 rfl) ?_; intro K hK
            refine ow_call Try.func103 rfl rfl (evs_cons (tmA rfl rfl) <| evs_nil) (first_c _ _ _ _ _ _ _ _ _ _ _ _ _ _ _ q5) ?_
            rintro e w ⟨rfl, hk⟩
            refine ⟨_, rfl, ?_⟩
            replace hS := hS.kept hk
            clear hk
            refine hK _ _ ?_; clear hK K
            refine rg_take 33 rfl rfl (by kernel_rfl) (by kernel_rfl) (by kernel_rfl) (want_y rfl rfl rfl rfl (by rw [hg6_25]; rfl)) (fun w hok => x_bneq Try.underlying4 (tmB rfl rfl) (tmB rfl rfl)) ?_
            refine rg_take 34 rfl rfl (by kernel_rfl) (by kernel_rfl) (by kernel_rfl) (want_0) (fun w hok => x_pickF (tmB rfl rfl) hg6_25 (tmB rfl rfl)) ?_
            refine rg_done (oks_drop hS 0 rfl) (by kernel_rfl) ?_
            refine then_n (hK8 _ _ ?_); clear hK8 K8
            refine cnd (tm rfl) (fun hc1 => ?_) (fun hc1 => ?_)
            · exfalso
              simp at hc1
            try (exfalso; first | with_reducible exact absurd hc1 Bool.false_ne_true | with_reducible exact absurd hc1.symm Bool.false_ne_true | (simp only [nrm] at hc1; omega) | (simp at hc1; done))
            all_goals
             try simp only [nrm] at hc1
             refine wp_skip ?_
             refine then_n (hK7 _ _ ?_); clear hK7 K7
             refine wp_seq_k ?_; intro K9 hK9
             refine wp_seq_k ?_; intro K10 hK10
             refine wlit ?_
             refine wl_v (x_move (tmB rfl rfl)) ?_
             refine wl_v (x_not (tmB rfl rfl)) ?_
             refine wl_nil ?_
             refine then_n (hK10 _ _ ?_); clear hK10 K10
             refine cnds (tm rfl) (fun hc2 => ?_) (fun hc2 => ?_)
             · exfalso
               simp at hc2
             try (exfalso; first | with_reducible exact absurd hc2 Bool.false_ne_true | with_reducible exact absurd hc2.symm Bool.false_ne_true | (simp only [nrm] at hc2; omega) | (simp at hc2; done))
             all_goals
              try simp only [nrm] at hc2
              refine wp_seq_k ?_; intro K11 hK11
              refine wlit ?_
              refine wl_v (x_move (tmI rfl rfl)) ?_
              refine wl_v (x_eql (tmI rfl rfl) (ev_cN 0)) ?_
              refine wl_v (x_move (tmB rfl rfl)) ?_
              refine gs_wl (tm (t := 68) rfl) (fun hg9_2 => ?_) (fun hg9_2 => ?_)
              · have hg9_2' := hg9_2; (try simp only [nrm] at hg9_2'); try (exfalso; first | with_reducible exact absurd hg9_2 Bool.false_ne_true | with_reducible exact absurd hg9_2.symm Bool.false_ne_true | omega | (simp at hg9_2; done))
                all_goals
                 refine wl_gv (want_y rfl rfl rfl rfl (by rw [hg9_2]; rfl)) (x_move (tmI rfl rfl)) ?_
                 refine wl_gv (want_y rfl rfl rfl rfl (by rw [hg9_2]; rfl)) (x_eql (tmI rfl rfl) (ev_cN 0)) ?_
                 refine wl_v (x_pickT (tmB rfl rfl) hg9_2 (tmB rfl rfl)) ?_
                 refine wl_v (x_move (tmB rfl rfl)) ?_
                 refine gs_wl (tm (t := 72) rfl) (fun hg9_6 => ?_) (fun hg9_6 => ?_)
                 · have hg9_6' := hg9_6; (try simp only [nrm] at hg9_6'); try (exfalso; first | with_reducible exact absurd hg9_6 Bool.false_ne_true | with_reducible exact absurd hg9_6.symm Bool.false_ne_true | omega | (simp at hg9_6; done))
                   all_goals
                    refine wl_g (want_y rfl rfl rfl rfl (by rw [hg9_6]; rfl)) ?_; intro K hK
                    refine ow_call Try.func98 rfl rfl (evs_nil) (law06_awake_c _) ?_
                    rintro e w ⟨rfl, hk⟩
                    refine ⟨_, rfl, ?_⟩
                    replace hS := hS.kept hk
                    clear hk
                    refine hK _ _ ?_; clear hK K
                    refine wl_v (x_pickT (tmB rfl rfl) hg9_6 (tmB rfl rfl)) ?_
                    refine wl_v (x_assign (tmB rfl rfl)) ?_
                    refine wl_nil ?_
                    refine then_n (hK11 _ _ ?_); clear hK11 K11
                    refine wp_ret ?_
                    refine then_r ?_
                    refine ret1 rfl (.tmp rfl (show _ = Value.bool _ from rfl)) ?_
                    exact ⟨rfl, hS.kp.below⟩
                 have hg9_6' := hg9_6; (try simp only [nrm] at hg9_6'); try (exfalso; first | with_reducible exact absurd hg9_6 Bool.false_ne_true | with_reducible exact absurd hg9_6.symm Bool.false_ne_true | omega | (simp at hg9_6; done))
                 all_goals
                  refine wl_s rfl (want_n rfl rfl rfl rfl (by rw [hg9_6]; rfl)) ?_
                  refine wl_v (x_pickF (tmB rfl rfl) hg9_6 ev_c) ?_
                  refine wl_v (x_assign (tmB rfl rfl)) ?_
                  refine wl_nil ?_
                  refine then_n (hK11 _ _ ?_); clear hK11 K11
                  refine wp_ret ?_
                  refine then_r ?_
                  refine ret1 rfl (.tmp rfl (show _ = Value.bool _ from rfl)) ?_
                  exact ⟨rfl, hS.kp.below⟩
              have hg9_2' := hg9_2; (try simp only [nrm] at hg9_2'); try (exfalso; first | with_reducible exact absurd hg9_2 Bool.false_ne_true | with_reducible exact absurd hg9_2.symm Bool.false_ne_true | omega | (simp at hg9_2; done))
              all_goals
               refine wl_s rfl (want_n rfl rfl rfl rfl (by rw [hg9_2]; rfl)) ?_
               refine wl_s rfl (want_n rfl rfl rfl rfl (by rw [hg9_2]; rfl)) ?_
               refine wl_v (x_pickF (tmB rfl rfl) hg9_2 ev_c) ?_
               refine wl_v (x_move (tmB rfl rfl)) ?_
               refine wl_s rfl (want_n rfl rfl rfl rfl rfl) ?_
               refine wl_v (x_pickF (tmB rfl rfl) rfl ev_c) ?_
               refine wl_v (x_assign (tmB rfl rfl)) ?_
               refine wl_nil ?_
               refine then_n (hK11 _ _ ?_); clear hK11 K11
               refine wp_ret ?_
               refine then_r ?_
               refine ret1 rfl (.tmp rfl (show _ = Value.bool _ from rfl)) ?_
               exact ⟨rfl, hS.kp.below⟩
    · have hq := stampsL_le hst
      have l1 : getN o q 4 < 4294967296 := getN_lt hob q 4
      have l2 : getN o (q + 4) 4 < 4294967296 := getN_lt hob (q + 4) 4
      refine ent (n := 95) Try.func18 rfl rfl ?_
      refine wp_seq_k ?_; intro K1 hK1
      refine wlit ?_
      refine wl_e rfl ?_; intro K hK
      refine ow_box hS (tmA rfl rfl) rfl ?_
      clear hS; intro g0_0 w hg0_0 hS
      refine hK _ _ ?_; clear hK K
      refine wl_v (x_assign ev_c) ?_
      refine wl_nil ?_
      refine then_n (hK1 _ _ ?_); clear hK1 K1
      refine wp_seq_k ?_; intro K2 hK2
      refine wp_seq_k ?_; intro K3 hK3
      refine wlit ?_
      refine wl_v (x_loadA (cs := [_, _, _, _, _, _, _, _, _, _]) Try.underlying180 rfl ts_180 (tmP rfl rfl) (rangeB hS.ok 0 rfl rfl)) ?_
      refine wl_e rfl ?_; intro K hK
      refine ow_call Try.func97 rfl rfl (evs_cons (tmA rfl rfl) <| evs_nil) (light06_c _ _ _ _ _ _ _ _ _ _ _ _ _ _ _) ?_
      rintro e w ⟨rfl, hk⟩
      refine ⟨_, rfl, ?_⟩
      replace hS := hS.kept hk
      clear hk
      refine hK _ _ ?_; clear hK K
      refine wl_v (x_not (tmB rfl rfl)) ?_
      refine wl_nil ?_
      refine then_n (hK3 _ _ ?_); clear hK3 K3
      refine cnd (tm rfl) (fun hc0 => ?_) (fun hc0 => ?_)
      · exfalso
        simp at hc0
        omega
      try (exfalso; first | with_reducible exact absurd hc0 Bool.false_ne_true | with_reducible exact absurd hc0.symm Bool.false_ne_true | (simp only [nrm] at hc0; omega) | (simp at hc0; done))
      all_goals
       try simp only [nrm] at hc0
       refine wp_skip ?_
       refine then_n (hK2 _ _ ?_); clear hK2 K2
       refine wp_seq_k ?_; intro K4 hK4
       refine wlit ?_
       refine wl_v (x_fa 8 Try.underlying180 rfl rfl ts_36 (tmP rfl rfl)) ?_
       first
        | refine wl_v (x_load Try.underlying36 rfl (tmP rfl rfl) (cellB hS.ok 0 rfl rfl)) ?_
        | refine wl_v (x_load Try.underlying36 rfl (tmP rfl rfl) (cellB hS.ok 0 rfl (getm (by omega)))) ?_
       refine wl_e rfl ?_; intro K hK
       refine ow_call Try.func99 rfl rfl (evs_cons (tmS rfl rfl) <| evs_nil) (stamps_some_c o.length O c o q _ (viewV hS.ok 2 rfl) rfl hob (by omega) hst) ?_
       rintro e w ⟨rfl, hk⟩
       refine ⟨_, rfl, ?_⟩
       replace hS := hS.kept hk
       clear hk
       refine hK _ _ ?_; clear hK K
       refine wl_v (x_move (tmT rfl rfl)) ?_
       refine wl_v (x_ext (tmT rfl rfl) rfl) ?_
       refine wl_v (x_ext (tmT rfl rfl) rfl) ?_
       refine wl_v (x_assign (tmI rfl rfl)) ?_
       refine wl_v (x_assign (tmB rfl rfl)) ?_
       refine wl_nil ?_
       refine then_n (hK4 _ _ ?_); clear hK4 K4
       refine wp_seq_k ?_; intro K5 hK5
       refine wlit ?_
       refine wl_v (x_fa 8 Try.underlying180 rfl rfl ts_36 (tmP rfl rfl)) ?_
       first
        | refine wl_v (x_load Try.underlying36 rfl (tmP rfl rfl) (cellB hS.ok 0 rfl rfl)) ?_
        | refine wl_v (x_load Try.underlying36 rfl (tmP rfl rfl) (cellB hS.ok 0 rfl (getm (by omega)))) ?_
       refine wl_e rfl ?_; intro K hK
       refine ow_call Try.func100 rfl rfl (evs_cons (tmS rfl rfl) <| evs_nil) (rstamps_some_c o.length O c o q _ (viewV hS.ok 2 rfl) rfl hob (by omega) hst) ?_
       rintro e w ⟨rfl, hk⟩
       refine ⟨_, rfl, ?_⟩
       replace hS := hS.kept hk
       clear hk
       refine hK _ _ ?_; clear hK K
       refine wl_v (x_assign (tmI rfl rfl)) ?_
       refine wl_nil ?_
       refine then_n (hK5 _ _ ?_); clear hK5 K5
       refine wp_seq_k ?_; intro K6 hK6
       refine wlit ?_
       refine wl_v (x_loadA (cs := [_, _, _, _, _, _, _, _, _, _]) Try.underlying180 rfl ts_180 (tmP rfl rfl) (rangeB hS.ok 0 rfl rfl)) ?_
       refine wl_e rfl ?_; intro K hK
       refine ow_call Try.func101 rfl rfl (evs_cons (tmA rfl rfl) <| evs_nil) (to06_c _ _ _ _ _ _ _ _ _ _ _ _ _ _ _) ?_
       rintro e w ⟨rfl, hk⟩
       refine ⟨_, rfl, ?_⟩
       replace hS := hS.kept hk
       clear hk
       refine hK _ _ ?_; clear hK K
       refine wl_e rfl ?_; intro K hK
       refine ow_call Try.func102 rfl rfl (evs_cons (tmA rfl rfl) <| evs_nil) (stamp_some_c a1 a2 a3 a4 a5 a6 a7 a8 O o.length c L x.length d o q _ (viewV hS.ok 2 rfl) rfl hoc hob (by omega) hst) ?_
       rintro e w ⟨rfl, hk⟩
       refine ⟨_, rfl, ?_⟩
       replace hS := hS.kept hk
       clear hk
       refine hK _ _ ?_; clear hK K
       refine wl_v (x_move (tmT rfl rfl)) ?_
       refine wl_v (x_ext (tmT rfl rfl) rfl) ?_
       refine wl_v (x_ext (tmT rfl rfl) rfl) ?_
       refine wl_v (x_ext (tmT rfl rfl) rfl) ?_
       refine wl_v (x_assign (tmI rfl rfl)) ?_
       refine wl_v (x_assign (tmI rfl rfl)) ?_
       refine wl_v (x_assign (tmB rfl rfl)) ?_
       refine wl_nil ?_
       refine then_n (hK6 _ _ ?_); clear hK6 K6
       refine wp_seq_k ?_; intro K7 hK7
       refine wp_seq_k ?_; intro K8 hK8
       refine rg_startk 0 hS mixed_ ?_
       clear hS; intro w hS
       refine rg_take 0 rfl rfl (by kernel_rfl) (by kernel_rfl) (by kernel_rfl) (want_0) (fun w hok => x_move (tmB rfl rfl)) ?_
       refine rg_take 1 rfl rfl (by kernel_rfl) (by kernel_rfl) (by kernel_rfl) (want_0) (fun w hok => x_move (tmI rfl rfl)) ?_
       refine rg_take 2 rfl rfl (by kernel_rfl) (by kernel_rfl) (by kernel_rfl) (want_0) (fun w hok => x_geq (tmI rfl rfl) (ev_cN 0)) ?_
       refine rg_take 3 rfl rfl (by kernel_rfl) (by kernel_rfl) (by kernel_rfl) (want_0) (fun w hok => x_bneq Try.underlying4 (tmB rfl rfl) (tmB rfl rfl)) ?_
       refine rg_take 4 rfl rfl (by kernel_rfl) (by kernel_rfl) (by kernel_rfl) (want_0) (fun w hok => x_move (tmB rfl rfl)) ?_
       refine gs_rg (tm (t := 33) rfl) (fun hg6_4 => ?_) (fun hg6_4 => ?_)
       · exfalso
         simp at hg6_4
       have hg6_4' := hg6_4; (try simp only [nrm] at hg6_4'); try (exfalso; first | with_reducible exact absurd hg6_4 Bool.false_ne_true | with_reducible exact absurd hg6_4.symm Bool.false_ne_true | omega | (simp at hg6_4; done))
       all_goals
        refine rg_take 5 rfl rfl (by kernel_rfl) (by kernel_rfl) (by kernel_rfl) (want_y rfl rfl rfl rfl (by rw [hg6_4]; rfl)) (fun w hok => x_move (tmB rfl rfl)) ?_
        refine rg_take 6 rfl rfl (by kernel_rfl) (by kernel_rfl) (by kernel_rfl) (want_y rfl rfl rfl rfl (by rw [hg6_4]; rfl)) (fun w hok => x_move (tmB rfl rfl)) ?_
        refine rg_take 7 rfl rfl (by kernel_rfl) (by kernel_rfl) (by kernel_rfl) (want_y rfl rfl rfl rfl (by rw [hg6_4]; rfl)) (fun w hok => x_bneq Try.underlying4 (tmB rfl rfl) (tmB rfl rfl)) ?_
        refine rg_take 8 rfl rfl (by kernel_rfl) (by kernel_rfl) (by kernel_rfl) (want_0) (fun w hok => x_pickF (tmB rfl rfl) hg6_4 (tmB rfl rfl)) ?_
        refine rg_take 9 rfl rfl (by kernel_rfl) (by kernel_rfl) (by kernel_rfl) (want_0) (fun w hok => x_move (tmB rfl rfl)) ?_
        refine gs_rg (tm (t := 38) rfl) (fun hg6_9 => ?_) (fun hg6_9 => ?_)
        · exfalso
          simp at hg6_9
        have hg6_9' := hg6_9; (try simp only [nrm] at hg6_9'); try (exfalso; first | with_reducible exact absurd hg6_9 Bool.false_ne_true | with_reducible exact absurd hg6_9.symm Bool.false_ne_true | omega | (simp at hg6_9; done))
        all_goals
         refine rg_take 10 rfl rfl (by kernel_rfl) (by kernel_rfl) (by kernel_rfl) (want_y rfl rfl rfl rfl (by rw [hg6_9]; rfl)) (fun w hok => x_move (tmB rfl rfl)) ?_
         refine rg_take 11 rfl rfl (by kernel_rfl) (by kernel_rfl) (by kernel_rfl) (want_y rfl rfl rfl rfl (by rw [hg6_9]; rfl)) (fun w hok => x_move (tmB rfl rfl)) ?_
         refine gs_rgs (tm (t := 40) rfl) (fun hg6_11 => ?_) (fun hg6_11 => ?_)
         · exfalso
           simp at hg6_11
         have hg6_11' := hg6_11; (try simp only [nrm] at hg6_11'); try (exfalso; first | with_reducible exact absurd hg6_11 Bool.false_ne_true | with_reducible exact absurd hg6_11.symm Bool.false_ne_true | omega | (simp at hg6_11; done))
         all_goals
          refine rg_take 12 rfl rfl (by kernel_rfl) (by kernel_rfl) (by kernel_rfl) (want_y rfl rfl rfl rfl (by rw [hg6_11]; rfl)) (fun w hok => x_move (tmI rfl rfl)) ?_
          refine rg_take 13 rfl rfl (by kernel_rfl) (by kernel_rfl) (by kernel_rfl) (want_y rfl rfl rfl rfl (by rw [hg6_11]; rfl)) (fun w hok => x_move (tmI rfl rfl)) ?_
          refine rg_take 14 rfl rfl (by kernel_rfl) (by kernel_rfl) (by kernel_rfl) (want_y rfl rfl rfl rfl (by rw [hg6_11]; rfl)) (fun w hok => x_neq (tmI rfl rfl) (tmI rfl rfl)) ?_
          refine rg_take 15 rfl rfl (by kernel_rfl) (by kernel_rfl) (by kernel_rfl) (want_y rfl rfl rfl rfl (by rw [hg6_9]; rfl)) (fun w hok => x_pickT (tmB rfl rfl) hg6_11 (tmB rfl rfl)) ?_
          refine rg_take 16 rfl rfl (by kernel_rfl) (by kernel_rfl) (by kernel_rfl) (want_0) (fun w hok => x_pickF (tmB rfl rfl) hg6_9 (tmB rfl rfl)) ?_
          refine rg_take 17 rfl rfl (by kernel_rfl) (by kernel_rfl) (by kernel_rfl) (want_0) (fun w hok => x_move (tmB rfl rfl)) ?_
          refine gs_rg (tm (t := 46) rfl) (fun hg6_17 => ?_) (fun hg6_17 => ?_)
          · exfalso
            simp at hg6_17
          have hg6_17' := hg6_17; (try simp only [nrm] at hg6_17'); try (exfalso; first | with_reducible exact absurd hg6_17 Bool.false_ne_true | with_reducible exact absurd hg6_17.symm Bool.false_ne_true | omega | (simp at hg6_17; done))
          all_goals
           refine rg_take 18 rfl rfl (by kernel_rfl) (by kernel_rfl) (by kernel_rfl) (want_y rfl rfl rfl rfl (by rw [hg6_17]; rfl)) (fun w hok => x_move (tmB rfl rfl)) ?_
           refine rg_take 19 rfl rfl (by kernel_rfl) (by kernel_rfl) (by kernel_rfl) (want_y rfl rfl rfl rfl (by rw [hg6_17]; rfl)) (fun w hok => x_not (tmB rfl rfl)) ?_
           refine rg_take 20 rfl rfl (by kernel_rfl) (by kernel_rfl) (by kernel_rfl) (want_y rfl rfl rfl rfl (by rw [hg6_17]; rfl)) (fun w hok => x_move (tmB rfl rfl)) ?_
           refine gs_rg (tm (t := 49) rfl) (fun hg6_20 => ?_) (fun hg6_20 => ?_)
           · exfalso
             simp at hg6_20
           have hg6_20' := hg6_20; (try simp only [nrm] at hg6_20'); try (exfalso; first | with_reducible exact absurd hg6_20 Bool.false_ne_true | with_reducible exact absurd hg6_20.symm Bool.false_ne_true | omega | (simp at hg6_20; done))
           all_goals
            refine rg_skip 21 rfl rfl (by kernel_rfl) (by kernel_rfl) (by kernel_rfl) (want_n rfl rfl rfl rfl (by rw [hg6_20]; rfl)) ?_
            refine rg_skip 22 rfl rfl (by kernel_rfl) (by kernel_rfl) (by kernel_rfl) (want_n rfl rfl rfl rfl (by rw [hg6_20]; rfl)) ?_
            refine rg_take 23 rfl rfl (by kernel_rfl) (by kernel_rfl) (by kernel_rfl) (want_y rfl rfl rfl rfl (by rw [hg6_17]; rfl)) (fun w hok => x_pickF (tmB rfl rfl) hg6_20 ev_c) ?_
            refine rg_take 24 rfl rfl (by kernel_rfl) (by kernel_rfl) (by kernel_rfl) (want_0) (fun w hok => x_pickF (tmB rfl rfl) hg6_17 (tmB rfl rfl)) ?_
            refine rg_take 25 rfl rfl (by kernel_rfl) (by kernel_rfl) (by kernel_rfl) (want_0) (fun w hok => x_move (tmB rfl rfl)) ?_
            refine rg_take 26 rfl rfl (by kernel_rfl) (by kernel_rfl) (by kernel_rfl) (want_y rfl rfl rfl rfl rfl) (fun w hok => x_loadA (cs := [_, _, _, _, _, _, _, _, _, _]) Try.underlying180 rfl ts_180 (tmP rfl rfl) (rangeB hok 0 rfl rfl)) ?_
            refine rg_take 29 rfl rfl (by kernel_rfl) (by kernel_rfl) (by kernel_rfl) (want_y rfl rfl rfl rfl rfl) (fun w hok => x_fa 4 Try.underlying180 rfl rfl ts_5 (tmP rfl rfl)) ?_
            first
             | refine rg_take 30 rfl rfl (by kernel_rfl) (by kernel_rfl) (by kernel_rfl) (want_y rfl rfl rfl rfl rfl) (fun w hok => x_load Try.underlying5 rfl (tmP rfl rfl) (cellB hok 0 rfl rfl)) ?_
             | refine rg_take 30 rfl rfl (by kernel_rfl) (by kernel_rfl) (by kernel_rfl) (want_y rfl rfl rfl rfl rfl) (fun w hok => x_load Try.underlying5 rfl (tmP rfl rfl) (cellB hok 0 rfl (getm (by omega)))) ?_
            refine rg_take 31 rfl rfl (by kernel_rfl) (by kernel_rfl) (by kernel_rfl) (want_y rfl rfl rfl rfl rfl) (fun w hok => x_andN (tmI rfl rfl) (ev_cN 23) (fit_u8 (by omega)) (fit_u8 (by omega))) ?_
            refine rg_take 32 rfl rfl (by kernel_rfl) (by kernel_rfl) (by kernel_rfl) (want_y rfl rfl rfl rfl rfl) (fun w hok => x_eql (tmI rfl rfl) (ev_cN 2)) ?_
            refine rg_step 27 rfl (by kernel_rfl) (want_y rfl rfl rfl rfl rfl) (oks_drop hS 0 rfl) ?_; intro K hK
            refine ow_call Try.func101 rfl rfl (evs_cons (tmA rfl rfl) <| evs_nil) (to06_c _ _ _ _ _ _ _ _ _ _ _ _ _ _ _) ?_
            rintro e w ⟨rfl, hk⟩
            refine ⟨_, rfl, ?_⟩
            replace hS := hS.kept hk
            clear hk
            refine hK _ _ ?_; clear hK K
            refine rg_step 28 rfl (by kernel_rfl) (want_y rfl rfl rfl rfl rfl) (oks_drop hS 0 rfl) ?_; intro K hK
            refine ow_call Try.func103 rfl rfl (evs_cons (tmA rfl rfl) <| evs_nil) (first_c _ _ _ _ _ _ _ _ _ _ _ _ _ _ _ q5) ?_
            rintro e w ⟨rfl, hk⟩
            refine ⟨_, rfl, ?_⟩
            replace hS := hS.kept hk
            clear hk
            refine hK _ _ ?_; clear hK K
            refine rg_take 33 rfl rfl (by kernel_rfl) (by kernel_rfl) (by kernel_rfl) (want_y rfl rfl rfl rfl rfl) (fun w hok => x_bneq Try.underlying4 (tmB rfl rfl) (tmB rfl rfl)) ?_
            refine rg_take 34 rfl rfl (by kernel_rfl) (by kernel_rfl) (by kernel_rfl) (want_0) (fun w hok => x_pickF (tmB rfl rfl) rfl (tmB rfl rfl)) ?_
            refine rg_done (oks_drop hS 0 rfl) (by kernel_rfl) ?_
            refine then_n (hK8 _ _ ?_); clear hK8 K8
            refine cnd (tm rfl) (fun hc1 => ?_) (fun hc1 => ?_)
            · exfalso
              simp at hc1
            try (exfalso; first | with_reducible exact absurd hc1 Bool.false_ne_true | with_reducible exact absurd hc1.symm Bool.false_ne_true | (simp only [nrm] at hc1; omega) | (simp at hc1; done))
            all_goals
             try simp only [nrm] at hc1
             refine wp_skip ?_
             refine then_n (hK7 _ _ ?_); clear hK7 K7
             refine wp_seq_k ?_; intro K9 hK9
             refine wp_seq_k ?_; intro K10 hK10
             refine wlit ?_
             refine wl_v (x_move (tmB rfl rfl)) ?_
             refine wl_v (x_not (tmB rfl rfl)) ?_
             refine wl_nil ?_
             refine then_n (hK10 _ _ ?_); clear hK10 K10
             refine cnd (tm rfl) (fun hc2 => ?_) (fun hc2 => ?_)
             · exfalso
               simp at hc2
             try (exfalso; first | with_reducible exact absurd hc2 Bool.false_ne_true | with_reducible exact absurd hc2.symm Bool.false_ne_true | (simp only [nrm] at hc2; omega) | (simp at hc2; done))
             all_goals
              try simp only [nrm] at hc2
              refine wp_skip ?_
              refine then_n (hK9 _ _ ?_); clear hK9 K9
              refine wp_seq_k ?_; intro K11 hK11
              refine wlit ?_
              refine wl_v (x_move (tmI rfl rfl)) ?_
              first
               | refine wl_v (x_convN Try.underlying39 Try.underlying23 (tmI rfl rfl) (fit_u64 (by omega))) ?_
               | refine wl_v (x_convU Try.underlying39 Try.underlying23 (tmI rfl rfl) rfl) ?_
               | refine wl_v (x_conv Try.underlying39 Try.underlying23 (tmI rfl rfl)) ?_
              refine wl_v (x_fa 8 Try.underlying180 rfl rfl ts_36 (tmP rfl rfl)) ?_
              first
               | refine wl_v (x_load Try.underlying36 rfl (tmP rfl rfl) (cellB hS.ok 0 rfl rfl)) ?_
               | refine wl_v (x_load Try.underlying36 rfl (tmP rfl rfl) (cellB hS.ok 0 rfl (getm (by omega)))) ?_
              refine wl_v (x_move (tmI rfl rfl)) ?_
              refine wl_e rfl ?_; intro K hK
              refine ow_call Try.func104 rfl rfl (evs_cons (tmS rfl rfl) <| evs_cons (tmI rfl rfl) <| evs_cons (ev_cN 4) <| evs_nil) (get_c o.length O c o q 4 _ (viewV hS.ok 2 rfl) rfl hoc (by omega) hob (by omega) (by omega)) ?_
              rintro e w ⟨rfl, hk⟩
              refine ⟨_, rfl, ?_⟩
              replace hS := hS.kept hk
              clear hk
              refine hK _ _ ?_; clear hK K
              refine wl_v (x_eql (tmI rfl rfl) (tmI rfl rfl)) ?_
              refine wl_v (x_move (tmB rfl rfl)) ?_
              refine gs_wls (tm (t := 82) rfl) (fun hg10_7 => ?_) (fun hg10_7 => ?_)
              · exfalso
                simp at hg10_7
              have hg10_7' := hg10_7; (try simp only [nrm] at hg10_7'); try (exfalso; first | with_reducible exact absurd hg10_7 Bool.false_ne_true | with_reducible exact absurd hg10_7.symm Bool.false_ne_true | omega | (simp at hg10_7; done))
              all_goals
               refine wl_gv (want_y rfl rfl rfl rfl (by rw [hg10_7]; rfl)) (x_move (tmI rfl rfl)) ?_
               first
                | refine wl_gv (want_y rfl rfl rfl rfl (by rw [hg10_7]; rfl)) (x_convN Try.underlying39 Try.underlying23 (tmI rfl rfl) (fit_u64 (by omega))) ?_
                | refine wl_gv (want_y rfl rfl rfl rfl (by rw [hg10_7]; rfl)) (x_convU Try.underlying39 Try.underlying23 (tmI rfl rfl) rfl) ?_
                | refine wl_gv (want_y rfl rfl rfl rfl (by rw [hg10_7]; rfl)) (x_conv Try.underlying39 Try.underlying23 (tmI rfl rfl)) ?_
               refine wl_gv (want_y rfl rfl rfl rfl (by rw [hg10_7]; rfl)) (x_fa 8 Try.underlying180 rfl rfl ts_36 (tmP rfl rfl)) ?_
               first
                | refine wl_gv (want_y rfl rfl rfl rfl (by rw [hg10_7]; rfl)) (x_load Try.underlying36 rfl (tmP rfl rfl) (cellB hS.ok 0 rfl rfl)) ?_
                | refine wl_gv (want_y rfl rfl rfl rfl (by rw [hg10_7]; rfl)) (x_load Try.underlying36 rfl (tmP rfl rfl) (cellB hS.ok 0 rfl (getm (by omega)))) ?_
               refine wl_gv (want_y rfl rfl rfl rfl (by rw [hg10_7]; rfl)) (x_move (tmI rfl rfl)) ?_
               first
                | refine wl_gv (want_y rfl rfl rfl rfl (by rw [hg10_7]; rfl)) (x_addN (tmI rfl rfl) (ev_cN 4) (fit_i64 (by omega))) ?_
                | refine wl_gv (want_y rfl rfl rfl rfl (by rw [hg10_7]; rfl)) (x_addI (tmI rfl rfl) (ev_cN 4) (IntWalk.i64_in _ (by omega))) ?_
                | refine wl_gv (want_y rfl rfl rfl rfl (by rw [hg10_7]; rfl)) (x_add (tmI rfl rfl) (ev_cN 4)) ?_
               refine wl_g (want_y rfl rfl rfl rfl (by rw [hg10_7]; rfl)) ?_; intro K hK
               refine ow_call Try.func104 rfl rfl (evs_cons (tmS rfl rfl) <| evs_cons (tmI rfl rfl) <| evs_cons (ev_cN 4) <| evs_nil) (get_c o.length O c o (q + 4) 4 _ (viewV hS.ok 2 rfl) rfl hoc (by omega) hob (by omega) (by omega)) ?_
               rintro e w ⟨rfl, hk⟩
               refine ⟨_, rfl, ?_⟩
               replace hS := hS.kept hk
               clear hk
               refine hK _ _ ?_; clear hK K
               refine wl_gv (want_y rfl rfl rfl rfl (by rw [hg10_7]; rfl)) (x_eql (tmI rfl rfl) (tmI rfl rfl)) ?_
               refine wl_v (x_pickT (tmB rfl rfl) hg10_7 (tmB rfl rfl)) ?_
               refine wl_v (x_move (tmB rfl rfl)) ?_
               refine gs_wls (tm (t := 92) rfl) (fun hg10_17 => ?_) (fun hg10_17 => ?_)
               · exfalso
                 simp at hg10_17
               have hg10_17' := hg10_17; (try simp only [nrm] at hg10_17'); try (exfalso; first | with_reducible exact absurd hg10_17 Bool.false_ne_true | with_reducible exact absurd hg10_17.symm Bool.false_ne_true | omega | (simp at hg10_17; done))
               all_goals
                refine wl_g (want_y rfl rfl rfl rfl (by rw [hg10_17]; rfl)) ?_; intro K hK
                refine ow_call Try.func98 rfl rfl (evs_nil) (law06_awake_c _) ?_
                rintro e w ⟨rfl, hk⟩
                refine ⟨_, rfl, ?_⟩
                replace hS := hS.kept hk
                clear hk
                refine hK _ _ ?_; clear hK K
                refine wl_v (x_pickT (tmB rfl rfl) hg10_17 (tmB rfl rfl)) ?_
                refine wl_v (x_assign (tmB rfl rfl)) ?_
                refine wl_nil ?_
                refine then_n (hK11 _ _ ?_); clear hK11 K11
                refine wp_ret ?_
                refine ret1 rfl (.tmp rfl (show _ = Value.bool _ from rfl)) ?_
                exact ⟨rfl, hS.kp.below⟩
  · skip
    refine ent (n := 95) Try.func18 rfl rfl ?_
    refine wp_seq_k ?_; intro K1 hK1
    refine wlit ?_
    refine wl_e rfl ?_; intro K hK
    refine ow_box hS (tmA rfl rfl) rfl ?_
    clear hS; intro g0_0 w hg0_0 hS
    refine hK _ _ ?_; clear hK K
    refine wl_v (x_assign ev_c) ?_
    refine wl_nil ?_
    refine then_n (hK1 _ _ ?_); clear hK1 K1
    refine wp_seq_k ?_; intro K2 hK2
    refine wp_seq_k ?_; intro K3 hK3
    refine wlit ?_
    refine wl_v (x_loadA (cs := [_, _, _, _, _, _, _, _, _, _]) Try.underlying180 rfl ts_180 (tmP rfl rfl) (rangeB hS.ok 0 rfl rfl)) ?_
    refine wl_e rfl ?_; intro K hK
    refine ow_call Try.func97 rfl rfl (evs_cons (tmA rfl rfl) <| evs_nil) (light06_c _ _ _ _ _ _ _ _ _ _ _ _ _ _ _) ?_
    rintro e w ⟨rfl, hk⟩
    refine ⟨_, rfl, ?_⟩
    replace hS := hS.kept hk
    clear hk
    refine hK _ _ ?_; clear hK K
    refine wl_v (x_not (tmB rfl rfl)) ?_
    refine wl_nil ?_
    refine then_n (hK3 _ _ ?_); clear hK3 K3
    refine cnds (tm rfl) (fun hc0 => ?_) (fun hc0 => ?_)
    · exfalso
      simp at hc0
      omega
    try (exfalso; first | with_reducible exact absurd hc0 Bool.false_ne_true | with_reducible exact absurd hc0.symm Bool.false_ne_true | (simp only [nrm] at hc0; omega) | (simp at hc0; done))
    all_goals
     try simp only [nrm] at hc0
     refine wp_seq_k ?_; intro K4 hK4
     refine wlit ?_
     refine wl_e rfl ?_; intro K hK
     refine ow_call Try.func98 rfl rfl (evs_nil) (law06_awake_c _) ?_
     rintro e w ⟨rfl, hk⟩
     refine ⟨_, rfl, ?_⟩
     replace hS := hS.kept hk
     clear hk
     refine hK _ _ ?_; clear hK K
     refine wl_v (x_assign (tmB rfl rfl)) ?_
     refine wl_nil ?_
     refine then_n (hK4 _ _ ?_); clear hK4 K4
     refine wp_ret ?_
     refine then_r ?_
     refine ret1 rfl (.tmp rfl (show _ = Value.bool _ from rfl)) ?_
     exact ⟨rfl, hS.kp.below⟩
set_option maxRecDepth 100000 in
theorem walk (v : Value) (w0 : World) {H : Type} {enc : TypeId × Value → H} {r : Reach} {b0 : Nat} {d : DataW H} {ps : List MemPlace} (hval : Value.okWide Try.prog w0 r b0 180 v) (hd : DataW.Trod enc Try.prog w0 0 (fun _ => true) true 180 v d ps) (hlt : ∀ p ∈ ps, p.block < w0.heap.size) :
    Calls Try.prog 18 #[v] w0 fun e w' => e = .returned (.bool true) ∧ Below w0.heap.size w0 w' := by
  obtain ⟨s, rfl, hs⟩ := RSeg.open_a hval hd hlt
  obtain ⟨a1, a2, a3, a4, a5, a6, a7, a8, ⟨O, o, c⟩, ⟨L, x, d⟩⟩ := s
  obtain ⟨q1, q2, q3, q4, q5, q6, q7, q8, ⟨h1, h2, hob, hov⟩, ⟨_, _, hxb, hxv⟩⟩ := hs
  exact walkC a1 a2 a3 a4 a5 a6 a7 a8 O c L d o x w0 q5 (by assumption) hob hov hxv
end TcpStamps
end Go.Proofs.Ytchpcijmgnfkfaa
