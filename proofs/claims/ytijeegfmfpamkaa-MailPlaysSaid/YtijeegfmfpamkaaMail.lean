
/- mail by contract. Conditions: none but bounds. -/
import Derived.Test.YtijeegfmfpamkaaOct
import Derived.Test.YtijeegfmfpamkaaO
namespace Go.Proofs.Ytijeegfmfpamkaa
open Go.ChangeShapes Go.WideShapes Go.ChangeAt Go.RowKit
structure GLt where
  node : Int
  back : Bool
  b : Sl Nat
def GLt.V (s : GLt) : List Value := [.int .i64 s.node, .bool s.back, .slice s.b.a s.b.l.length s.b.c]
theorem GLt.len (s : GLt) : s.V.length = 3 := rfl
def GLt.ok (w : World) (s : GLt) : Prop := (-9223372036854775808 ≤ s.node ∧ s.node ≤ 9223372036854775807) ∧ True ∧ okB w s.b
instance : Inhabited GLt := ⟨⟨0, false, default⟩⟩
set_option maxRecDepth 100000 in
theorem GLt.open_t {H : Type} {enc : TypeId × Value → H} {w : World} {fuel : Nat} {cs : List Value} {x : DataW H × List MemPlace} (hf : DataW.trod enc Try.prog w 0 (fun _ => true) true fuel 28 cs = some x) (hlt : ∀ p ∈ x.2, p.block < w.heap.size) : ∃ s : GLt, cs = s.V ∧ s.ok w := by
  have hC : Try.prog.cellsOf 28 = 3 := by kernel_rfl
  have hl := (DataW.trod_struct Try.underlying28 hf).choose_spec.choose_spec.2.2.1
  rw [hC] at hl
  obtain ⟨y0, k0, t0, b0⟩ := field_t Try.underlying28 hf hlt 0 _ rfl
  have hC0 : Try.prog.cellsOf 3 = 1 := by kernel_rfl
  obtain ⟨s0, e0, o0⟩ := t_i64 Try.underlying3 t0 b0
  have d0 := split_drop cs 0 1 (hC0 ▸ e0)
  obtain ⟨y1, k1, t1, b1⟩ := field_t Try.underlying28 hf hlt 1 _ rfl
  have hC1 : Try.prog.cellsOf 4 = 1 := by kernel_rfl
  obtain ⟨s1, e1, o1⟩ := t_bool Try.underlying4 t1 b1
  have d1 := split_drop cs 1 1 (hC1 ▸ e1)
  obtain ⟨y2, k2, t2, b2⟩ := field_t Try.underlying28 hf hlt 2 _ rfl
  have hC2 : Try.prog.cellsOf 26 = 1 := by kernel_rfl
  obtain ⟨s2, e2, o2⟩ := t_bytes Try.underlying26 Try.underlying5 (by kernel_rfl) t2 b2
  have d2 := split_drop cs 2 1 (hC2 ▸ e2)
  refine ⟨⟨s0, s1, s2⟩, ?_, ⟨o0, o1, o2⟩⟩
  have dn : cs.drop 3 = [] := List.drop_eq_nil_of_le (by omega)
  rw [← List.drop_zero (l := cs)]
  refine d0.trans ?_
  rw [show cs.drop (0 + 1) = _ from d1]
  rw [show cs.drop (1 + 1) = _ from d2]
  rw [show cs.drop (2 + 1) = [] from dn]
  rfl
set_option maxRecDepth 100000 in
theorem GLt.open_a {H : Type} {enc : TypeId × Value → H} {w : World} {r : Reach} {b0 : Nat} {v : Value} {d : DataW H} {ps : List MemPlace} (hval : Value.okWide Try.prog w r b0 28 v) (hd : DataW.Trod enc Try.prog w 0 (fun _ => true) true 28 v d ps) (hlt : ∀ p ∈ ps, p.block < w.heap.size) : ∃ s : GLt, v = .agg s.V.toArray ∧ s.ok w := by
  obtain ⟨cs, rfl, _⟩ := okWide_struct Try.underlying28 hval
  obtain ⟨fuel, hf⟩ := hd
  obtain ⟨s, e, h⟩ := GLt.open_t hf hlt
  exact ⟨s, by rw [← e]; simp [Value.cells], h⟩
abbrev rowL (Ka : Option Addr) (q ck : Nat) (ls : List GLt) : Ent := .row (.slice Ka q ck) 31 3 q (flat GLt.V ls)
def lt (node : Int) (back : Bool) (A : Option Addr) (l : List Nat) (c : Nat) : GLt := ⟨node, back, ⟨A, l, c⟩⟩
theorem lt_V (node : Int) (back : Bool) (A : Option Addr) (l : List Nat) (c : Nat) : (lt node back A l c).V = [.int .i64 node, .bool back, .slice A l.length c] := rfl

set_option maxRecDepth 100000 in
set_option maxHeartbeats 4000000 in
theorem mnew_c (most : Int) (w0 : World) :
    Calls Try.prog 6 #[.int .i64 most] w0 fun e w' => ∃ gm, e = .returned (.pointer (some ⟨gm, 0, none⟩)) ∧ New w0 w' (.blk gm 52 [.slice none 0 0, .int .i64 (max most 0), .int .i64 0]) ∧ Kp [] w0 w' := by
  have hS := St.sv w0
  refine ent (n := 7) Try.func6 rfl rfl ?_
  refine wp_seq_k ?_; intro K1 hK1
  refine wlit ?_
  refine wl_v (x_assign ev_c) ?_
  refine wl_nil ?_
  refine then_n (hK1 _ _ ?_); clear hK1 K1
  refine wp_seq_k ?_; intro K2 hK2
  refine wlit ?_
  refine wl_v (x_move (tmI rfl rfl)) ?_
  first
   | refine wl_v (x_max (tmI rfl rfl) (ev_cN 0)) ?_
   | refine wl_v (x_maxI (tmI rfl rfl) (ev_cN 0)) ?_
  refine wl_v (x_build (bc_skip (.slice none 0 0) <| bc_take (tmI rfl rfl) <| bc_skip (.int .i64 0) <| bc_nil) (by kernel_rfl)) ?_
  refine wl_e rfl ?_; intro K hK
  refine ow_box hS (tmA rfl rfl) rfl ?_
  clear hS; intro g1_3 w hg1_3 hS
  refine hK _ _ ?_; clear hK K
  refine wl_v (x_assign (tmP rfl rfl)) ?_
  refine wl_nil ?_
  refine then_n (hK2 _ _ ?_); clear hK2 K2
  refine wp_ret ?_
  refine ret1 rfl (.tmp rfl (show _ = Value.pointer _ from rfl)) ?_
  exact ⟨_, rfl, hS.new 0 rfl rfl, hS.kp⟩

set_option maxRecDepth 100000 in
set_option maxHeartbeats 4000000 in
theorem mlen_c (gm : Nat) (Ka : Option Addr) (q ck : Nat) (most lost : Int) (w0 : World) (hv : View w0 w0.heap.size (some ⟨gm, 0, none⟩) [.slice Ka q ck, .int .i64 most, .int .i64 lost]) :
    Calls Try.prog 8 #[.pointer (some ⟨gm, 0, none⟩)] w0 fun e w' => e = .returned (.int .i64 (q : Int)) ∧ Kp [] w0 w' := by
  have hS := (St.sv w0).vcons rfl hv
  refine ent (n := 10) Try.func8 rfl rfl ?_
  refine wp_seq_k ?_; intro K1 hK1
  refine wlit ?_
  refine wl_v (x_assign (ev_cN 0)) ?_
  refine wl_nil ?_
  refine then_n (hK1 _ _ ?_); clear hK1 K1
  refine wp_seq_k ?_; intro K2 hK2
  refine wp_seq_k ?_; intro K3 hK3
  refine wlit ?_
  refine wl_v (x_move (tmP rfl rfl)) ?_
  first
   | refine wl_v (x_peql Try.underlying24 (tmP rfl rfl) ev_c) ?_
   | refine wl_v (x_peqln Try.underlying24 (tmP rfl rfl) ev_c) ?_
  refine wl_nil ?_
  refine then_n (hK3 _ _ ?_); clear hK3 K3
  refine cnd (tm rfl) (fun hc0 => ?_) (fun hc0 => ?_)
  · exfalso
    simp at hc0
  try (exfalso; first | with_reducible exact absurd hc0 Bool.false_ne_true | with_reducible exact absurd hc0.symm Bool.false_ne_true | (simp only [nrm] at hc0; omega) | (simp at hc0; done))
  all_goals
   try simp only [nrm] at hc0
   refine wp_skip ?_
   refine then_n (hK2 _ _ ?_); clear hK2 K2
   refine wp_seq_k ?_; intro K4 hK4
   refine wlit ?_
   refine wl_v (x_move (tmP rfl rfl)) ?_
   refine wl_v (x_nil (A := none) (tmP rfl rfl)) ?_
   refine wl_v (x_fa 0 Try.underlying52 rfl rfl ts_50 (tmP rfl rfl)) ?_
   first
    | refine wl_v (x_load Try.underlying50 rfl (tmP rfl rfl) (cellV hS.ok 0 rfl rfl)) ?_
    | refine wl_v (x_load Try.underlying50 rfl (tmP rfl rfl) (cellV hS.ok 0 rfl (getm (by omega)))) ?_
    | refine wl_v (x_load Try.underlying50 rfl (tmP rfl rfl) (cellVs hS.ok 0 rfl (fun _ => rfl) rfl (by omega) rfl)) ?_
   refine wl_v (x_len Try.underlying50 (tmS rfl rfl)) ?_
   refine wl_v (x_assign (tmI rfl rfl)) ?_
   refine wl_nil ?_
   refine then_n (hK4 _ _ ?_); clear hK4 K4
   refine wp_ret ?_
   refine ret1 rfl (.tmp rfl (show _ = Value.int _ _ from rfl)) ?_
   exact ⟨rfl, hS.kp⟩

set_option maxRecDepth 100000 in
set_option maxHeartbeats 4000000 in
theorem mhas_c (gm : Nat) (Ka : Option Addr) (q ck : Nat) (most lost : Int) (i : Int) (w0 : World) (hv : View w0 w0.heap.size (some ⟨gm, 0, none⟩) [.slice Ka q ck, .int .i64 most, .int .i64 lost]) :
    Calls Try.prog 20 #[.pointer (some ⟨gm, 0, none⟩), .int .i64 i] w0 fun e w' => e = .returned (.bool (decide (0 ≤ i ∧ i < (q : Int)))) ∧ Kp [] w0 w' := by
  have hS := (St.sv w0).vcons rfl hv
  refine ent (n := 13) Try.func20 rfl rfl ?_
  refine wp_seq_k ?_; intro K1 hK1
  refine wlit ?_
  refine wl_v (x_assign ev_c) ?_
  refine wl_nil ?_
  refine then_n (hK1 _ _ ?_); clear hK1 K1
  refine wp_seq_k ?_; intro K2 hK2
  refine wlit ?_
  refine wl_v (x_move (tmI rfl rfl)) ?_
  refine wl_v (x_geq (tmI rfl rfl) (ev_cN 0)) ?_
  refine wl_v (x_move (tmB rfl rfl)) ?_
  refine gs_wl (tm (t := 7) rfl) (fun hg1_2 => ?_) (fun hg1_2 => ?_)
  · have hg1_2' := hg1_2; (try simp only [nrm] at hg1_2'); try (exfalso; first | with_reducible exact absurd hg1_2 Bool.false_ne_true | with_reducible exact absurd hg1_2.symm Bool.false_ne_true | omega | (simp at hg1_2; done))
    all_goals
     refine wl_gv (want_y rfl rfl rfl rfl (by rw [hg1_2]; rfl)) (x_move (tmI rfl rfl)) ?_
     refine wl_gv (want_y rfl rfl rfl rfl (by rw [hg1_2]; rfl)) (x_move (tmP rfl rfl)) ?_
     refine wl_g (want_y rfl rfl rfl rfl (by rw [hg1_2]; rfl)) ?_; intro K hK
     refine ow_call Try.func8 rfl rfl (evs_cons (tmP rfl rfl) <| evs_nil) (mlen_c gm Ka q ck most lost _ (viewV hS.ok 0 rfl)) ?_
     rintro e w ⟨rfl, hk⟩
     refine ⟨_, rfl, ?_⟩
     replace hS := hS.kept hk
     clear hk
     refine hK _ _ ?_; clear hK K
     refine wl_gv (want_y rfl rfl rfl rfl (by rw [hg1_2]; rfl)) (x_lss (tmI rfl rfl) (tmI rfl rfl)) ?_
     refine wl_v (x_pickT (tmB rfl rfl) hg1_2 (tmB rfl rfl)) ?_
     refine wl_v (x_assign (tmB rfl rfl)) ?_
     refine wl_nil ?_
     refine then_n (hK2 _ _ ?_); clear hK2 K2
     refine wp_ret ?_
     refine ret1 rfl (.tmp rfl (show _ = Value.bool _ from rfl)) ?_
     refine ⟨?_, hS.kp⟩
     refine congrArg (fun b => Ending.returned (.bool b)) ?_
     first
       | (rw [Bool.eq_iff_iff, decide_eq_true_iff, decide_eq_true_iff]; omega)
       | (symm; rw [decide_eq_false_iff_not]; omega)
  have hg1_2' := hg1_2; (try simp only [nrm] at hg1_2'); try (exfalso; first | with_reducible exact absurd hg1_2 Bool.false_ne_true | with_reducible exact absurd hg1_2.symm Bool.false_ne_true | omega | (simp at hg1_2; done))
  all_goals
   refine wl_s rfl (want_n rfl rfl rfl rfl (by rw [hg1_2]; rfl)) ?_
   refine wl_s rfl (want_n rfl rfl rfl rfl (by rw [hg1_2]; rfl)) ?_
   refine wl_s rfl (want_n rfl rfl rfl rfl (by rw [hg1_2]; rfl)) ?_
   refine wl_s rfl (want_n rfl rfl rfl rfl (by rw [hg1_2]; rfl)) ?_
   refine wl_v (x_pickF (tmB rfl rfl) hg1_2 ev_c) ?_
   refine wl_v (x_assign (tmB rfl rfl)) ?_
   refine wl_nil ?_
   refine then_n (hK2 _ _ ?_); clear hK2 K2
   refine wp_ret ?_
   refine ret1 rfl (.tmp rfl (show _ = Value.bool _ from rfl)) ?_
   refine ⟨?_, hS.kp⟩
   refine congrArg (fun b => Ending.returned (.bool b)) ?_
   first
     | (rw [Bool.eq_iff_iff, decide_eq_true_iff, decide_eq_true_iff]; omega)
     | (symm; rw [decide_eq_false_iff_not]; omega)

set_option maxRecDepth 100000 in
set_option maxHeartbeats 4000000 in
theorem msend_in (gm : Nat) (Ka : Option Addr) (q ck : Nat) (ls : List GLt) (most lost : Int) (node : Int) (back : Bool) (A : Option Addr) (l : List Nat) (n c : Nat) (F : List Nat) (w0 : World)
    (hS : St F w0 [.row (.slice Ka q ck) 31 3 q (flat GLt.V ls), .blk gm 52 [.slice Ka q ck, .int .i64 most, .int .i64 lost], .vw A (l.map u8v)] w0)
    (hl : l.length = n) (hn4 : n ≤ 1000) (hq4 : q ≤ 1000) (hm : (q : Int) < most) :
    Calls Try.prog 7 #[.pointer (some ⟨gm, 0, none⟩), .agg #[.int .i64 node, .bool back, .slice A n c]] w0 fun e w' => ∃ A' c' Ka' ck', e = .returned (.int .i64 0) ∧ St F w0 [.row (.slice Ka' (q + 1) ck') 31 3 (q + 1) (flat GLt.V (ls ++ [lt node back A' l c'])), .blk gm 52 [.slice Ka' (q + 1) ck', .int .i64 most, .int .i64 lost], .vw A' (l.map u8v)] w' ∧ NewV w0 w' A' (l.map u8v) := by
  refine ent (n := 38) Try.func7 rfl rfl ?_
  refine wp_seq_k ?_; intro K1 hK1
  refine wlit ?_
  refine wl_e rfl ?_; intro K hK
  refine ow_box hS (tmA rfl rfl) rfl ?_
  clear hS; intro g0_0 w hg0_0 hS
  refine hK _ _ ?_; clear hK K
  refine wl_v (x_assign (ev_cN 0)) ?_
  refine wl_nil ?_
  refine then_n (hK1 _ _ ?_); clear hK1 K1
  refine wp_seq_k ?_; intro K2 hK2
  refine wp_seq_k ?_; intro K3 hK3
  refine wlit ?_
  refine wl_v (x_move (tmP rfl rfl)) ?_
  first
   | refine wl_v (x_peql Try.underlying24 (tmP rfl rfl) ev_c) ?_
   | refine wl_v (x_peqln Try.underlying24 (tmP rfl rfl) ev_c) ?_
  refine wl_nil ?_
  refine then_n (hK3 _ _ ?_); clear hK3 K3
  refine cnd (tm rfl) (fun hc0 => ?_) (fun hc0 => ?_)
  · exfalso
    simp at hc0
  try (exfalso; first | with_reducible exact absurd hc0 Bool.false_ne_true | with_reducible exact absurd hc0.symm Bool.false_ne_true | (simp only [nrm] at hc0; omega) | (simp at hc0; done))
  all_goals
   try simp only [nrm] at hc0
   refine wp_skip ?_
   refine then_n (hK2 _ _ ?_); clear hK2 K2
   refine wp_seq_k ?_; intro K4 hK4
   refine wp_seq_k ?_; intro K5 hK5
   refine rg_startk 0 hS mixed_ ?_
   clear hS; intro w hS
   refine rg_take 0 rfl rfl (by kernel_rfl) (by kernel_rfl) (by kernel_rfl) (want_0) (fun w hok => x_move (tmP rfl rfl)) ?_
   refine rg_take 1 rfl rfl (by kernel_rfl) (by kernel_rfl) (by kernel_rfl) (want_0) (fun w hok => x_nil (A := none) (tmP rfl rfl)) ?_
   refine rg_take 2 rfl rfl (by kernel_rfl) (by kernel_rfl) (by kernel_rfl) (want_0) (fun w hok => x_fa 0 Try.underlying52 rfl rfl ts_50 (tmP rfl rfl)) ?_
   first
    | refine rg_take 3 rfl rfl (by kernel_rfl) (by kernel_rfl) (by kernel_rfl) (want_0) (fun w hok => x_load Try.underlying50 rfl (tmP rfl rfl) (cellB hok 2 rfl rfl)) ?_
    | refine rg_take 3 rfl rfl (by kernel_rfl) (by kernel_rfl) (by kernel_rfl) (want_0) (fun w hok => x_load Try.underlying50 rfl (tmP rfl rfl) (cellR hok 1 rfl rfl)) ?_
    | refine rg_take 3 rfl rfl (by kernel_rfl) (by kernel_rfl) (by kernel_rfl) (want_0) (fun w hok => x_load Try.underlying50 rfl (tmP rfl rfl) (cellR hok 1 rfl (getm (by omega)))) ?_
    | refine rg_take 3 rfl rfl (by kernel_rfl) (by kernel_rfl) (by kernel_rfl) (want_0) (fun w hok => x_load Try.underlying50 rfl (tmP rfl rfl) (cellRs hok 1 rfl (fun _ => rfl) rfl (by omega) rfl)) ?_
    | refine rg_take 3 rfl rfl (by kernel_rfl) (by kernel_rfl) (by kernel_rfl) (want_0) (fun w hok => x_load Try.underlying50 rfl (tmP rfl rfl) (cellV hok 3 rfl rfl)) ?_
    | refine rg_take 3 rfl rfl (by kernel_rfl) (by kernel_rfl) (by kernel_rfl) (want_0) (fun w hok => x_load Try.underlying50 rfl (tmP rfl rfl) (cellV hok 3 rfl (getm (by omega)))) ?_
    | refine rg_take 3 rfl rfl (by kernel_rfl) (by kernel_rfl) (by kernel_rfl) (want_0) (fun w hok => x_load Try.underlying50 rfl (tmP rfl rfl) (cellVs hok 3 rfl (fun _ => rfl) rfl (by omega) rfl)) ?_
   refine rg_take 4 rfl rfl (by kernel_rfl) (by kernel_rfl) (by kernel_rfl) (want_0) (fun w hok => x_len Try.underlying50 (tmS rfl rfl)) ?_
   refine rg_take 5 rfl rfl (by kernel_rfl) (by kernel_rfl) (by kernel_rfl) (want_0) (fun w hok => x_move (tmP rfl rfl)) ?_
   refine rg_take 6 rfl rfl (by kernel_rfl) (by kernel_rfl) (by kernel_rfl) (want_0) (fun w hok => x_nil (A := none) (tmP rfl rfl)) ?_
   refine rg_take 7 rfl rfl (by kernel_rfl) (by kernel_rfl) (by kernel_rfl) (want_0) (fun w hok => x_fa 1 Try.underlying52 rfl rfl ts_3 (tmP rfl rfl)) ?_
   first
    | refine rg_take 8 rfl rfl (by kernel_rfl) (by kernel_rfl) (by kernel_rfl) (want_0) (fun w hok => x_load Try.underlying3 rfl (tmP rfl rfl) (cellB hok 2 rfl rfl)) ?_
    | refine rg_take 8 rfl rfl (by kernel_rfl) (by kernel_rfl) (by kernel_rfl) (want_0) (fun w hok => x_load Try.underlying3 rfl (tmP rfl rfl) (cellR hok 1 rfl rfl)) ?_
    | refine rg_take 8 rfl rfl (by kernel_rfl) (by kernel_rfl) (by kernel_rfl) (want_0) (fun w hok => x_load Try.underlying3 rfl (tmP rfl rfl) (cellR hok 1 rfl (getm (by omega)))) ?_
    | refine rg_take 8 rfl rfl (by kernel_rfl) (by kernel_rfl) (by kernel_rfl) (want_0) (fun w hok => x_load Try.underlying3 rfl (tmP rfl rfl) (cellRs hok 1 rfl (fun _ => rfl) rfl (by omega) rfl)) ?_
    | refine rg_take 8 rfl rfl (by kernel_rfl) (by kernel_rfl) (by kernel_rfl) (want_0) (fun w hok => x_load Try.underlying3 rfl (tmP rfl rfl) (cellV hok 3 rfl rfl)) ?_
    | refine rg_take 8 rfl rfl (by kernel_rfl) (by kernel_rfl) (by kernel_rfl) (want_0) (fun w hok => x_load Try.underlying3 rfl (tmP rfl rfl) (cellV hok 3 rfl (getm (by omega)))) ?_
    | refine rg_take 8 rfl rfl (by kernel_rfl) (by kernel_rfl) (by kernel_rfl) (want_0) (fun w hok => x_load Try.underlying3 rfl (tmP rfl rfl) (cellVs hok 3 rfl (fun _ => rfl) rfl (by omega) rfl)) ?_
   refine rg_take 9 rfl rfl (by kernel_rfl) (by kernel_rfl) (by kernel_rfl) (want_0) (fun w hok => x_geq (tmI rfl rfl) (tmI rfl rfl)) ?_
   refine rg_done (oks_drop hS 0 rfl) (by kernel_rfl) ?_
   refine then_n (hK5 _ _ ?_); clear hK5 K5
   refine cnd (tm rfl) (fun hc1 => ?_) (fun hc1 => ?_)
   · exfalso
     simp only [nrm] at hc1
     omega
   try (exfalso; first | with_reducible exact absurd hc1 Bool.false_ne_true | with_reducible exact absurd hc1.symm Bool.false_ne_true | (simp only [nrm] at hc1; omega) | (simp at hc1; done))
   all_goals
    try simp only [nrm] at hc1
    refine wp_skip ?_
    refine then_n (hK4 _ _ ?_); clear hK4 K4
    refine wp_seq_k ?_; intro K6 hK6
    refine wlit ?_
    refine wl_v (x_fa 2 Try.underlying31 rfl rfl ts_26 (tmP rfl rfl)) ?_
    first
     | refine wl_v (x_load Try.underlying26 rfl (tmP rfl rfl) (cellB hS.ok 0 rfl rfl)) ?_
     | refine wl_v (x_load Try.underlying26 rfl (tmP rfl rfl) (cellB hS.ok 0 rfl (getm (by omega)))) ?_
    refine wl_e rfl ?_; intro K hK
    refine ow_call Try.func19 rfl rfl (evs_cons (tmS rfl rfl) <| evs_nil) (clone_c n A c l _ (viewV hS.ok 3 rfl) hl (by omega)) ?_
    rintro e w ⟨A', c', rfl, hn, hk⟩
    refine ⟨_, rfl, ?_⟩
    have hsz := hS.kp.size
    have hfr : ∀ b, (Ent.vw A' (l.map u8v)).blk? = some b → w0.heap.size ≤ b := fun b hb => Nat.le_trans hsz (hn.view.2 b hb)
    replace hS := hS.addn hk hn.view -- +vx
    clear hn hk hsz
    refine hK _ _ ?_; clear hK K
    refine wl_v (x_fa 2 Try.underlying31 rfl rfl ts_26 (tmP rfl rfl)) ?_
    refine wl_e rfl ?_; intro K hK
    first
     | refine ow_store hS 1 rfl ts_26 (tmP rfl rfl) (tmS rfl rfl) rfl rfl ?_
     | refine ow_storeX hS 1 rfl ts_26 (tmP rfl rfl) (tmS rfl rfl) rfl (by simp; omega) ?_
    clear hS; intro w hS
    try replace hS := St.nm (M' := [.vw _ _, .blk _ _ [_, _, _], .row _ _ _ _ _, _, .vw _ _]) hS rfl
    refine hK _ _ ?_; clear hK K
    refine wl_nil ?_
    refine then_n (hK6 _ _ ?_); clear hK6 K6
    refine wp_seq_k ?_; intro K7 hK7
    --ents row,gm,vx,g0_0,vw
    replace hS := hS.pick [2, 3, 0, 1, 4] rfl rfl
    try replace hS := St.nm (M' := [.row _ _ _ _ _, _, .vw _ _, .blk _ _ [_, _, _], .vw _ _]) hS rfl
    refine rg_startk 2 hS mixed_ ?_
    clear hS; intro w hS
    refine rg_take 0 rfl rfl (by kernel_rfl) (by kernel_rfl) (by kernel_rfl) (want_0) (fun w hok => x_move (tmP rfl rfl)) ?_
    refine rg_take 1 rfl rfl (by kernel_rfl) (by kernel_rfl) (by kernel_rfl) (want_0) (fun w hok => x_move (tmP rfl rfl)) ?_
    refine rg_take 2 rfl rfl (by kernel_rfl) (by kernel_rfl) (by kernel_rfl) (want_0) (fun w hok => x_nil (A := none) (tmP rfl rfl)) ?_
    refine rg_take 3 rfl rfl (by kernel_rfl) (by kernel_rfl) (by kernel_rfl) (want_0) (fun w hok => x_fa 0 Try.underlying52 rfl rfl ts_50 (tmP rfl rfl)) ?_
    refine rg_take 5 rfl rfl (by kernel_rfl) (by kernel_rfl) (by kernel_rfl) (want_0) (fun w hok => x_loadA (cs := [_, _, _]) Try.underlying31 rfl ts_31 (tmP rfl rfl) (rangeB hok 1 rfl rfl)) ?_
    refine rg_step2 4 6 rfl rfl (by kernel_rfl) (want_0) (want_0) (oks_drop hS 2 rfl) ?_ ?_
    · intro K hK
      first
       | refine ow_v (x_load Try.underlying50 rfl (tmP rfl rfl) (cellB hS.ok 1 rfl rfl)) ?_
       | refine ow_v (x_load Try.underlying50 rfl (tmP rfl rfl) (cellR hS.ok 0 rfl rfl)) ?_
       | refine ow_v (x_load Try.underlying50 rfl (tmP rfl rfl) (cellR hS.ok 0 rfl (getm (by omega)))) ?_
       | refine ow_v (x_load Try.underlying50 rfl (tmP rfl rfl) (cellRs hS.ok 0 rfl (fun _ => rfl) rfl (by omega) rfl)) ?_
       | refine ow_v (x_load Try.underlying50 rfl (tmP rfl rfl) (cellV hS.ok 2 rfl rfl)) ?_
       | refine ow_v (x_load Try.underlying50 rfl (tmP rfl rfl) (cellV hS.ok 2 rfl (getm (by omega)))) ?_
       | refine ow_v (x_load Try.underlying50 rfl (tmP rfl rfl) (cellVs hS.ok 2 rfl (fun _ => rfl) rfl (by omega) rfl)) ?_
       | refine ow_v (x_load Try.underlying50 rfl (tmP rfl rfl) (cellV hS.ok 4 rfl rfl)) ?_
       | refine ow_v (x_load Try.underlying50 rfl (tmP rfl rfl) (cellV hS.ok 4 rfl (getm (by omega)))) ?_
       | refine ow_v (x_load Try.underlying50 rfl (tmP rfl rfl) (cellVs hS.ok 4 rfl (fun _ => rfl) rfl (by omega) rfl)) ?_
      refine hK _ _ ?_; clear hK K
      refine rg_step 6 rfl (by kernel_rfl) (want_0) (oks_drop hS 2 rfl) ?_; intro K hK
      refine ow_build hS Try.underlying50 tz_31 (bc_takeL (tmA rfl rfl) <| bc_nil) rfl rfl (by kernel_rfl) ?_
      clear hS; intro g7_6 w hg7_6 hS
      refine hK _ _ ?_; clear hK K
      refine rg_step 7 rfl (by kernel_rfl) (want_0) (oks_drop hS 3 rfl) ?_; intro K hK
      (refine ow_append hS 1 0 rfl rfl Try.underlying50 tz_31 rfl (tmS rfl rfl) (tmS rfl rfl) rfl ⟨by decide, by decide, rfl⟩ (by simp only [maxLen]; omega) (by omega) ?_; clear hS; intro g7_7 cg7_7 w hS)
      refine hK _ _ ?_; clear hK K
      refine rg_take 8 rfl rfl (by kernel_rfl) (by kernel_rfl) (by kernel_rfl) (want_0) (fun w hok => x_nil (A := none) (tmP rfl rfl)) ?_
      refine rg_take 9 rfl rfl (by kernel_rfl) (by kernel_rfl) (by kernel_rfl) (want_0) (fun w hok => x_fa 0 Try.underlying52 rfl rfl ts_50 (tmP rfl rfl)) ?_
      refine rg_step 10 rfl (by kernel_rfl) (want_0) (oks_drop hS 3 rfl) ?_; intro K hK
      first
       | refine ow_store hS 1 rfl ts_50 (tmP rfl rfl) (tmS rfl rfl) rfl rfl ?_
       | refine ow_storeX hS 1 rfl ts_50 (tmP rfl rfl) (tmS rfl rfl) rfl (by simp; omega) ?_
       | refine ow_storeRs hS 1 rfl ts_50 (tmP rfl rfl) (tmS rfl rfl) rfl (by first | omega | (simp; omega)) ?_
       | refine ow_storeR hS 1 rfl ts_50 (tmP rfl rfl) (tmS rfl rfl) rfl (by first | omega | (simp; omega)) ?_
       | refine ow_store hS 2 rfl ts_50 (tmP rfl rfl) (tmS rfl rfl) rfl rfl ?_
       | refine ow_storeX hS 2 rfl ts_50 (tmP rfl rfl) (tmS rfl rfl) rfl (by simp; omega) ?_
       | refine ow_storeRs hS 2 rfl ts_50 (tmP rfl rfl) (tmS rfl rfl) rfl (by first | omega | (simp; omega)) ?_
       | refine ow_storeR hS 2 rfl ts_50 (tmP rfl rfl) (tmS rfl rfl) rfl (by first | omega | (simp; omega)) ?_
       | refine ow_store hS 3 rfl ts_50 (tmP rfl rfl) (tmS rfl rfl) rfl rfl ?_
       | refine ow_storeX hS 3 rfl ts_50 (tmP rfl rfl) (tmS rfl rfl) rfl (by simp; omega) ?_
       | refine ow_storeRs hS 3 rfl ts_50 (tmP rfl rfl) (tmS rfl rfl) rfl (by first | omega | (simp; omega)) ?_
       | refine ow_storeR hS 3 rfl ts_50 (tmP rfl rfl) (tmS rfl rfl) rfl (by first | omega | (simp; omega)) ?_
      clear hS; intro w hS
      refine hK _ _ ?_; clear hK K
      refine rg_done (oks_drop hS 3 rfl) (by kernel_rfl) ?_
      refine then_n (hK7 _ _ ?_); clear hK7 K7
      refine wp_seq_k ?_; intro K8 hK8
      refine wlit ?_
      refine wl_v (x_assign (ev_cN 0)) ?_
      refine wl_nil ?_
      refine then_n (hK8 _ _ ?_); clear hK8 K8
      refine wp_ret ?_
      refine ret1 rfl (.tmp rfl (show _ = Value.int _ _ from rfl)) ?_
      rw [List.append_nil] at hS
      refine ⟨A', c', some ⟨g7_7, 0, none⟩, cg7_7, rfl, ?_⟩
      subst hl
      rw [flat_snoc, lt_V]
      exact ⟨hS.pick [1, 2, 3] rfl rfl, viewV hS.ok 3 rfl, hfr⟩
    · intro K hK
      refine ow_build hS Try.underlying50 tz_31 (bc_takeL (tmA rfl rfl) <| bc_nil) rfl rfl (by kernel_rfl) ?_
      clear hS; intro g7_6 w hg7_6 hS
      refine hK _ _ ?_; clear hK K
      refine rg_step 4 rfl (by kernel_rfl) (want_0) (oks_drop hS 3 rfl) ?_; intro K hK
      first
       | refine ow_v (x_load Try.underlying50 rfl (tmP rfl rfl) (cellB hS.ok 0 rfl rfl)) ?_
       | refine ow_v (x_load Try.underlying50 rfl (tmP rfl rfl) (cellB hS.ok 2 rfl rfl)) ?_
       | refine ow_v (x_load Try.underlying50 rfl (tmP rfl rfl) (cellR hS.ok 1 rfl rfl)) ?_
       | refine ow_v (x_load Try.underlying50 rfl (tmP rfl rfl) (cellR hS.ok 1 rfl (getm (by omega)))) ?_
       | refine ow_v (x_load Try.underlying50 rfl (tmP rfl rfl) (cellRs hS.ok 1 rfl (fun _ => rfl) rfl (by omega) rfl)) ?_
       | refine ow_v (x_load Try.underlying50 rfl (tmP rfl rfl) (cellV hS.ok 3 rfl rfl)) ?_
       | refine ow_v (x_load Try.underlying50 rfl (tmP rfl rfl) (cellV hS.ok 3 rfl (getm (by omega)))) ?_
       | refine ow_v (x_load Try.underlying50 rfl (tmP rfl rfl) (cellVs hS.ok 3 rfl (fun _ => rfl) rfl (by omega) rfl)) ?_
       | refine ow_v (x_load Try.underlying50 rfl (tmP rfl rfl) (cellV hS.ok 5 rfl rfl)) ?_
       | refine ow_v (x_load Try.underlying50 rfl (tmP rfl rfl) (cellV hS.ok 5 rfl (getm (by omega)))) ?_
       | refine ow_v (x_load Try.underlying50 rfl (tmP rfl rfl) (cellVs hS.ok 5 rfl (fun _ => rfl) rfl (by omega) rfl)) ?_
      refine hK _ _ ?_; clear hK K
      refine rg_step 7 rfl (by kernel_rfl) (want_0) (oks_drop hS 3 rfl) ?_; intro K hK
      (refine ow_append hS 1 0 rfl rfl Try.underlying50 tz_31 rfl (tmS rfl rfl) (tmS rfl rfl) rfl ⟨by decide, by decide, rfl⟩ (by simp only [maxLen]; omega) (by omega) ?_; clear hS; intro g7_7 cg7_7 w hS)
      refine hK _ _ ?_; clear hK K
      refine rg_take 8 rfl rfl (by kernel_rfl) (by kernel_rfl) (by kernel_rfl) (want_0) (fun w hok => x_nil (A := none) (tmP rfl rfl)) ?_
      refine rg_take 9 rfl rfl (by kernel_rfl) (by kernel_rfl) (by kernel_rfl) (want_0) (fun w hok => x_fa 0 Try.underlying52 rfl rfl ts_50 (tmP rfl rfl)) ?_
      refine rg_step 10 rfl (by kernel_rfl) (want_0) (oks_drop hS 3 rfl) ?_; intro K hK
      first
       | refine ow_store hS 1 rfl ts_50 (tmP rfl rfl) (tmS rfl rfl) rfl rfl ?_
       | refine ow_storeX hS 1 rfl ts_50 (tmP rfl rfl) (tmS rfl rfl) rfl (by simp; omega) ?_
       | refine ow_storeRs hS 1 rfl ts_50 (tmP rfl rfl) (tmS rfl rfl) rfl (by first | omega | (simp; omega)) ?_
       | refine ow_storeR hS 1 rfl ts_50 (tmP rfl rfl) (tmS rfl rfl) rfl (by first | omega | (simp; omega)) ?_
       | refine ow_store hS 2 rfl ts_50 (tmP rfl rfl) (tmS rfl rfl) rfl rfl ?_
       | refine ow_storeX hS 2 rfl ts_50 (tmP rfl rfl) (tmS rfl rfl) rfl (by simp; omega) ?_
       | refine ow_storeRs hS 2 rfl ts_50 (tmP rfl rfl) (tmS rfl rfl) rfl (by first | omega | (simp; omega)) ?_
       | refine ow_storeR hS 2 rfl ts_50 (tmP rfl rfl) (tmS rfl rfl) rfl (by first | omega | (simp; omega)) ?_
       | refine ow_store hS 3 rfl ts_50 (tmP rfl rfl) (tmS rfl rfl) rfl rfl ?_
       | refine ow_storeX hS 3 rfl ts_50 (tmP rfl rfl) (tmS rfl rfl) rfl (by simp; omega) ?_
       | refine ow_storeRs hS 3 rfl ts_50 (tmP rfl rfl) (tmS rfl rfl) rfl (by first | omega | (simp; omega)) ?_
       | refine ow_storeR hS 3 rfl ts_50 (tmP rfl rfl) (tmS rfl rfl) rfl (by first | omega | (simp; omega)) ?_
      clear hS; intro w hS
      refine hK _ _ ?_; clear hK K
      refine rg_done (oks_drop hS 3 rfl) (by kernel_rfl) ?_
      refine then_n (hK7 _ _ ?_); clear hK7 K7
      refine wp_seq_k ?_; intro K9 hK9
      refine wlit ?_
      refine wl_v (x_assign (ev_cN 0)) ?_
      refine wl_nil ?_
      refine then_n (hK9 _ _ ?_); clear hK9 K9
      refine wp_ret ?_
      refine ret1 rfl (.tmp rfl (show _ = Value.int _ _ from rfl)) ?_
      rw [List.append_nil] at hS
      refine ⟨A', c', some ⟨g7_7, 0, none⟩, cg7_7, rfl, ?_⟩
      subst hl
      rw [flat_snoc, lt_V]
      exact ⟨hS.pick [1, 2, 3] rfl rfl, viewV hS.ok 3 rfl, hfr⟩

set_option maxRecDepth 100000 in
set_option maxHeartbeats 4000000 in
theorem msend_full (gm : Nat) (Ka : Option Addr) (q ck : Nat) (ls : List GLt) (most : Int) (lost : Nat) (node : Int) (back : Bool) (A : Option Addr) (n c : Nat) (F : List Nat) (w0 : World)
    (hS : St F w0 [.row (.slice Ka q ck) 31 3 q (flat GLt.V ls), .blk gm 52 [.slice Ka q ck, .int .i64 most, .int .i64 (lost : Int)]] w0)
    (hm : ¬ (q : Int) < most) (hlost : lost ≤ 1000000) :
    Calls Try.prog 7 #[.pointer (some ⟨gm, 0, none⟩), .agg #[.int .i64 node, .bool back, .slice A n c]] w0 fun e w' => e = .returned (.int .i64 23) ∧ St F w0 [.row (.slice Ka q ck) 31 3 q (flat GLt.V ls), .blk gm 52 [.slice Ka q ck, .int .i64 most, .int .i64 ((lost + 1 : Nat) : Int)]] w' := by
  refine ent (n := 38) Try.func7 rfl rfl ?_
  refine wp_seq_k ?_; intro K1 hK1
  refine wlit ?_
  refine wl_e rfl ?_; intro K hK
  refine ow_box hS (tmA rfl rfl) rfl ?_
  clear hS; intro g0_0 w hg0_0 hS
  refine hK _ _ ?_; clear hK K
  refine wl_v (x_assign (ev_cN 0)) ?_
  refine wl_nil ?_
  refine then_n (hK1 _ _ ?_); clear hK1 K1
  refine wp_seq_k ?_; intro K2 hK2
  refine wp_seq_k ?_; intro K3 hK3
  refine wlit ?_
  refine wl_v (x_move (tmP rfl rfl)) ?_
  first
   | refine wl_v (x_peql Try.underlying24 (tmP rfl rfl) ev_c) ?_
   | refine wl_v (x_peqln Try.underlying24 (tmP rfl rfl) ev_c) ?_
  refine wl_nil ?_
  refine then_n (hK3 _ _ ?_); clear hK3 K3
  refine cnd (tm rfl) (fun hc0 => ?_) (fun hc0 => ?_)
  · exfalso
    simp at hc0
  try (exfalso; first | with_reducible exact absurd hc0 Bool.false_ne_true | with_reducible exact absurd hc0.symm Bool.false_ne_true | (simp only [nrm] at hc0; omega) | (simp at hc0; done))
  all_goals
   try simp only [nrm] at hc0
   refine wp_skip ?_
   refine then_n (hK2 _ _ ?_); clear hK2 K2
   refine wp_seq_k ?_; intro K4 hK4
   refine wp_seq_k ?_; intro K5 hK5
   refine rg_startk 0 hS mixed_ ?_
   clear hS; intro w hS
   refine rg_take 0 rfl rfl (by kernel_rfl) (by kernel_rfl) (by kernel_rfl) (want_0) (fun w hok => x_move (tmP rfl rfl)) ?_
   refine rg_take 1 rfl rfl (by kernel_rfl) (by kernel_rfl) (by kernel_rfl) (want_0) (fun w hok => x_nil (A := none) (tmP rfl rfl)) ?_
   refine rg_take 2 rfl rfl (by kernel_rfl) (by kernel_rfl) (by kernel_rfl) (want_0) (fun w hok => x_fa 0 Try.underlying52 rfl rfl ts_50 (tmP rfl rfl)) ?_
   first
    | refine rg_take 3 rfl rfl (by kernel_rfl) (by kernel_rfl) (by kernel_rfl) (want_0) (fun w hok => x_load Try.underlying50 rfl (tmP rfl rfl) (cellB hok 2 rfl rfl)) ?_
    | refine rg_take 3 rfl rfl (by kernel_rfl) (by kernel_rfl) (by kernel_rfl) (want_0) (fun w hok => x_load Try.underlying50 rfl (tmP rfl rfl) (cellR hok 1 rfl rfl)) ?_
    | refine rg_take 3 rfl rfl (by kernel_rfl) (by kernel_rfl) (by kernel_rfl) (want_0) (fun w hok => x_load Try.underlying50 rfl (tmP rfl rfl) (cellR hok 1 rfl (getm (by omega)))) ?_
    | refine rg_take 3 rfl rfl (by kernel_rfl) (by kernel_rfl) (by kernel_rfl) (want_0) (fun w hok => x_load Try.underlying50 rfl (tmP rfl rfl) (cellRs hok 1 rfl (fun _ => rfl) rfl (by omega) rfl)) ?_
   refine rg_take 4 rfl rfl (by kernel_rfl) (by kernel_rfl) (by kernel_rfl) (want_0) (fun w hok => x_len Try.underlying50 (tmS rfl rfl)) ?_
   refine rg_take 5 rfl rfl (by kernel_rfl) (by kernel_rfl) (by kernel_rfl) (want_0) (fun w hok => x_move (tmP rfl rfl)) ?_
   refine rg_take 6 rfl rfl (by kernel_rfl) (by kernel_rfl) (by kernel_rfl) (want_0) (fun w hok => x_nil (A := none) (tmP rfl rfl)) ?_
   refine rg_take 7 rfl rfl (by kernel_rfl) (by kernel_rfl) (by kernel_rfl) (want_0) (fun w hok => x_fa 1 Try.underlying52 rfl rfl ts_3 (tmP rfl rfl)) ?_
   first
    | refine rg_take 8 rfl rfl (by kernel_rfl) (by kernel_rfl) (by kernel_rfl) (want_0) (fun w hok => x_load Try.underlying3 rfl (tmP rfl rfl) (cellB hok 2 rfl rfl)) ?_
    | refine rg_take 8 rfl rfl (by kernel_rfl) (by kernel_rfl) (by kernel_rfl) (want_0) (fun w hok => x_load Try.underlying3 rfl (tmP rfl rfl) (cellR hok 1 rfl rfl)) ?_
    | refine rg_take 8 rfl rfl (by kernel_rfl) (by kernel_rfl) (by kernel_rfl) (want_0) (fun w hok => x_load Try.underlying3 rfl (tmP rfl rfl) (cellR hok 1 rfl (getm (by omega)))) ?_
    | refine rg_take 8 rfl rfl (by kernel_rfl) (by kernel_rfl) (by kernel_rfl) (want_0) (fun w hok => x_load Try.underlying3 rfl (tmP rfl rfl) (cellRs hok 1 rfl (fun _ => rfl) rfl (by omega) rfl)) ?_
   refine rg_take 9 rfl rfl (by kernel_rfl) (by kernel_rfl) (by kernel_rfl) (want_0) (fun w hok => x_geq (tmI rfl rfl) (tmI rfl rfl)) ?_
   refine rg_done (oks_drop hS 0 rfl) (by kernel_rfl) ?_
   refine then_n (hK5 _ _ ?_); clear hK5 K5
   refine cnds (tm rfl) (fun hc1 => ?_) (fun hc1 => ?_)
   · exfalso
     simp only [nrm] at hc1
     omega
   try (exfalso; first | with_reducible exact absurd hc1 Bool.false_ne_true | with_reducible exact absurd hc1.symm Bool.false_ne_true | (simp only [nrm] at hc1; omega) | (simp at hc1; done))
   all_goals
    try simp only [nrm] at hc1
    refine wp_seq_k ?_; intro K6 hK6
    refine wlit ?_
    refine wl_v (x_move (tmP rfl rfl)) ?_
    refine wl_v (x_nil (A := none) (tmP rfl rfl)) ?_
    refine wl_v (x_fa 2 Try.underlying52 rfl rfl ts_3 (tmP rfl rfl)) ?_
    first
     | refine wl_v (x_load Try.underlying3 rfl (tmP rfl rfl) (cellB hS.ok 2 rfl rfl)) ?_
     | refine wl_v (x_load Try.underlying3 rfl (tmP rfl rfl) (cellR hS.ok 1 rfl rfl)) ?_
     | refine wl_v (x_load Try.underlying3 rfl (tmP rfl rfl) (cellR hS.ok 1 rfl (getm (by omega)))) ?_
     | refine wl_v (x_load Try.underlying3 rfl (tmP rfl rfl) (cellRs hS.ok 1 rfl (fun _ => rfl) rfl (by omega) rfl)) ?_
    first
     | refine wl_v (x_addN (tmI rfl rfl) (ev_cN 1) (fit_i64 (by omega))) ?_
     | refine wl_v (x_addI (tmI rfl rfl) (ev_cN 1) (IntWalk.i64_in _ (by omega))) ?_
     | refine wl_v (x_add (tmI rfl rfl) (ev_cN 1)) ?_
    refine wl_v (x_nil (A := none) (tmP rfl rfl)) ?_
    refine wl_v (x_fa 2 Try.underlying52 rfl rfl ts_3 (tmP rfl rfl)) ?_
    refine wl_e rfl ?_; intro K hK
    first
     | refine ow_store hS 1 rfl ts_3 (tmP rfl rfl) (tmI rfl rfl) rfl rfl ?_
     | refine ow_storeX hS 1 rfl ts_3 (tmP rfl rfl) (tmI rfl rfl) rfl (by simp; omega) ?_
     | refine ow_storeRs hS 1 rfl ts_3 (tmP rfl rfl) (tmI rfl rfl) rfl (by first | omega | (simp; omega)) ?_
     | refine ow_storeR hS 1 rfl ts_3 (tmP rfl rfl) (tmI rfl rfl) rfl (by first | omega | (simp; omega)) ?_
     | refine ow_store hS 2 rfl ts_3 (tmP rfl rfl) (tmI rfl rfl) rfl rfl ?_
     | refine ow_storeX hS 2 rfl ts_3 (tmP rfl rfl) (tmI rfl rfl) rfl (by simp; omega) ?_
     | refine ow_storeRs hS 2 rfl ts_3 (tmP rfl rfl) (tmI rfl rfl) rfl (by first | omega | (simp; omega)) ?_
     | refine ow_storeR hS 2 rfl ts_3 (tmP rfl rfl) (tmI rfl rfl) rfl (by first | omega | (simp; omega)) ?_
    clear hS; intro w hS
    refine hK _ _ ?_; clear hK K
    refine wl_nil ?_
    refine then_n (hK6 _ _ ?_); clear hK6 K6
    refine wp_seq_k ?_; intro K7 hK7
    refine wlit ?_
    refine wl_v (x_assign (ev_cN 23)) ?_
    refine wl_nil ?_
    refine then_n (hK7 _ _ ?_); clear hK7 K7
    refine wp_ret ?_
    refine then_r ?_
    refine ret1 rfl (.tmp rfl (show _ = Value.int _ _ from rfl)) ?_
    exact ⟨rfl, hS.pick [1, 2] rfl rfl⟩

theorem map_addS (b o k : Nat) : (some (⟨b, o, none⟩ : Addr)).map (·.add k) = some ⟨b, o + k, none⟩ := by
  unfold Option.map Addr.add
  split
  · next h => subst h; rfl
  · rfl
theorem view_cutS {w : World} {B : Nat} {A : Option Addr} {xs : List Value} {c sz : Nat} (h : View w B A xs) (hc : xs.length ≤ c * sz) (lo : Nat) : View w B (cutA A lo c sz) (xs.drop (lo * sz)) := by
  unfold Go.Proofs.Ytijeegfmfpamkaa.cutA
  split
  · next he =>
    subst he
    rw [List.drop_eq_nil_of_le hc]
    exact View.nil_
  · intro hn
    obtain ⟨b, o, rfl, hb, hx⟩ := h (by rintro rfl; simp at hn)
    refine ⟨b, o + lo * sz, map_addS b o (lo * sz), hb, fun j u hu => ?_⟩
    rw [List.getElem?_drop] at hu
    rw [Nat.add_assoc]
    exact hx _ _ hu
theorem flat_take {α : Type} {enc : α → List Value} {sz : Nat} (he : ∀ x, (enc x).length = sz) (l : List α) (k : Nat) : (flat enc l).take (k * sz) = flat enc (l.take k) := by
  induction l generalizing k with
  | nil => simp [flat]
  | cons x l ih =>
    cases k with
    | zero => simp [flat]
    | succ k =>
      have h1 : flat enc (x :: l) = enc x ++ flat enc l := rfl
      rw [h1, List.take_append, he, Nat.succ_mul, Nat.add_sub_cancel, ih, List.take_of_length_le (by rw [he]; omega)]
      rfl
theorem flat_drop {α : Type} {enc : α → List Value} {sz : Nat} (he : ∀ x, (enc x).length = sz) (l : List α) (k : Nat) : (flat enc l).drop (k * sz) = flat enc (l.drop k) := by
  induction l generalizing k with
  | nil => simp [flat]
  | cons x l ih =>
    cases k with
    | zero => simp [flat]
    | succ k =>
      have h1 : flat enc (x :: l) = enc x ++ flat enc l := rfl
      rw [h1, List.drop_append, he, Nat.succ_mul, Nat.add_sub_cancel, ih, List.drop_eq_nil_of_le (by rw [he]; omega)]
      rfl
theorem flat_append {α : Type} (enc : α → List Value) (l m : List α) : flat enc (l ++ m) = flat enc l ++ flat enc m := by
  unfold flat
  rw [List.map_append, List.flatten_append]
theorem lt_one {ls : List GLt} : ∀ u ∈ flat GLt.V ls, u.oneCell' = true := by
  intro u hu
  unfold flat at hu
  obtain ⟨x, hx, hu⟩ := List.mem_flatten.1 hu
  obtain ⟨r, _, rfl⟩ := List.mem_map.1 hx
  simp only [GLt.V, List.mem_cons, List.not_mem_nil, or_false] at hu
  rcases hu with rfl | rfl | rfl <;> rfl
def cutL {α : Type} (l : List α) (k : Nat) : List α := l.take k ++ l.drop (k + 1)

set_option maxRecDepth 100000 in
set_option maxHeartbeats 4000000 in
theorem mtake_in (gm : Nat) (Ka : Option Addr) (q ck : Nat) (ls : List GLt) (most lost : Int) (k : Nat) (F : List Nat) (w0 : World)
    (hS : St F w0 [.row (.slice Ka q ck) 31 3 q (flat GLt.V ls), .blk gm 52 [.slice Ka q ck, .int .i64 most, .int .i64 lost]] w0)
    (hq : ls.length = q) (hq4 : q ≤ 1000) (hk : k < q) :
    Calls Try.prog 10 #[.pointer (some ⟨gm, 0, none⟩), .int .i64 (k : Int)] w0 fun e w' => ∃ Ka' ck', e = .returned (.tuple #[.agg (ls.getD k default).V.toArray, .int .i64 0]) ∧ St F w0 [.row (.slice Ka' (q - 1) ck') 31 3 (q - 1) (flat GLt.V (cutL ls k)), .blk gm 52 [.slice Ka' (q - 1) ck', .int .i64 most, .int .i64 lost]] w' := by
  obtain ⟨gk, rfl⟩ := row_some (hS.rowOk 0 rfl) (by omega)
  have hck := row_cap (hS.rowOk 0 rfl) (by omega)
  have hfl := flat_length (enc := GLt.V) (l := ls) GLt.len
  refine ent (n := 37) Try.func10 rfl rfl ?_
  refine wp_seq_k ?_; intro K1 hK1
  refine wlit ?_
  refine wl_e rfl ?_; intro K hK
  refine ow_alloc hS tz_31 rfl ?_
  clear hS; intro g0_0 w hg0_0 hS
  refine hK _ _ ?_; clear hK K
  refine wl_v (x_assign (ev_cN 0)) ?_
  refine wl_nil ?_
  refine then_n (hK1 _ _ ?_); clear hK1 K1
  refine wp_seq_k ?_; intro K2 hK2
  refine wp_seq_k ?_; intro K3 hK3
  refine wlit ?_
  refine wl_v (x_move (tmP rfl rfl)) ?_
  refine wl_v (x_move (tmI rfl rfl)) ?_
  refine wl_e rfl ?_; intro K hK
  refine ow_call Try.func20 rfl rfl (evs_cons (tmP rfl rfl) <| evs_cons (tmI rfl rfl) <| evs_nil) (mhas_c gm _ q ck most lost k _ (viewB hS.ok 2 rfl)) ?_
  rintro e w ⟨rfl, hk1⟩
  refine ⟨_, rfl, ?_⟩
  replace hS := hS.kept hk1
  clear hk1
  refine hK _ _ ?_; clear hK K
  refine wl_v (x_not (tmB rfl rfl)) ?_
  refine wl_nil ?_
  refine then_n (hK3 _ _ ?_); clear hK3 K3
  refine cnd (tm rfl) (fun hc0 => ?_) (fun hc0 => ?_)
  · exfalso
    simp at hc0
    omega
  try (exfalso; first | with_reducible exact absurd hc0 Bool.false_ne_true | with_reducible exact absurd hc0.symm Bool.false_ne_true | (simp only [nrm] at hc0; omega) | (simp at hc0; done))
  all_goals
   try simp only [nrm] at hc0
   refine wp_skip ?_
   refine then_n (hK2 _ _ ?_); clear hK2 K2
   refine wp_seq_k ?_; intro K4 hK4
   refine wlit ?_
   refine wl_v (x_move (tmP rfl rfl)) ?_
   refine wl_v (x_nil (A := none) (tmP rfl rfl)) ?_
   refine wl_v (x_fa 0 Try.underlying52 rfl rfl ts_50 (tmP rfl rfl)) ?_
   first
    | refine wl_v (x_load Try.underlying50 rfl (tmP rfl rfl) (cellB hS.ok 2 rfl rfl)) ?_
    | refine wl_v (x_load Try.underlying50 rfl (tmP rfl rfl) (cellR hS.ok 1 rfl rfl)) ?_
    | refine wl_v (x_load Try.underlying50 rfl (tmP rfl rfl) (cellR hS.ok 1 rfl (getm (by omega)))) ?_
    | refine wl_v (x_load Try.underlying50 rfl (tmP rfl rfl) (cellRs hS.ok 1 rfl (fun _ => rfl) rfl (by omega) rfl)) ?_
   refine wl_v (x_move (tmI rfl rfl)) ?_
   refine wl_v (x_ixs Try.underlying50 ts_31 (tmS rfl rfl) (tmI rfl rfl) (by omega)) ?_
   refine wl_v (x_loadA (cs := (ls.getD k default).V) Try.underlying31 rfl (by exact ts_31) (tmP rfl rfl) (rangeRs hS.ok 1 rfl GLt.len (by omega))) ?_
   refine wl_e rfl ?_; intro K hK
   refine ow_alloc hS tz_31 rfl ?_
   clear hS; intro g3_7 w hg3_7 hS
   refine hK _ _ ?_; clear hK K
   refine wl_e rfl ?_; intro K hK
   refine ow_storeA hS 0 rfl ts_31 (tmP rfl rfl) (tmA rfl rfl) rfl rfl rfl ?_
   clear hS; intro w hS
   try replace hS := St.nm (M' := [.blk _ _ [_, _, _], .blk _ _ [_, _, _], .row _ _ _ _ _, _]) hS rfl
   refine hK _ _ ?_; clear hK K
   refine wl_nil ?_
   refine then_n (hK4 _ _ ?_); clear hK4 K4
   refine wp_seq_k ?_; intro K5 hK5
   --ents row,gm,g3_7,g0_0
   replace hS := hS.pick [2, 3, 0, 1] rfl rfl
   try replace hS := St.nm (M' := [.row _ _ _ _ _, _, .blk _ _ [_, _, _], .blk _ _ [_, _, _]]) hS rfl
   refine rg_startk 2 hS mixed_ ?_
   clear hS; intro w hS
   refine rg_take 0 rfl rfl (by kernel_rfl) (by kernel_rfl) (by kernel_rfl) (want_0) (fun w hok => x_move (tmP rfl rfl)) ?_
   refine rg_take 1 rfl rfl (by kernel_rfl) (by kernel_rfl) (by kernel_rfl) (want_0) (fun w hok => x_move (tmP rfl rfl)) ?_
   refine rg_take 2 rfl rfl (by kernel_rfl) (by kernel_rfl) (by kernel_rfl) (want_0) (fun w hok => x_nil (A := none) (tmP rfl rfl)) ?_
   refine rg_take 3 rfl rfl (by kernel_rfl) (by kernel_rfl) (by kernel_rfl) (want_0) (fun w hok => x_fa 0 Try.underlying52 rfl rfl ts_50 (tmP rfl rfl)) ?_
   refine rg_take 5 rfl rfl (by kernel_rfl) (by kernel_rfl) (by kernel_rfl) (want_0) (fun w hok => x_move (tmI rfl rfl)) ?_
   refine rg_take 7 rfl rfl (by kernel_rfl) (by kernel_rfl) (by kernel_rfl) (want_0) (fun w hok => x_move (tmP rfl rfl)) ?_
   refine rg_take 8 rfl rfl (by kernel_rfl) (by kernel_rfl) (by kernel_rfl) (want_0) (fun w hok => x_nil (A := none) (tmP rfl rfl)) ?_
   refine rg_take 9 rfl rfl (by kernel_rfl) (by kernel_rfl) (by kernel_rfl) (want_0) (fun w hok => x_fa 0 Try.underlying52 rfl rfl ts_50 (tmP rfl rfl)) ?_
   refine rg_take 11 rfl rfl (by kernel_rfl) (by kernel_rfl) (by kernel_rfl) (want_0) (fun w hok => x_move (tmI rfl rfl)) ?_
   first
    | refine rg_take 12 rfl rfl (by kernel_rfl) (by kernel_rfl) (by kernel_rfl) (want_0) (fun w hok => x_addN (tmI rfl rfl) (ev_cN 1) (fit_i64 (by omega))) ?_
    | refine rg_take 12 rfl rfl (by kernel_rfl) (by kernel_rfl) (by kernel_rfl) (want_0) (fun w hok => x_addI (tmI rfl rfl) (ev_cN 1) (IntWalk.i64_in _ (by omega))) ?_
    | refine rg_take 12 rfl rfl (by kernel_rfl) (by kernel_rfl) (by kernel_rfl) (want_0) (fun w hok => x_add (tmI rfl rfl) (ev_cN 1)) ?_
   refine rg_step2 4 10 rfl rfl (by kernel_rfl) (want_0) (want_0) (oks_drop hS 2 rfl) ?_ ?_
   · intro K hK
     first
      | refine ow_v (x_load Try.underlying50 rfl (tmP rfl rfl) (cellB hS.ok 1 rfl rfl)) ?_
      | refine ow_v (x_load Try.underlying50 rfl (tmP rfl rfl) (cellR hS.ok 0 rfl rfl)) ?_
      | refine ow_v (x_load Try.underlying50 rfl (tmP rfl rfl) (cellR hS.ok 0 rfl (getm (by omega)))) ?_
      | refine ow_v (x_load Try.underlying50 rfl (tmP rfl rfl) (cellRs hS.ok 0 rfl (fun _ => rfl) rfl (by omega) rfl)) ?_
     refine hK _ _ ?_; clear hK K
     refine rg_take 6 rfl rfl (by kernel_rfl) (by kernel_rfl) (by kernel_rfl) (want_0) (fun w hok => x_sliceH Try.underlying50 ts_31 (tmS rfl rfl) (tmI rfl rfl) (by omega)) ?_
     refine rg_step 10 rfl (by kernel_rfl) (want_0) (oks_drop hS 2 rfl) ?_; intro K hK
     first
      | refine ow_v (x_load Try.underlying50 rfl (tmP rfl rfl) (cellB hS.ok 1 rfl rfl)) ?_
      | refine ow_v (x_load Try.underlying50 rfl (tmP rfl rfl) (cellR hS.ok 0 rfl rfl)) ?_
      | refine ow_v (x_load Try.underlying50 rfl (tmP rfl rfl) (cellR hS.ok 0 rfl (getm (by omega)))) ?_
      | refine ow_v (x_load Try.underlying50 rfl (tmP rfl rfl) (cellRs hS.ok 0 rfl (fun _ => rfl) rfl (by omega) rfl)) ?_
     refine hK _ _ ?_; clear hK K
     refine rg_take 13 rfl rfl (by kernel_rfl) (by kernel_rfl) (by kernel_rfl) (want_0) (fun w hok => x_sliceL Try.underlying50 ts_31 (tmS rfl rfl) (tmI rfl rfl) (by omega)) ?_
     refine rg_step 14 rfl (by kernel_rfl) (want_0) (oks_drop hS 2 rfl) ?_; intro K hK
     have hvs := view_cutS (c := ck) (sz := 3) (viewR hS.ok 0 rfl) (by rw [hfl]; omega) (k + 1)
     rw [flat_drop GLt.len] at hvs
     replace hS := hS.shrink 0 k rfl (by omega)
     rw [flat_take GLt.len] at hS
     refine ow_appendV hS 0 rfl hvs Try.underlying50 tz_31 rfl (tmS rfl (congrArg (fun q => Value.slice q k ck) cutA_zero)) (tmS rfl rfl) lt_one ⟨by decide, by rw [flat_length GLt.len, List.length_drop]; omega⟩ (by simp only [maxLen]; omega) (by omega) ?_
     clear hS; intro A4 c4 w hA4 hC4 hS
     refine hK _ _ ?_; clear hK K
     refine rg_take 15 rfl rfl (by kernel_rfl) (by kernel_rfl) (by kernel_rfl) (want_0) (fun w hok => x_nil (A := none) (tmP rfl rfl)) ?_
     refine rg_take 16 rfl rfl (by kernel_rfl) (by kernel_rfl) (by kernel_rfl) (want_0) (fun w hok => x_fa 0 Try.underlying52 rfl rfl ts_50 (tmP rfl rfl)) ?_
     refine rg_step 17 rfl (by kernel_rfl) (want_0) (oks_drop hS 2 rfl) ?_; intro K hK
     first
      | refine ow_store hS 0 rfl ts_50 (tmP rfl rfl) (tmS rfl rfl) rfl rfl ?_
      | refine ow_storeX hS 0 rfl ts_50 (tmP rfl rfl) (tmS rfl rfl) rfl (by simp; omega) ?_
      | refine ow_storeRs hS 0 rfl ts_50 (tmP rfl rfl) (tmS rfl rfl) rfl (by first | omega | (simp; omega)) ?_
      | refine ow_storeR hS 0 rfl ts_50 (tmP rfl rfl) (tmS rfl rfl) rfl (by first | omega | (simp; omega)) ?_
      | refine ow_store hS 1 rfl ts_50 (tmP rfl rfl) (tmS rfl rfl) rfl rfl ?_
      | refine ow_storeX hS 1 rfl ts_50 (tmP rfl rfl) (tmS rfl rfl) rfl (by simp; omega) ?_
      | refine ow_storeRs hS 1 rfl ts_50 (tmP rfl rfl) (tmS rfl rfl) rfl (by first | omega | (simp; omega)) ?_
      | refine ow_storeR hS 1 rfl ts_50 (tmP rfl rfl) (tmS rfl rfl) rfl (by first | omega | (simp; omega)) ?_
     clear hS; intro w hS
     refine hK _ _ ?_; clear hK K
     refine rg_done (oks_drop hS 2 rfl) (by kernel_rfl) ?_
     refine then_n (hK5 _ _ ?_); clear hK5 K5
     refine wp_seq_k ?_; intro K6 hK6
     refine wlit ?_
     refine wl_v (x_loadA (cs := [_, _, _]) Try.underlying31 rfl ts_31 (tmP rfl rfl) (rangeB hS.ok 2 rfl rfl)) ?_
     refine wl_e rfl ?_; intro K hK
     refine ow_storeA hS 3 rfl ts_31 (tmP rfl rfl) (tmA rfl rfl) rfl rfl rfl ?_
     clear hS; intro w hS
     try replace hS := St.nm (M' := [.row _ _ _ _ _, _, .blk _ _ [_, _, _], .blk _ _ [_, _, _]]) hS rfl
     refine hK _ _ ?_; clear hK K
     refine wl_v (x_assign (ev_cN 0)) ?_
     refine wl_nil ?_
     refine then_n (hK6 _ _ ?_); clear hK6 K6
     refine wp_ret ?_
     refine ret2 rfl (.cell rfl rfl (load_rowB (cs := [_, _, _]) hS.ok 3 rfl Try.underlying31 rfl ts_31 rfl)) (.tmp rfl (show _ = Value.int _ _ from rfl)) ?_
     have hqk : k + (q - (k + 1)) = q - 1 := by omega
     have h2 : St F w0 [.row (.slice A4 (k + (q - (k + 1))) c4) 31 3 (k + (q - (k + 1))) (flat GLt.V (ls.take k) ++ flat GLt.V (ls.drop (k + 1))), .blk gm 52 [.slice A4 (k + (q - (k + 1))) c4, .int .i64 most, .int .i64 lost]] w := hS.pick [0, 1] rfl rfl
     rw [hqk, ← flat_append] at h2
     exact ⟨A4, c4, rfl, h2⟩
   · intro K hK
     first
      | refine ow_v (x_load Try.underlying50 rfl (tmP rfl rfl) (cellB hS.ok 1 rfl rfl)) ?_
      | refine ow_v (x_load Try.underlying50 rfl (tmP rfl rfl) (cellR hS.ok 0 rfl rfl)) ?_
      | refine ow_v (x_load Try.underlying50 rfl (tmP rfl rfl) (cellR hS.ok 0 rfl (getm (by omega)))) ?_
      | refine ow_v (x_load Try.underlying50 rfl (tmP rfl rfl) (cellRs hS.ok 0 rfl (fun _ => rfl) rfl (by omega) rfl)) ?_
     refine hK _ _ ?_; clear hK K
     refine rg_take 13 rfl rfl (by kernel_rfl) (by kernel_rfl) (by kernel_rfl) (want_0) (fun w hok => x_sliceL Try.underlying50 ts_31 (tmS rfl rfl) (tmI rfl rfl) (by omega)) ?_
     refine rg_step 4 rfl (by kernel_rfl) (want_0) (oks_drop hS 2 rfl) ?_; intro K hK
     first
      | refine ow_v (x_load Try.underlying50 rfl (tmP rfl rfl) (cellB hS.ok 1 rfl rfl)) ?_
      | refine ow_v (x_load Try.underlying50 rfl (tmP rfl rfl) (cellR hS.ok 0 rfl rfl)) ?_
      | refine ow_v (x_load Try.underlying50 rfl (tmP rfl rfl) (cellR hS.ok 0 rfl (getm (by omega)))) ?_
      | refine ow_v (x_load Try.underlying50 rfl (tmP rfl rfl) (cellRs hS.ok 0 rfl (fun _ => rfl) rfl (by omega) rfl)) ?_
     refine hK _ _ ?_; clear hK K
     refine rg_take 6 rfl rfl (by kernel_rfl) (by kernel_rfl) (by kernel_rfl) (want_0) (fun w hok => x_sliceH Try.underlying50 ts_31 (tmS rfl rfl) (tmI rfl rfl) (by omega)) ?_
     refine rg_step 14 rfl (by kernel_rfl) (want_0) (oks_drop hS 2 rfl) ?_; intro K hK
     have hvs := view_cutS (c := ck) (sz := 3) (viewR hS.ok 0 rfl) (by rw [hfl]; omega) (k + 1)
     rw [flat_drop GLt.len] at hvs
     replace hS := hS.shrink 0 k rfl (by omega)
     rw [flat_take GLt.len] at hS
     refine ow_appendV hS 0 rfl hvs Try.underlying50 tz_31 rfl (tmS rfl (congrArg (fun q => Value.slice q k ck) cutA_zero)) (tmS rfl rfl) lt_one ⟨by decide, by rw [flat_length GLt.len, List.length_drop]; omega⟩ (by simp only [maxLen]; omega) (by omega) ?_
     clear hS; intro A4 c4 w hA4 hC4 hS
     refine hK _ _ ?_; clear hK K
     refine rg_take 15 rfl rfl (by kernel_rfl) (by kernel_rfl) (by kernel_rfl) (want_0) (fun w hok => x_nil (A := none) (tmP rfl rfl)) ?_
     refine rg_take 16 rfl rfl (by kernel_rfl) (by kernel_rfl) (by kernel_rfl) (want_0) (fun w hok => x_fa 0 Try.underlying52 rfl rfl ts_50 (tmP rfl rfl)) ?_
     refine rg_step 17 rfl (by kernel_rfl) (want_0) (oks_drop hS 2 rfl) ?_; intro K hK
     first
      | refine ow_store hS 0 rfl ts_50 (tmP rfl rfl) (tmS rfl rfl) rfl rfl ?_
      | refine ow_storeX hS 0 rfl ts_50 (tmP rfl rfl) (tmS rfl rfl) rfl (by simp; omega) ?_
      | refine ow_storeRs hS 0 rfl ts_50 (tmP rfl rfl) (tmS rfl rfl) rfl (by first | omega | (simp; omega)) ?_
      | refine ow_storeR hS 0 rfl ts_50 (tmP rfl rfl) (tmS rfl rfl) rfl (by first | omega | (simp; omega)) ?_
      | refine ow_store hS 1 rfl ts_50 (tmP rfl rfl) (tmS rfl rfl) rfl rfl ?_
      | refine ow_storeX hS 1 rfl ts_50 (tmP rfl rfl) (tmS rfl rfl) rfl (by simp; omega) ?_
      | refine ow_storeRs hS 1 rfl ts_50 (tmP rfl rfl) (tmS rfl rfl) rfl (by first | omega | (simp; omega)) ?_
      | refine ow_storeR hS 1 rfl ts_50 (tmP rfl rfl) (tmS rfl rfl) rfl (by first | omega | (simp; omega)) ?_
     clear hS; intro w hS
     refine hK _ _ ?_; clear hK K
     refine rg_done (oks_drop hS 2 rfl) (by kernel_rfl) ?_
     refine then_n (hK5 _ _ ?_); clear hK5 K5
     refine wp_seq_k ?_; intro K8 hK8
     refine wlit ?_
     refine wl_v (x_loadA (cs := [_, _, _]) Try.underlying31 rfl ts_31 (tmP rfl rfl) (rangeB hS.ok 2 rfl rfl)) ?_
     refine wl_e rfl ?_; intro K hK
     refine ow_storeA hS 3 rfl ts_31 (tmP rfl rfl) (tmA rfl rfl) rfl rfl rfl ?_
     clear hS; intro w hS
     try replace hS := St.nm (M' := [.row _ _ _ _ _, _, .blk _ _ [_, _, _], .blk _ _ [_, _, _]]) hS rfl
     refine hK _ _ ?_; clear hK K
     refine wl_v (x_assign (ev_cN 0)) ?_
     refine wl_nil ?_
     refine then_n (hK8 _ _ ?_); clear hK8 K8
     refine wp_ret ?_
     refine ret2 rfl (.cell rfl rfl (load_rowB (cs := [_, _, _]) hS.ok 3 rfl Try.underlying31 rfl ts_31 rfl)) (.tmp rfl (show _ = Value.int _ _ from rfl)) ?_
     have hqk : k + (q - (k + 1)) = q - 1 := by omega
     have h2 : St F w0 [.row (.slice A4 (k + (q - (k + 1))) c4) 31 3 (k + (q - (k + 1))) (flat GLt.V (ls.take k) ++ flat GLt.V (ls.drop (k + 1))), .blk gm 52 [.slice A4 (k + (q - (k + 1))) c4, .int .i64 most, .int .i64 lost]] w := hS.pick [0, 1] rfl rfl
     rw [hqk, ← flat_append] at h2
     exact ⟨A4, c4, rfl, h2⟩

set_option maxRecDepth 100000 in
set_option maxHeartbeats 4000000 in
theorem mtake_out (gm : Nat) (Ka : Option Addr) (q ck : Nat) (most lost : Int) (i : Int) (w0 : World)
    (hv : View w0 w0.heap.size (some ⟨gm, 0, none⟩) [.slice Ka q ck, .int .i64 most, .int .i64 lost]) (hi : ¬ (0 ≤ i ∧ i < (q : Int))) :
    Calls Try.prog 10 #[.pointer (some ⟨gm, 0, none⟩), .int .i64 i] w0 fun e w' => e = .returned (.tuple #[.agg #[.int .i64 0, .bool false, .slice none 0 0], .int .i64 6]) ∧ Kp [] w0 w' := by
  have hS := (St.sv w0).vcons rfl hv
  refine ent (n := 37) Try.func10 rfl rfl ?_
  refine wp_seq_k ?_; intro K1 hK1
  refine wlit ?_
  refine wl_e rfl ?_; intro K hK
  refine ow_alloc hS tz_31 rfl ?_
  clear hS; intro g0_0 w hg0_0 hS
  refine hK _ _ ?_; clear hK K
  refine wl_v (x_assign (ev_cN 0)) ?_
  refine wl_nil ?_
  refine then_n (hK1 _ _ ?_); clear hK1 K1
  refine wp_seq_k ?_; intro K2 hK2
  refine wp_seq_k ?_; intro K3 hK3
  refine wlit ?_
  refine wl_v (x_move (tmP rfl rfl)) ?_
  refine wl_v (x_move (tmI rfl rfl)) ?_
  refine wl_e rfl ?_; intro K hK
  refine ow_call Try.func20 rfl rfl (evs_cons (tmP rfl rfl) <| evs_cons (tmI rfl rfl) <| evs_nil) (mhas_c gm _ q ck most lost i _ (viewV hS.ok 1 rfl)) ?_
  rintro e w ⟨rfl, hk1⟩
  refine ⟨_, rfl, ?_⟩
  replace hS := hS.kept hk1
  clear hk1
  refine hK _ _ ?_; clear hK K
  refine wl_v (x_not (tmB rfl rfl)) ?_
  refine wl_nil ?_
  refine then_n (hK3 _ _ ?_); clear hK3 K3
  refine cnds (tm rfl) (fun hc0 => ?_) (fun hc0 => ?_)
  · exfalso
    simp at hc0
    omega
  try (exfalso; first | with_reducible exact absurd hc0 Bool.false_ne_true | with_reducible exact absurd hc0.symm Bool.false_ne_true | (simp only [nrm] at hc0; omega) | (simp at hc0; done))
  all_goals
   try simp only [nrm] at hc0
   refine wp_seq_k ?_; intro K4 hK4
   refine wlit ?_
   refine wl_v (x_build (bc_skip (.int .i64 0) <| bc_skip (.bool false) <| bc_skip (.slice none 0 0) <| bc_nil) (by kernel_rfl)) ?_
   refine wl_e rfl ?_; intro K hK
   refine ow_storeA hS 0 rfl ts_31 (tmP rfl rfl) (tmA rfl rfl) rfl rfl rfl ?_
   clear hS; intro w hS
   try replace hS := St.nm (M' := [.blk _ _ [_, _, _], .vw _ _]) hS rfl
   refine hK _ _ ?_; clear hK K
   refine wl_v (x_assign (ev_cN 6)) ?_
   refine wl_nil ?_
   refine then_n (hK4 _ _ ?_); clear hK4 K4
   refine wp_ret ?_
   refine then_r ?_
   refine ret2 rfl (.cell rfl rfl (load_rowB (cs := [_, _, _]) hS.ok 0 rfl Try.underlying31 rfl ts_31 rfl)) (.tmp rfl (show _ = Value.int _ _ from rfl)) ?_
   exact ⟨rfl, hS.kp⟩

def keepL (node : Int) (ls : List GLt) : List GLt := ls.filter fun r => decide (r.node ≠ node)
theorem keepL_snoc (node : Int) (ls : List GLt) (k : Nat) (hk : k < ls.length) : keepL node (ls.take (k + 1)) = if (ls.getD k default).node = node then keepL node (ls.take k) else keepL node (ls.take k) ++ [ls.getD k default] := by
  unfold keepL
  rw [List.take_succ_eq_append_getElem hk, List.filter_append, List.getD_eq_getElem?_getD, List.getElem?_eq_getElem hk]
  by_cases h : ls[k].node = node <;> simp [h]
theorem keepL_le (node : Int) (ls : List GLt) : (keepL node ls).length ≤ ls.length := List.length_filter_le _ _

set_option maxRecDepth 100000 in
set_option maxHeartbeats 4000000 in
theorem mclear_c (gm : Nat) (Ka : Option Addr) (q ck : Nat) (ls : List GLt) (most : Int) (lost : Nat) (node : Int) (F : List Nat) (w0 : World)
    (hS : St F w0 [.row (.slice Ka q ck) 31 3 q (flat GLt.V ls), .blk gm 52 [.slice Ka q ck, .int .i64 most, .int .i64 (lost : Int)]] w0)
    (hq : ls.length = q) (hq4 : q ≤ 1000) (hlost : lost ≤ 1000000) :
    Calls Try.prog 9 #[.pointer (some ⟨gm, 0, none⟩), .int .i64 node] w0 fun e w' => ∃ Ka' q' ck' n, q' = (keepL node ls).length ∧ n + q' = q ∧ e = .returned (.int .i64 ((n : Nat) : Int)) ∧ St F w0 [.row (.slice Ka' q' ck') 31 3 q' (flat GLt.V (keepL node ls)), .blk gm 52 [.slice Ka' q' ck', .int .i64 most, .int .i64 ((lost + n : Nat) : Int)]] w' := by
  have hS' := hS
  refine ent (n := 50) Try.func9 rfl rfl ?_
  refine wp_seq_k ?_; intro K1 hK1
  refine wlit ?_
  refine wl_v (x_assign (ev_cN 0)) ?_
  refine wl_nil ?_
  refine then_n (hK1 _ _ ?_); clear hK1 K1
  refine wp_seq_k ?_; intro K2 hK2
  refine wp_seq_k ?_; intro K3 hK3
  refine wlit ?_
  refine wl_v (x_move (tmP rfl rfl)) ?_
  first
   | refine wl_v (x_peql Try.underlying24 (tmP rfl rfl) ev_c) ?_
   | refine wl_v (x_peqln Try.underlying24 (tmP rfl rfl) ev_c) ?_
  refine wl_nil ?_
  refine then_n (hK3 _ _ ?_); clear hK3 K3
  refine cnd (tm rfl) (fun hc0 => ?_) (fun hc0 => ?_)
  · exfalso
    simp at hc0
  try (exfalso; first | with_reducible exact absurd hc0 Bool.false_ne_true | with_reducible exact absurd hc0.symm Bool.false_ne_true | (simp only [nrm] at hc0; omega) | (simp at hc0; done))
  all_goals
   try simp only [nrm] at hc0
   refine wp_skip ?_
   refine then_n (hK2 _ _ ?_); clear hK2 K2
   refine wp_seq_k ?_; intro K4 hK4
   refine wlit ?_
   refine wl_v (x_assign ev_c) ?_
   refine wl_nil ?_
   refine then_n (hK4 _ _ ?_); clear hK4 K4
   refine wp_seq_k ?_; intro K5 hK5
   refine wp_seq_k ?_; intro K6 hK6
   refine wlit ?_
   refine wl_v (x_move (tmP rfl rfl)) ?_
   refine wl_v (x_nil (A := none) (tmP rfl rfl)) ?_
   refine wl_v (x_fa 0 Try.underlying52 rfl rfl ts_50 (tmP rfl rfl)) ?_
   first
    | refine wl_v (x_load Try.underlying50 rfl (tmP rfl rfl) (cellB hS.ok 1 rfl rfl)) ?_
    | refine wl_v (x_load Try.underlying50 rfl (tmP rfl rfl) (cellR hS.ok 0 rfl rfl)) ?_
    | refine wl_v (x_load Try.underlying50 rfl (tmP rfl rfl) (cellR hS.ok 0 rfl (getm (by omega)))) ?_
    | refine wl_v (x_load Try.underlying50 rfl (tmP rfl rfl) (cellRs hS.ok 0 rfl (fun _ => rfl) rfl (by omega) rfl)) ?_
   refine wl_v (x_len Try.underlying50 (tmS rfl rfl)) ?_
   refine wl_v (x_move (ev_cN 0)) ?_
   refine wl_nil ?_
   refine then_n (hK6 _ _ ?_); clear hK6 K6
   refine wp_block ?_
   have hS := hS.nilrow 31 3
   refine lp [5, 7, 16, 17, 18, 19, 20, 21, 22, 23, 24, 25, 26, 27, 28] (fun mz g w => ∃ (k : Nat), ∃ (A' : Option Addr), ∃ (m : Nat), ∃ (c' : Nat), mz = q - k ∧ g 16 = .int .i64 (k : Int) ∧ g 5 = .slice A' m c' ∧ St F w0 [.row (.slice A' m c') 31 3 m (flat GLt.V (keepL node (ls.take k))), .row (.slice Ka q ck) 31 3 q (flat GLt.V ls), .blk gm 52 [.slice Ka q ck, .int .i64 most, .int .i64 (lost : Int)]] w ∧ (k ≤ q) ∧ (m = (keepL node (ls.take k)).length)) ?_ ?_
   · exact ⟨_, 0, none, 0, 0, rfl, (by first | rfl | go_num | exact congrArg (Value.int _) (by first | omega | (simp; done) | (simp; omega))), (by first | rfl | go_num | exact congrArg (Value.int _) (by first | omega | (simp; done) | (simp; omega))), hS, (by omega), (by first | rfl | (rw [hsn, List.length_append, ← hm]; rfl) | (rw [hsn]; exact hm))⟩
   · clear hS; intro mz g w hI
     obtain ⟨k, A', m, c', rfl, hs16, hs5, hS, hk, hm⟩ := hI
     refine fr_know (d := 16) hs16 ?_; clear hs16
     refine fr_know (d := 5) hs5 ?_; clear hs5
     refine wp_seq_k ?_; intro K7 hK7
     refine wlit ?_
     refine wl_v (x_lss (tmI rfl rfl) (tmI rfl rfl)) ?_
     refine wl_nil ?_
     refine then_n (hK7 _ _ ?_); clear hK7 K7
     refine wp_seq_k ?_; intro K8 hK8
     refine cnd (tm rfl) (fun hc1 => ?_) (fun hc1 => ?_)
     · try (exfalso; first | with_reducible exact absurd hc1 Bool.false_ne_true | with_reducible exact absurd hc1.symm Bool.false_ne_true | (simp only [nrm] at hc1; omega) | (simp at hc1; done))
       all_goals
        try simp only [nrm] at hc1
        obtain ⟨gk, rfl⟩ := row_some (hS.rowOk 1 rfl) (by omega)
        refine wp_skip ?_
        refine then_n (hK8 _ _ ?_); clear hK8 K8
        refine wp_seq_k ?_; intro K9 hK9
        refine wp_block ?_
        refine wp_seq_k ?_; intro K10 hK10
        refine wlit ?_
        refine wl_v (x_ixs Try.underlying50 ts_31 (tmS rfl rfl) (tmI rfl rfl) (by omega)) ?_
        refine wl_v (x_loadA (cs := (ls.getD k default).V) Try.underlying31 rfl (by exact ts_31) (tmP rfl rfl) (rangeRs hS.ok 1 rfl GLt.len (by omega))) ?_
        refine wl_e rfl ?_; intro K hK
        refine ow_alloc hS tz_31 rfl ?_
        clear hS; intro g6_2 w hg6_2 hS
        refine hK _ _ ?_; clear hK K
        refine wl_e rfl ?_; intro K hK
        refine ow_storeA hS 0 rfl ts_31 (tmP rfl rfl) (tmA rfl rfl) rfl rfl rfl ?_
        clear hS; intro w hS
        try replace hS := St.nm (M' := [.blk _ _ [_, _, _], .row _ _ _ _ _, .row _ _ _ _ _, _]) hS rfl
        refine hK _ _ ?_; clear hK K
        refine wl_nil ?_
        refine then_n (hK10 _ _ ?_); clear hK10 K10
        refine wp_seq_k ?_; intro K11 hK11
        refine wlit ?_
        refine wl_v (x_fa 0 Try.underlying31 rfl rfl ts_3 (tmP rfl rfl)) ?_
        first
         | refine wl_v (x_load Try.underlying3 rfl (tmP rfl rfl) (cellB hS.ok 0 rfl rfl)) ?_
         | refine wl_v (x_load Try.underlying3 rfl (tmP rfl rfl) (cellB hS.ok 0 rfl (getm (by omega)))) ?_
        refine wl_v (x_move (tmI rfl rfl)) ?_
        refine wl_v (x_neq (tmI rfl rfl) (tmI rfl rfl)) ?_
        refine wl_nil ?_
        refine then_n (hK11 _ _ ?_); clear hK11 K11
        refine cnd (tm rfl) (fun hc2 => ?_) (fun hc2 => ?_)
        · try (exfalso; first | with_reducible exact absurd hc2 Bool.false_ne_true | with_reducible exact absurd hc2.symm Bool.false_ne_true | (simp only [nrm] at hc2; omega) | (simp at hc2; done))
          all_goals
           try simp only [nrm] at hc2
           have hsn := keepL_snoc node ls k (by omega)
           have hmk := keepL_le node (ls.take k)
           rw [← hm, List.length_take] at hmk
           rw [if_neg (by simpa using hc2)] at hsn
           refine wlit ?_
           refine wl_v (x_move (tmS rfl rfl)) ?_
           refine wl_v (x_loadA (cs := [_, _, _]) Try.underlying31 rfl ts_31 (tmP rfl rfl) (rangeB hS.ok 0 rfl rfl)) ?_
           refine wl_e rfl ?_; intro K hK
           refine ow_build hS Try.underlying50 tz_31 (bc_takeL (tmA rfl rfl) <| bc_nil) rfl rfl (by kernel_rfl) ?_
           clear hS; intro g8_2 w hg8_2 hS
           refine hK _ _ ?_; clear hK K
           refine wl_e rfl ?_; intro K hK
           first
            | (refine ow_append hS 2 0 rfl rfl Try.underlying50 tz_31 rfl (tmS rfl rfl) (tmS rfl rfl) rfl ⟨by decide, by decide, rfl⟩ (by simp only [maxLen]; omega) (by omega) ?_; clear hS; intro g8_3 cg8_3 w hS)
            | (refine ow_append hS 3 0 rfl rfl Try.underlying50 tz_31 rfl (tmS rfl rfl) (tmS rfl rfl) rfl ⟨by decide, by decide, rfl⟩ (by simp only [maxLen]; omega) (by omega) ?_; clear hS; intro g8_3 cg8_3 w hS)
           refine hK _ _ ?_; clear hK K
           refine wl_v (x_assign (tmS rfl rfl)) ?_
           refine wl_nil ?_
           refine inb_n ?_
           refine then_n (hK9 _ _ ?_); clear hK9 K9
           refine wlit ?_
           first
            | refine wl_v (x_addN (tmI rfl rfl) (ev_cN 1) (fit_i64 (by omega))) ?_
            | refine wl_v (x_addI (tmI rfl rfl) (ev_cN 1) (IntWalk.i64_in _ (by omega))) ?_
            | refine wl_v (x_add (tmI rfl rfl) (ev_cN 1)) ?_
           refine wl_v (x_move (tmI rfl rfl)) ?_
           refine wl_nil ?_
           first
            | exact then_n ⟨_, _, rfl, (by show _ < _; omega), (by repeat (first | exact agree_self | exact agree_refl | refine agree_upd rfl ?_ | refine agree_mix rfl ?_)), k + 1, _, _, _, rfl, (by first | rfl | go_num | exact congrArg (Value.int _) (by first | omega | (simp; done) | (simp; omega))), (by first | rfl | go_num | exact congrArg (Value.int _) (by first | omega | (simp; done) | (simp; omega))), (by rw [hsn, flat_snoc]; exact hS.pick [2, 3, 4] rfl rfl), (by omega), (by first | rfl | (rw [hsn, List.length_append, ← hm]; rfl) | (rw [hsn]; exact hm))⟩
            | exact then_n ⟨_, _, rfl, (by show _ < _; omega), (by repeat (first | exact agree_self | exact agree_refl | refine agree_upd rfl ?_ | refine agree_mix rfl ?_)), k + 1, _, _, _, rfl, (by first | rfl | go_num | exact congrArg (Value.int _) (by first | omega | (simp; done) | (simp; omega))), (by first | rfl | go_num | exact congrArg (Value.int _) (by first | omega | (simp; done) | (simp; omega))), (by rw [hsn]; exact hS.pick [2, 3, 4] rfl rfl), (by omega), (by first | rfl | (rw [hsn, List.length_append, ← hm]; rfl) | (rw [hsn]; exact hm))⟩
        try (exfalso; first | with_reducible exact absurd hc2 Bool.false_ne_true | with_reducible exact absurd hc2.symm Bool.false_ne_true | (simp only [nrm] at hc2; omega) | (simp at hc2; done))
        all_goals
         try simp only [nrm] at hc2
         have hsn := keepL_snoc node ls k (by omega)
         rw [if_pos (by simpa using hc2)] at hsn
         refine wp_skip ?_
         refine inb_n ?_
         refine then_n (hK9 _ _ ?_); clear hK9 K9
         refine wlit ?_
         first
          | refine wl_v (x_addN (tmI rfl rfl) (ev_cN 1) (fit_i64 (by omega))) ?_
          | refine wl_v (x_addI (tmI rfl rfl) (ev_cN 1) (IntWalk.i64_in _ (by omega))) ?_
          | refine wl_v (x_add (tmI rfl rfl) (ev_cN 1)) ?_
         refine wl_v (x_move (tmI rfl rfl)) ?_
         refine wl_nil ?_
         first
          | exact then_n ⟨_, _, rfl, (by show _ < _; omega), (by repeat (first | exact agree_self | exact agree_refl | refine agree_upd rfl ?_ | refine agree_mix rfl ?_)), k + 1, _, _, _, rfl, (by first | rfl | go_num | exact congrArg (Value.int _) (by first | omega | (simp; done) | (simp; omega))), (by first | rfl | go_num | exact congrArg (Value.int _) (by first | omega | (simp; done) | (simp; omega))), (by rw [hsn, flat_snoc]; exact hS.pick [1, 2, 3] rfl rfl), (by omega), (by first | rfl | (rw [hsn, List.length_append, ← hm]; rfl) | (rw [hsn]; exact hm))⟩
          | exact then_n ⟨_, _, rfl, (by show _ < _; omega), (by repeat (first | exact agree_self | exact agree_refl | refine agree_upd rfl ?_ | refine agree_mix rfl ?_)), k + 1, _, _, _, rfl, (by first | rfl | go_num | exact congrArg (Value.int _) (by first | omega | (simp; done) | (simp; omega))), (by first | rfl | go_num | exact congrArg (Value.int _) (by first | omega | (simp; done) | (simp; omega))), (by rw [hsn]; exact hS.pick [1, 2, 3] rfl rfl), (by omega), (by first | rfl | (rw [hsn, List.length_append, ← hm]; rfl) | (rw [hsn]; exact hm))⟩
     try (exfalso; first | with_reducible exact absurd hc1 Bool.false_ne_true | with_reducible exact absurd hc1.symm Bool.false_ne_true | (simp only [nrm] at hc1; omega) | (simp at hc1; done))
     all_goals
      try simp only [nrm] at hc1
      refine wp_exit ?_
      refine then_x ?_; clear hK8 K8
      refine then_x ?_
      refine inb_x ?_
      refine then_n (hK5 _ _ ?_); clear hK5 K5
      refine wp_seq_k ?_; intro K12 hK12
      obtain rfl : k = q := by omega
      have hmk := keepL_le node ls
      rw [List.take_of_length_le (by omega)] at hS hm
      refine wlit ?_
      refine wl_v (x_move (tmP rfl rfl)) ?_
      refine wl_v (x_nil (A := none) (tmP rfl rfl)) ?_
      refine wl_v (x_fa 0 Try.underlying52 rfl rfl ts_50 (tmP rfl rfl)) ?_
      first
       | refine wl_v (x_load Try.underlying50 rfl (tmP rfl rfl) (cellB hS.ok 2 rfl rfl)) ?_
       | refine wl_v (x_load Try.underlying50 rfl (tmP rfl rfl) (cellR hS.ok 0 rfl rfl)) ?_
       | refine wl_v (x_load Try.underlying50 rfl (tmP rfl rfl) (cellR hS.ok 0 rfl (getm (by omega)))) ?_
       | refine wl_v (x_load Try.underlying50 rfl (tmP rfl rfl) (cellRs hS.ok 0 rfl (fun _ => rfl) rfl (by omega) rfl)) ?_
       | refine wl_v (x_load Try.underlying50 rfl (tmP rfl rfl) (cellR hS.ok 1 rfl rfl)) ?_
       | refine wl_v (x_load Try.underlying50 rfl (tmP rfl rfl) (cellR hS.ok 1 rfl (getm (by omega)))) ?_
       | refine wl_v (x_load Try.underlying50 rfl (tmP rfl rfl) (cellRs hS.ok 1 rfl (fun _ => rfl) rfl (by omega) rfl)) ?_
      refine wl_v (x_len Try.underlying50 (tmS rfl rfl)) ?_
      refine wl_v (x_move (tmS rfl rfl)) ?_
      refine wl_v (x_len Try.underlying50 (tmS rfl rfl)) ?_
      first
       | refine wl_v (x_subN (tmI rfl rfl) (tmI rfl rfl) (fit_i64 (by omega)) (by omega)) ?_
       | refine wl_v (x_subI (tmI rfl rfl) (tmI rfl rfl) (IntWalk.i64_in _ (by omega))) ?_
       | refine wl_v (x_sub (tmI rfl rfl) (tmI rfl rfl)) ?_
      refine wl_v (x_assign (tmI rfl rfl)) ?_
      refine wl_nil ?_
      refine then_n (hK12 _ _ ?_); clear hK12 K12
      refine wp_seq_k ?_; intro K13 hK13
      refine wlit ?_
      refine wl_v (x_move (tmP rfl rfl)) ?_
      refine wl_v (x_move (tmS rfl rfl)) ?_
      refine wl_v (x_nil (A := none) (tmP rfl rfl)) ?_
      refine wl_v (x_fa 0 Try.underlying52 rfl rfl ts_50 (tmP rfl rfl)) ?_
      refine wl_e rfl ?_; intro K hK
      first
       | refine ow_store hS 0 rfl ts_50 (tmP rfl rfl) (tmS rfl rfl) rfl rfl ?_
       | refine ow_storeX hS 0 rfl ts_50 (tmP rfl rfl) (tmS rfl rfl) rfl (by simp; omega) ?_
       | refine ow_storeRs hS 0 rfl ts_50 (tmP rfl rfl) (tmS rfl rfl) rfl (by first | omega | (simp; omega)) ?_
       | refine ow_storeR hS 0 rfl ts_50 (tmP rfl rfl) (tmS rfl rfl) rfl (by first | omega | (simp; omega)) ?_
       | refine ow_store hS 1 rfl ts_50 (tmP rfl rfl) (tmS rfl rfl) rfl rfl ?_
       | refine ow_storeX hS 1 rfl ts_50 (tmP rfl rfl) (tmS rfl rfl) rfl (by simp; omega) ?_
       | refine ow_storeRs hS 1 rfl ts_50 (tmP rfl rfl) (tmS rfl rfl) rfl (by first | omega | (simp; omega)) ?_
       | refine ow_storeR hS 1 rfl ts_50 (tmP rfl rfl) (tmS rfl rfl) rfl (by first | omega | (simp; omega)) ?_
       | refine ow_store hS 2 rfl ts_50 (tmP rfl rfl) (tmS rfl rfl) rfl rfl ?_
       | refine ow_storeX hS 2 rfl ts_50 (tmP rfl rfl) (tmS rfl rfl) rfl (by simp; omega) ?_
       | refine ow_storeRs hS 2 rfl ts_50 (tmP rfl rfl) (tmS rfl rfl) rfl (by first | omega | (simp; omega)) ?_
       | refine ow_storeR hS 2 rfl ts_50 (tmP rfl rfl) (tmS rfl rfl) rfl (by first | omega | (simp; omega)) ?_
      clear hS; intro w hS
      refine hK _ _ ?_; clear hK K
      refine wl_nil ?_
      refine then_n (hK13 _ _ ?_); clear hK13 K13
      refine wp_seq_k ?_; intro K14 hK14
      refine wlit ?_
      refine wl_v (x_move (tmP rfl rfl)) ?_
      refine wl_v (x_nil (A := none) (tmP rfl rfl)) ?_
      refine wl_v (x_fa 2 Try.underlying52 rfl rfl ts_3 (tmP rfl rfl)) ?_
      first
       | refine wl_v (x_load Try.underlying3 rfl (tmP rfl rfl) (cellB hS.ok 2 rfl rfl)) ?_
       | refine wl_v (x_load Try.underlying3 rfl (tmP rfl rfl) (cellR hS.ok 0 rfl rfl)) ?_
       | refine wl_v (x_load Try.underlying3 rfl (tmP rfl rfl) (cellR hS.ok 0 rfl (getm (by omega)))) ?_
       | refine wl_v (x_load Try.underlying3 rfl (tmP rfl rfl) (cellRs hS.ok 0 rfl (fun _ => rfl) rfl (by omega) rfl)) ?_
       | refine wl_v (x_load Try.underlying3 rfl (tmP rfl rfl) (cellR hS.ok 1 rfl rfl)) ?_
       | refine wl_v (x_load Try.underlying3 rfl (tmP rfl rfl) (cellR hS.ok 1 rfl (getm (by omega)))) ?_
       | refine wl_v (x_load Try.underlying3 rfl (tmP rfl rfl) (cellRs hS.ok 1 rfl (fun _ => rfl) rfl (by omega) rfl)) ?_
      refine wl_v (x_move (tmI rfl rfl)) ?_
      first
       | refine wl_v (x_addN (tmI rfl rfl) (tmI rfl rfl) (fit_i64 (by omega))) ?_
       | refine wl_v (x_addI (tmI rfl rfl) (tmI rfl rfl) (IntWalk.i64_in _ (by omega))) ?_
       | refine wl_v (x_add (tmI rfl rfl) (tmI rfl rfl)) ?_
      refine wl_v (x_nil (A := none) (tmP rfl rfl)) ?_
      refine wl_v (x_fa 2 Try.underlying52 rfl rfl ts_3 (tmP rfl rfl)) ?_
      refine wl_e rfl ?_; intro K hK
      first
       | refine ow_store hS 0 rfl ts_3 (tmP rfl rfl) (tmI rfl rfl) rfl rfl ?_
       | refine ow_storeX hS 0 rfl ts_3 (tmP rfl rfl) (tmI rfl rfl) rfl (by simp; omega) ?_
       | refine ow_storeRs hS 0 rfl ts_3 (tmP rfl rfl) (tmI rfl rfl) rfl (by first | omega | (simp; omega)) ?_
       | refine ow_storeR hS 0 rfl ts_3 (tmP rfl rfl) (tmI rfl rfl) rfl (by first | omega | (simp; omega)) ?_
       | refine ow_store hS 1 rfl ts_3 (tmP rfl rfl) (tmI rfl rfl) rfl rfl ?_
       | refine ow_storeX hS 1 rfl ts_3 (tmP rfl rfl) (tmI rfl rfl) rfl (by simp; omega) ?_
       | refine ow_storeRs hS 1 rfl ts_3 (tmP rfl rfl) (tmI rfl rfl) rfl (by first | omega | (simp; omega)) ?_
       | refine ow_storeR hS 1 rfl ts_3 (tmP rfl rfl) (tmI rfl rfl) rfl (by first | omega | (simp; omega)) ?_
       | refine ow_store hS 2 rfl ts_3 (tmP rfl rfl) (tmI rfl rfl) rfl rfl ?_
       | refine ow_storeX hS 2 rfl ts_3 (tmP rfl rfl) (tmI rfl rfl) rfl (by simp; omega) ?_
       | refine ow_storeRs hS 2 rfl ts_3 (tmP rfl rfl) (tmI rfl rfl) rfl (by first | omega | (simp; omega)) ?_
       | refine ow_storeR hS 2 rfl ts_3 (tmP rfl rfl) (tmI rfl rfl) rfl (by first | omega | (simp; omega)) ?_
      clear hS; intro w hS
      refine hK _ _ ?_; clear hK K
      refine wl_nil ?_
      refine then_n (hK14 _ _ ?_); clear hK14 K14
      refine wp_seq_k ?_; intro K15 hK15
      refine wlit ?_
      refine wl_v (x_move (tmI rfl rfl)) ?_
      refine wl_v (x_assign (tmI rfl rfl)) ?_
      refine wl_nil ?_
      refine then_n (hK15 _ _ ?_); clear hK15 K15
      refine wp_ret ?_
      refine ret1 rfl (.tmp rfl (show _ = Value.int _ _ from rfl)) ?_
      refine ⟨A', m, c', k - m, hm, by omega, ?_, ?_⟩
      · rfl
      · have h2 := hS.pick [0, 2] rfl rfl
        exact h2
end Go.Proofs.Ytijeegfmfpamkaa
