
/- addr: Bytes, Of, Right and the references', by contract. Conditions: none but bounds. -/
import Derived.Test.YtocnmcndcdncmaaDoorRd
import Derived.Test.YtocnmcndcdncmaaDoorJoin
import Derived.Test.YtocnmcndcdncmaaDoorO
namespace Go.Proofs.YtocnmcndcdncmaaDoor
open Go.ChangeShapes Go.WideShapes Go.ChangeAt Go.RowKit
structure Ad where
  six : Bool
  high : Nat
  low : Nat
def Ad.V (s : Ad) : List Value := [.bool s.six, .int .u64 (s.high : Int), .int .u64 (s.low : Int)]
theorem Ad.len (s : Ad) : s.V.length = 3 := rfl
def Ad.ok (w : World) (s : Ad) : Prop := True ∧ s.high < 18446744073709551616 ∧ s.low < 18446744073709551616
instance : Inhabited Ad := ⟨⟨false, 0, 0⟩⟩
set_option maxRecDepth 100000 in
theorem Ad.open_t {H : Type} {enc : TypeId × Value → H} {w : World} {fuel : Nat} {cs : List Value} {x : DataW H × List MemPlace} (hf : DataW.trod enc Tryd.prog w 0 (fun _ => true) true fuel 24 cs = some x) (hlt : ∀ p ∈ x.2, p.block < w.heap.size) : ∃ s : Ad, cs = s.V ∧ s.ok w := by
  have hC : Tryd.prog.cellsOf 24 = 3 := by kernel_rfl
  have hl := (DataW.trod_struct Tryd.underlying24 hf).choose_spec.choose_spec.2.2.1
  rw [hC] at hl
  obtain ⟨y0, k0, t0, b0⟩ := field_t Tryd.underlying24 hf hlt 0 _ rfl
  have hC0 : Tryd.prog.cellsOf 4 = 1 := by kernel_rfl
  obtain ⟨s0, e0, o0⟩ := t_bool Tryd.underlying4 t0 b0
  have d0 := split_drop cs 0 1 (hC0 ▸ e0)
  obtain ⟨y1, k1, t1, b1⟩ := field_t Tryd.underlying24 hf hlt 1 _ rfl
  have hC1 : Tryd.prog.cellsOf 22 = 1 := by kernel_rfl
  obtain ⟨s1, e1, o1⟩ := t_u64 Tryd.underlying22 t1 b1
  have d1 := split_drop cs 1 1 (hC1 ▸ e1)
  obtain ⟨y2, k2, t2, b2⟩ := field_t Tryd.underlying24 hf hlt 2 _ rfl
  have hC2 : Tryd.prog.cellsOf 22 = 1 := by kernel_rfl
  obtain ⟨s2, e2, o2⟩ := t_u64 Tryd.underlying22 t2 b2
  have d2 := split_drop cs 2 1 (hC2 ▸ e2)
  refine ⟨⟨s0, s1, s2⟩, ?_, ⟨o0, o1, o2⟩⟩
  have dn : cs.drop 3 = [] := List.drop_eq_nil_of_le (by omega)
  rw [← List.drop_zero (l := cs)]
  refine d0.trans ?_
  rw [show cs.drop (0 + 1) = _ from d1]
  rw [show cs.drop (1 + 1) = _ from d2]
  rw [show cs.drop (2 + 1) = [] from dn]
  rfl
set_option maxRecDepth 100000 in
theorem Ad.open_a {H : Type} {enc : TypeId × Value → H} {w : World} {r : Reach} {b0 : Nat} {v : Value} {d : DataW H} {ps : List MemPlace} (hval : Value.okWide Tryd.prog w r b0 24 v) (hd : DataW.Trod enc Tryd.prog w 0 (fun _ => true) true 24 v d ps) (hlt : ∀ p ∈ ps, p.block < w.heap.size) : ∃ s : Ad, v = .agg s.V.toArray ∧ s.ok w := by
  obtain ⟨cs, rfl, _⟩ := okWide_struct Tryd.underlying24 hval
  obtain ⟨fuel, hf⟩ := hd
  obtain ⟨s, e, h⟩ := Ad.open_t hf hlt
  exact ⟨s, by rw [← e]; simp [Value.cells], h⟩
def adB (a : Ad) : List Nat := cond a.six (be a.high 8 ++ be a.low 8) (be a.low 4)
def adN (a : Ad) : Nat := cond a.six 16 4
theorem adB_len (a : Ad) : (adB a).length = adN a := by unfold adB adN; cases a.six <;> simp [be_length]
theorem adB_bytes (a : Ad) : Bytes (adB a) := by
  unfold adB
  cases a.six
  · exact be_bytes _ _
  · exact (be_bytes _ _).append (be_bytes _ _)
def adRight (a : Ad) : Prop := a.six = true ∨ a.high = 0 ∧ a.low ≤ 4294967295
instance (a : Ad) : Decidable (adRight a) := by unfold adRight; exact inferInstance
def adLim (a : Ad) : Prop := a.high ≤ 18446744073709551615 ∧ a.low ≤ 18446744073709551615

set_option maxRecDepth 100000 in
set_option maxHeartbeats 4000000 in
theorem ad_bytes_c (a : Ad) (w0 : World) (hl : adLim a) :
    Calls Tryd.prog 17 #[.agg a.V.toArray] w0 fun e w' => ∃ A' n c', n = adN a ∧ e = .returned (.slice A' n c') ∧ New w0 w' (.row (.slice A' n c') 5 1 n ((adB a).map u8v)) ∧ Kp [] w0 w' := by
  obtain ⟨six, high, low⟩ := a
  have hl1 : high ≤ 18446744073709551615 := hl.1
  have hl2 : low ≤ 18446744073709551615 := hl.2
  have hS := St.sv w0
  refine ent (n := 14) Tryd.func17 rfl rfl ?_
  refine wp_seq_k ?_; intro K1 hK1
  refine wlit ?_
  refine wl_e rfl ?_; intro K hK
  refine ow_box hS (tmA rfl rfl) rfl ?_
  clear hS; intro g0_0 w hg0_0 hS
  refine hK _ _ ?_; clear hK K
  refine wl_v (x_assign ev_c) ?_
  refine wl_nil ?_
  refine then_n (hK1 _ _ ?_); clear hK1 K1
  refine wp_seq_k ?_; intro K2 hK2
  refine wp_seq_k ?_; intro K3 hK3
  refine wlit ?_
  refine wl_v (x_fa 0 Tryd.underlying24 rfl rfl ts_4 (tmP rfl rfl)) ?_
  first
   | refine wl_v (x_load Tryd.underlying4 rfl (tmP rfl rfl) (cellB hS.ok 0 rfl rfl)) ?_
   | refine wl_v (x_load Tryd.underlying4 rfl (tmP rfl rfl) (cellB hS.ok 0 rfl (getm (by omega)))) ?_
  refine wl_nil ?_
  refine then_n (hK3 _ _ ?_); clear hK3 K3
  refine cnd (tm rfl) (fun hc0 => ?_) (fun hc0 => ?_)
  · try (exfalso; first | with_reducible exact absurd hc0 Bool.false_ne_true | with_reducible exact absurd hc0.symm Bool.false_ne_true | (simp only [nrm] at hc0; omega) | (simp at hc0; done))
    all_goals
     try simp only [nrm] at hc0
     subst hc0
     refine wp_seq_k ?_; intro K4 hK4
     refine rg_startk 0 hS mixed_ ?_
     clear hS; intro w hS
     refine rg_take 0 rfl rfl (by kernel_rfl) (by kernel_rfl) (by kernel_rfl) (want_0) (fun w hok => x_fa 1 Tryd.underlying24 rfl rfl ts_22 (tmP rfl rfl)) ?_
     first
      | refine rg_take 1 rfl rfl (by kernel_rfl) (by kernel_rfl) (by kernel_rfl) (want_0) (fun w hok => x_load Tryd.underlying22 rfl (tmP rfl rfl) (cellB hok 0 rfl rfl)) ?_
      | refine rg_take 1 rfl rfl (by kernel_rfl) (by kernel_rfl) (by kernel_rfl) (want_0) (fun w hok => x_load Tryd.underlying22 rfl (tmP rfl rfl) (cellB hok 0 rfl (getm (by omega)))) ?_
     refine rg_take 3 rfl rfl (by kernel_rfl) (by kernel_rfl) (by kernel_rfl) (want_0) (fun w hok => x_fa 2 Tryd.underlying24 rfl rfl ts_22 (tmP rfl rfl)) ?_
     first
      | refine rg_take 4 rfl rfl (by kernel_rfl) (by kernel_rfl) (by kernel_rfl) (want_0) (fun w hok => x_load Tryd.underlying22 rfl (tmP rfl rfl) (cellB hok 0 rfl rfl)) ?_
      | refine rg_take 4 rfl rfl (by kernel_rfl) (by kernel_rfl) (by kernel_rfl) (want_0) (fun w hok => x_load Tryd.underlying22 rfl (tmP rfl rfl) (cellB hok 0 rfl (getm (by omega)))) ?_
     refine rg_step 2 rfl (by kernel_rfl) (want_0) (oks_drop hS 0 rfl) ?_; intro K hK
     refine ow_call Tryd.func18 rfl rfl (evs_cons ev_c <| evs_cons (tmI rfl rfl) <| evs_cons (ev_cN 8) <| evs_nil) (put_c 0 none 0 [] high 8 _ View.nil_ rfl (by omega) (by omega) (by omega)) ?_
     rintro e w ⟨g1, rfl, hn, hk⟩
     refine ⟨_, rfl, ?_⟩
     replace hS := hS.add hk hn -- +rowa
     clear hn hk
     refine hK _ _ ?_; clear hK K
     refine rg_step 5 rfl (by kernel_rfl) (want_0) (oks_drop hS 1 rfl) ?_; intro K hK
     refine ow_call Tryd.func18 rfl rfl (evs_cons (tmS rfl rfl) <| evs_cons (tmI rfl rfl) <| evs_cons (ev_cN 8) <| evs_nil) (put_c _ _ _ _ low 8 _ (viewR hS.ok 0 rfl) (by simp [be_length]) (by omega) (by omega) (by omega)) ?_
     rintro e w ⟨g2, rfl, hn, hk⟩
     refine ⟨_, rfl, ?_⟩
     replace hS := hS.add hk hn -- +rowb
     clear hn hk
     refine hK _ _ ?_; clear hK K
     refine rg_take 6 rfl rfl (by kernel_rfl) (by kernel_rfl) (by kernel_rfl) (want_0) (fun w hok => x_assign (tmS rfl rfl)) ?_
     refine rg_done (oks_drop hS 2 rfl) (by kernel_rfl) ?_
     refine then_n (hK4 _ _ ?_); clear hK4 K4
     refine wp_ret ?_
     refine then_r ?_
     refine ret1 rfl (.tmp rfl (show _ = Value.slice _ _ _ from rfl)) ?_
     first
       | exact ⟨_, _, _, by rfl, rfl, hS.new 0 rfl rfl, hS.kp⟩
  try (exfalso; first | with_reducible exact absurd hc0 Bool.false_ne_true | with_reducible exact absurd hc0.symm Bool.false_ne_true | (simp only [nrm] at hc0; omega) | (simp at hc0; done))
  all_goals
   try simp only [nrm] at hc0
   subst hc0
   refine wp_skip ?_
   refine then_n (hK2 _ _ ?_); clear hK2 K2
   refine wp_seq_k ?_; intro K5 hK5
   refine wlit ?_
   refine wl_v (x_fa 2 Tryd.underlying24 rfl rfl ts_22 (tmP rfl rfl)) ?_
   first
    | refine wl_v (x_load Tryd.underlying22 rfl (tmP rfl rfl) (cellB hS.ok 0 rfl rfl)) ?_
    | refine wl_v (x_load Tryd.underlying22 rfl (tmP rfl rfl) (cellB hS.ok 0 rfl (getm (by omega)))) ?_
   refine wl_e rfl ?_; intro K hK
   refine ow_call Tryd.func18 rfl rfl (evs_cons ev_c <| evs_cons (tmI rfl rfl) <| evs_cons (ev_cN 4) <| evs_nil) (put_c 0 none 0 [] low 4 _ View.nil_ rfl (by omega) (by omega) (by omega)) ?_
   rintro e w ⟨g1, rfl, hn, hk⟩
   refine ⟨_, rfl, ?_⟩
   replace hS := hS.add hk hn -- +rowb
   clear hn hk
   refine hK _ _ ?_; clear hK K
   refine wl_v (x_assign (tmS rfl rfl)) ?_
   refine wl_nil ?_
   refine then_n (hK5 _ _ ?_); clear hK5 K5
   refine wp_ret ?_
   refine ret1 rfl (.tmp rfl (show _ = Value.slice _ _ _ from rfl)) ?_
   first
     | exact ⟨_, _, _, by rfl, rfl, hS.new 0 rfl rfl, hS.kp⟩

set_option maxRecDepth 100000 in
set_option maxHeartbeats 4000000 in
theorem rad_bytes_c (a : Ad) (w0 : World) (hl : adLim a) :
    Calls Tryd.prog 20 #[.agg a.V.toArray] w0 fun e w' => ∃ A' n c', n = adN a ∧ e = .returned (.slice A' n c') ∧ New w0 w' (.row (.slice A' n c') 5 1 n ((adB a).map u8v)) ∧ Kp [] w0 w' := by
  obtain ⟨six, high, low⟩ := a
  have hl1 : high ≤ 18446744073709551615 := hl.1
  have hl2 : low ≤ 18446744073709551615 := hl.2
  have hS := St.sv w0
  refine ent (n := 16) Tryd.func20 rfl rfl ?_
  refine wp_seq_k ?_; intro K1 hK1
  refine wlit ?_
  refine wl_e rfl ?_; intro K hK
  refine ow_box hS (tmA rfl rfl) rfl ?_
  clear hS; intro g0_0 w hg0_0 hS
  refine hK _ _ ?_; clear hK K
  refine wl_v (x_assign ev_c) ?_
  refine wl_nil ?_
  refine then_n (hK1 _ _ ?_); clear hK1 K1
  refine wp_seq_k ?_; intro K2 hK2
  refine wp_seq_k ?_; intro K3 hK3
  refine wlit ?_
  refine wl_v (x_fa 0 Tryd.underlying24 rfl rfl ts_4 (tmP rfl rfl)) ?_
  first
   | refine wl_v (x_load Tryd.underlying4 rfl (tmP rfl rfl) (cellB hS.ok 0 rfl rfl)) ?_
   | refine wl_v (x_load Tryd.underlying4 rfl (tmP rfl rfl) (cellB hS.ok 0 rfl (getm (by omega)))) ?_
  refine wl_v (x_not (tmB rfl rfl)) ?_
  refine wl_nil ?_
  refine then_n (hK3 _ _ ?_); clear hK3 K3
  refine cnd (tm rfl) (fun hc0 => ?_) (fun hc0 => ?_)
  · try (exfalso; first | with_reducible exact absurd hc0 Bool.false_ne_true | with_reducible exact absurd hc0.symm Bool.false_ne_true | (simp only [nrm] at hc0; omega) | (simp at hc0; done))
    all_goals
     try simp only [nrm] at hc0
     obtain rfl : six = false := hc0
     refine wp_seq_k ?_; intro K4 hK4
     refine wlit ?_
     refine wl_v (x_fa 2 Tryd.underlying24 rfl rfl ts_22 (tmP rfl rfl)) ?_
     first
      | refine wl_v (x_load Tryd.underlying22 rfl (tmP rfl rfl) (cellB hS.ok 0 rfl rfl)) ?_
      | refine wl_v (x_load Tryd.underlying22 rfl (tmP rfl rfl) (cellB hS.ok 0 rfl (getm (by omega)))) ?_
     refine wl_e rfl ?_; intro K hK
     refine ow_call Tryd.func21 rfl rfl (evs_cons (tmI rfl rfl) <| evs_cons (ev_cN 4) <| evs_nil) (rbytes_c low 4 _ (by omega) (by omega)) ?_
     rintro e w ⟨g1, rfl, hn, hk⟩
     refine ⟨_, rfl, ?_⟩
     replace hS := hS.add hk hn -- +rowa
     clear hn hk
     refine hK _ _ ?_; clear hK K
     refine wl_v (x_assign (tmS rfl rfl)) ?_
     refine wl_nil ?_
     refine then_n (hK4 _ _ ?_); clear hK4 K4
     refine wp_ret ?_
     refine then_r ?_
     refine ret1 rfl (.tmp rfl (show _ = Value.slice _ _ _ from rfl)) ?_
     first
       | exact ⟨_, _, _, by rfl, rfl, hS.new 0 rfl rfl, hS.kp⟩
       | exact ⟨_, _, _, by rfl, rfl, hS.new 1 rfl rfl, hS.kp⟩
  try (exfalso; first | with_reducible exact absurd hc0 Bool.false_ne_true | with_reducible exact absurd hc0.symm Bool.false_ne_true | (simp only [nrm] at hc0; omega) | (simp at hc0; done))
  all_goals
   try simp only [nrm] at hc0
   obtain rfl : six = true := hc0
   refine wp_skip ?_
   refine then_n (hK2 _ _ ?_); clear hK2 K2
   refine wp_seq_k ?_; intro K5 hK5
   refine rg_startk 0 hS mixed_ ?_
   clear hS; intro w hS
   refine rg_take 0 rfl rfl (by kernel_rfl) (by kernel_rfl) (by kernel_rfl) (want_0) (fun w hok => x_fa 1 Tryd.underlying24 rfl rfl ts_22 (tmP rfl rfl)) ?_
   first
    | refine rg_take 1 rfl rfl (by kernel_rfl) (by kernel_rfl) (by kernel_rfl) (want_0) (fun w hok => x_load Tryd.underlying22 rfl (tmP rfl rfl) (cellB hok 0 rfl rfl)) ?_
    | refine rg_take 1 rfl rfl (by kernel_rfl) (by kernel_rfl) (by kernel_rfl) (want_0) (fun w hok => x_load Tryd.underlying22 rfl (tmP rfl rfl) (cellB hok 0 rfl (getm (by omega)))) ?_
   refine rg_take 3 rfl rfl (by kernel_rfl) (by kernel_rfl) (by kernel_rfl) (want_0) (fun w hok => x_fa 2 Tryd.underlying24 rfl rfl ts_22 (tmP rfl rfl)) ?_
   first
    | refine rg_take 4 rfl rfl (by kernel_rfl) (by kernel_rfl) (by kernel_rfl) (want_0) (fun w hok => x_load Tryd.underlying22 rfl (tmP rfl rfl) (cellB hok 0 rfl rfl)) ?_
    | refine rg_take 4 rfl rfl (by kernel_rfl) (by kernel_rfl) (by kernel_rfl) (want_0) (fun w hok => x_load Tryd.underlying22 rfl (tmP rfl rfl) (cellB hok 0 rfl (getm (by omega)))) ?_
   refine rg_step 2 rfl (by kernel_rfl) (want_0) (oks_drop hS 0 rfl) ?_; intro K hK
   refine ow_call Tryd.func21 rfl rfl (evs_cons (tmI rfl rfl) <| evs_cons (ev_cN 8) <| evs_nil) (rbytes_c high 8 _ (by omega) (by omega)) ?_
   rintro e w ⟨g1, rfl, hn, hk⟩
   refine ⟨_, rfl, ?_⟩
   replace hS := hS.add hk hn -- +rowa
   clear hn hk
   refine hK _ _ ?_; clear hK K
   refine rg_step 5 rfl (by kernel_rfl) (want_0) (oks_drop hS 1 rfl) ?_; intro K hK
   refine ow_call Tryd.func21 rfl rfl (evs_cons (tmI rfl rfl) <| evs_cons (ev_cN 8) <| evs_nil) (rbytes_c low 8 _ (by omega) (by omega)) ?_
   rintro e w ⟨g2, rfl, hn, hk⟩
   refine ⟨_, rfl, ?_⟩
   replace hS := (hS.add hk hn).freeze 0 rfl -- +vb
   clear hn hk
   refine hK _ _ ?_; clear hK K
   refine rg_step 6 rfl (by kernel_rfl) (want_0) (oks_drop hS 2 rfl) ?_; intro K hK
   first
    | (refine ow_append hS 1 0 rfl rfl Tryd.underlying33 tz_5 rfl (tmS rfl rfl) (tmS rfl rfl) rfl ⟨by decide, by decide, rfl⟩ (by simp only [maxLen]; omega) (by omega) ?_; clear hS; intro g3_6 cg3_6 w hS)
    | (refine ow_append hS 1 2 rfl rfl Tryd.underlying33 tz_5 rfl (tmS rfl rfl) (tmS rfl rfl) rfl ⟨by decide, by decide, rfl⟩ (by simp only [maxLen]; omega) (by omega) ?_; clear hS; intro g3_6 cg3_6 w hS)
    | (refine ow_append hS 1 3 rfl rfl Tryd.underlying33 tz_5 rfl (tmS rfl rfl) (tmS rfl rfl) rfl ⟨by decide, by decide, rfl⟩ (by simp only [maxLen]; omega) (by omega) ?_; clear hS; intro g3_6 cg3_6 w hS)
    | (refine ow_appendV hS 1 rfl (viewV hS.ok 0 rfl) Tryd.underlying33 tz_5 rfl (tmS rfl rfl) (tmS rfl rfl) (by first | exact u8v_one _ | (intro u hu; simp at hu; first | (rcases hu with rfl | rfl <;> rfl) | (obtain ⟨_, _, rfl⟩ := hu; rfl))) ⟨by decide, by first | rfl | (simp; done) | (simp; omega)⟩ (by simp only [maxLen]; omega) (by omega) ?_; clear hS; intro g3_6 cg3_6 w hAg3_6 hCg3_6 hS)
    | (refine ow_appendV hS 1 rfl (viewR hS.ok 1 rfl) Tryd.underlying33 tz_5 rfl (tmS rfl rfl) (tmS rfl rfl) (by first | exact u8v_one _ | (intro u hu; simp at hu; first | (rcases hu with rfl | rfl <;> rfl) | (obtain ⟨_, _, rfl⟩ := hu; rfl))) ⟨by decide, by first | rfl | (simp; done) | (simp; omega)⟩ (by simp only [maxLen]; omega) (by omega) ?_; clear hS; intro g3_6 cg3_6 w hAg3_6 hCg3_6 hS)
    | (refine ow_appendV hS 1 rfl (viewB hS.ok 3 rfl) Tryd.underlying33 tz_5 rfl (tmS rfl rfl) (tmS rfl rfl) (by first | exact u8v_one _ | (intro u hu; simp at hu; first | (rcases hu with rfl | rfl <;> rfl) | (obtain ⟨_, _, rfl⟩ := hu; rfl))) ⟨by decide, by first | rfl | (simp; done) | (simp; omega)⟩ (by simp only [maxLen]; omega) (by omega) ?_; clear hS; intro g3_6 cg3_6 w hAg3_6 hCg3_6 hS)
    | (refine ow_appendV hS 1 rfl View.nil_ Tryd.underlying33 tz_5 rfl (tmS rfl rfl) (tmS rfl rfl) (by first | exact u8v_one _ | (intro u hu; simp at hu; first | (rcases hu with rfl | rfl <;> rfl) | (obtain ⟨_, _, rfl⟩ := hu; rfl))) ⟨by decide, by first | rfl | (simp; done) | (simp; omega)⟩ (by simp only [maxLen]; omega) (by omega) ?_; clear hS; intro g3_6 cg3_6 w hAg3_6 hCg3_6 hS)
   refine hK _ _ ?_; clear hK K
   refine rg_take 7 rfl rfl (by kernel_rfl) (by kernel_rfl) (by kernel_rfl) (want_0) (fun w hok => x_assign (tmS rfl rfl)) ?_
   refine rg_done (oks_drop hS 2 rfl) (by kernel_rfl) ?_
   rw [← List.map_append] at hS
   refine then_n (hK5 _ _ ?_); clear hK5 K5
   refine wp_ret ?_
   refine ret1 rfl (.tmp rfl (show _ = Value.slice _ _ _ from rfl)) ?_
   first
     | exact ⟨_, _, _, by rfl, rfl, hS.new 0 rfl rfl, hS.kp⟩
     | exact ⟨_, _, _, by rfl, rfl, hS.new 1 rfl rfl, hS.kp⟩

set_option maxRecDepth 100000 in
set_option maxHeartbeats 4000000 in
theorem rad_right_c_ (six : Bool) (high low : Nat) (w0 : World) :
    Calls Tryd.prog 8 #[.agg [.bool six, .int .u64 (high : Int), .int .u64 (low : Int)].toArray] w0 fun e w' => e = .returned (.bool (decide (six = true ∨ high = 0 ∧ low ≤ 4294967295))) ∧ Kp [] w0 w' := by
  have hS := St.sv w0
  refine ent (n := 15) Tryd.func8 rfl rfl ?_
  refine wp_seq_k ?_; intro K1 hK1
  refine wlit ?_
  refine wl_e rfl ?_; intro K hK
  refine ow_box hS (tmA rfl rfl) rfl ?_
  clear hS; intro g0_0 w hg0_0 hS
  refine hK _ _ ?_; clear hK K
  refine wl_v (x_assign ev_c) ?_
  refine wl_nil ?_
  refine then_n (hK1 _ _ ?_); clear hK1 K1
  refine wp_seq_k ?_; intro K2 hK2
  refine wlit ?_
  refine wl_v (x_fa 0 Tryd.underlying24 rfl rfl ts_4 (tmP rfl rfl)) ?_
  first
   | refine wl_v (x_load Tryd.underlying4 rfl (tmP rfl rfl) (cellB hS.ok 0 rfl rfl)) ?_
   | refine wl_v (x_load Tryd.underlying4 rfl (tmP rfl rfl) (cellB hS.ok 0 rfl (getm (by omega)))) ?_
  refine wl_v (x_move (tmB rfl rfl)) ?_
  refine gs_wl (tm (t := 5) rfl) (fun hg1_2 => ?_) (fun hg1_2 => ?_)
  · have hg1_2' := hg1_2; (try simp only [nrm] at hg1_2'); try (exfalso; first | with_reducible exact absurd hg1_2 Bool.false_ne_true | with_reducible exact absurd hg1_2.symm Bool.false_ne_true | omega | (simp at hg1_2; done))
    all_goals
     refine wl_s rfl (want_n rfl rfl rfl rfl (by rw [hg1_2]; rfl)) ?_
     refine wl_s rfl (want_n rfl rfl rfl rfl (by rw [hg1_2]; rfl)) ?_
     refine wl_s rfl (want_n rfl rfl rfl rfl (by rw [hg1_2]; rfl)) ?_
     refine wl_s rfl (want_n rfl rfl rfl rfl (by rw [hg1_2]; rfl)) ?_
     refine wl_s rfl (want_u rfl rfl rfl rfl) ?_
     refine wl_s rfl (want_u rfl rfl rfl rfl) ?_
     refine wl_s rfl (want_u rfl rfl rfl rfl) ?_
     refine wl_s rfl (want_n rfl rfl rfl rfl (by rw [hg1_2]; rfl)) ?_
     refine wl_v (x_pickT (tmB rfl rfl) hg1_2 ev_c) ?_
     refine wl_v (x_assign (tmB rfl rfl)) ?_
     refine wl_nil ?_
     refine then_n (hK2 _ _ ?_); clear hK2 K2
     refine wp_ret ?_
     refine ret1 rfl (.tmp rfl (show _ = Value.bool _ from rfl)) ?_
     refine ⟨ret_bool (Bool.eq_iff_iff.2 ?_), hS.kp⟩
     clear hS
     simp only [decide_eq_true_eq, nrm]
     constructor <;> intro h <;> first
       | trivial
       | exact .inl hg1_2
       | exact hg1_2
       | exact .inr ⟨by omega, by omega⟩
       | omega
       | exact absurd h (by decide)
       | (rcases h with h | h <;> first | exact absurd (h.symm.trans hg1_2) (by decide) | omega)
  have hg1_2' := hg1_2; (try simp only [nrm] at hg1_2'); try (exfalso; first | with_reducible exact absurd hg1_2 Bool.false_ne_true | with_reducible exact absurd hg1_2.symm Bool.false_ne_true | omega | (simp at hg1_2; done))
  all_goals
   refine wl_gv (want_y rfl rfl rfl rfl (by rw [hg1_2]; rfl)) (x_fa 1 Tryd.underlying24 rfl rfl ts_22 (tmP rfl rfl)) ?_
   first
    | refine wl_gv (want_y rfl rfl rfl rfl (by rw [hg1_2]; rfl)) (x_load Tryd.underlying22 rfl (tmP rfl rfl) (cellB hS.ok 0 rfl rfl)) ?_
    | refine wl_gv (want_y rfl rfl rfl rfl (by rw [hg1_2]; rfl)) (x_load Tryd.underlying22 rfl (tmP rfl rfl) (cellB hS.ok 0 rfl (getm (by omega)))) ?_
   refine wl_gv (want_y rfl rfl rfl rfl (by rw [hg1_2]; rfl)) (x_eql (tmI rfl rfl) (ev_cN 0)) ?_
   refine wl_gv (want_y rfl rfl rfl rfl (by rw [hg1_2]; rfl)) (x_move (tmB rfl rfl)) ?_
   refine gs_wl (tm (t := 9) rfl) (fun hg1_6 => ?_) (fun hg1_6 => ?_)
   · have hg1_6' := hg1_6; (try simp only [nrm] at hg1_6'); try (exfalso; first | with_reducible exact absurd hg1_6 Bool.false_ne_true | with_reducible exact absurd hg1_6.symm Bool.false_ne_true | omega | (simp at hg1_6; done))
     all_goals
      refine wl_gv (want_y rfl rfl rfl rfl (by rw [hg1_6]; rfl)) (x_fa 2 Tryd.underlying24 rfl rfl ts_22 (tmP rfl rfl)) ?_
      first
       | refine wl_gv (want_y rfl rfl rfl rfl (by rw [hg1_6]; rfl)) (x_load Tryd.underlying22 rfl (tmP rfl rfl) (cellB hS.ok 0 rfl rfl)) ?_
       | refine wl_gv (want_y rfl rfl rfl rfl (by rw [hg1_6]; rfl)) (x_load Tryd.underlying22 rfl (tmP rfl rfl) (cellB hS.ok 0 rfl (getm (by omega)))) ?_
      refine wl_gv (want_y rfl rfl rfl rfl (by rw [hg1_6]; rfl)) (x_leq (tmI rfl rfl) (ev_cN 4294967295)) ?_
      refine wl_gv (want_y rfl rfl rfl rfl (by rw [hg1_2]; rfl)) (x_pickT (tmB rfl rfl) hg1_6 (tmB rfl rfl)) ?_
      refine wl_v (x_pickF (tmB rfl rfl) hg1_2 (tmB rfl rfl)) ?_
      refine wl_v (x_assign (tmB rfl rfl)) ?_
      refine wl_nil ?_
      refine then_n (hK2 _ _ ?_); clear hK2 K2
      refine wp_ret ?_
      refine ret1 rfl (.tmp rfl (show _ = Value.bool _ from rfl)) ?_
      refine ⟨ret_bool (Bool.eq_iff_iff.2 ?_), hS.kp⟩
      clear hS
      simp only [decide_eq_true_eq, nrm]
      constructor <;> intro h <;> first
        | trivial
        | exact .inl hg1_2
        | exact hg1_2
        | exact .inr ⟨by omega, by omega⟩
        | omega
        | exact absurd h (by decide)
        | (rcases h with h | h <;> first | exact absurd (h.symm.trans hg1_2) (by decide) | omega)
   have hg1_6' := hg1_6; (try simp only [nrm] at hg1_6'); try (exfalso; first | with_reducible exact absurd hg1_6 Bool.false_ne_true | with_reducible exact absurd hg1_6.symm Bool.false_ne_true | omega | (simp at hg1_6; done))
   all_goals
    refine wl_s rfl (want_n rfl rfl rfl rfl (by rw [hg1_6]; rfl)) ?_
    refine wl_s rfl (want_n rfl rfl rfl rfl (by rw [hg1_6]; rfl)) ?_
    refine wl_s rfl (want_n rfl rfl rfl rfl (by rw [hg1_6]; rfl)) ?_
    refine wl_gv (want_y rfl rfl rfl rfl (by rw [hg1_2]; rfl)) (x_pickF (tmB rfl rfl) hg1_6 ev_c) ?_
    refine wl_v (x_pickF (tmB rfl rfl) hg1_2 (tmB rfl rfl)) ?_
    refine wl_v (x_assign (tmB rfl rfl)) ?_
    refine wl_nil ?_
    refine then_n (hK2 _ _ ?_); clear hK2 K2
    refine wp_ret ?_
    refine ret1 rfl (.tmp rfl (show _ = Value.bool _ from rfl)) ?_
    refine ⟨ret_bool (Bool.eq_iff_iff.2 ?_), hS.kp⟩
    clear hS
    simp only [decide_eq_true_eq, nrm]
    constructor <;> intro h <;> first
      | trivial
      | exact .inl hg1_2
      | exact hg1_2
      | exact .inr ⟨by omega, by omega⟩
      | omega
      | exact absurd h (by decide)
      | (rcases h with h | h <;> first | exact absurd (h.symm.trans hg1_2) (by decide) | omega)
theorem rad_right_c (a : Ad) (w0 : World) :
    Calls Tryd.prog 8 #[.agg a.V.toArray] w0 fun e w' => e = .returned (.bool (decide (adRight a))) ∧ Kp [] w0 w' := rad_right_c_ a.six a.high a.low w0

set_option maxRecDepth 100000 in
set_option maxHeartbeats 4000000 in
theorem ad_of4_c (A : Option Addr) (c : Nat) (l : List Nat) (w0 : World) (hv : View w0 w0.heap.size A (l.map u8v)) (hl : l.length = 4) (hb : Bytes l) :
    Calls Tryd.prog 24 #[.slice A 4 c] w0 fun e w' => e = .returned (.tuple #[.agg (Ad.V ⟨false, 0, numBE l⟩).toArray, .int .i64 0]) ∧ Kp [] w0 w' := by
  have hS := (St.sv w0).vcons rfl hv
  refine ent (n := 24) Tryd.func24 rfl rfl ?_
  refine wp_seq_k ?_; intro K1 hK1
  refine wlit ?_
  refine wl_e rfl ?_; intro K hK
  refine ow_alloc hS tz_24 rfl ?_
  clear hS; intro g0_0 w hg0_0 hS
  refine hK _ _ ?_; clear hK K
  refine wl_v (x_assign (ev_cN 0)) ?_
  refine wl_nil ?_
  refine then_n (hK1 _ _ ?_); clear hK1 K1
  refine wp_seq_k ?_; intro K2 hK2
  refine wlit ?_
  refine wl_v (x_move (tmS rfl rfl)) ?_
  refine wl_e rfl ?_; intro K hK
  refine ow_call Tryd.func25 rfl rfl (evs_cons (tmS rfl rfl) <| evs_nil) (read_c 4 A c l _ (viewV hS.ok 1 rfl) hl (by omega)) ?_
  rintro e w ⟨gr, A0, rfl, hS2⟩
  refine ⟨_, rfl, ?_⟩
  replace hS := hS.adds hS2 rfl -- +gr,rowb
  clear hS2
  refine hK _ _ ?_; clear hK K
  refine wl_v (x_assign (tmP rfl rfl)) ?_
  refine wl_nil ?_
  refine then_n (hK2 _ _ ?_); clear hK2 K2
  refine wp_seq_k ?_; intro K3 hK3
  refine wp_seq_k ?_; intro K4 hK4
  refine wlit ?_
  refine wl_v (x_move (tmS rfl rfl)) ?_
  refine wl_v (x_len Tryd.underlying33 (tmS rfl rfl)) ?_
  refine wl_nil ?_
  refine then_n (hK4 _ _ ?_); clear hK4 K4
  refine wp_block ?_
  refine wp_seq_k ?_; intro K5 hK5
  refine wlit ?_
  refine wl_v (x_eql (tmI rfl rfl) (ev_cN 4)) ?_
  refine wl_v (x_assign (tmB rfl rfl)) ?_
  refine wl_nil ?_
  refine then_n (hK5 _ _ ?_); clear hK5 K5
  refine cnds (tm rfl) (fun hc0 => ?_) (fun hc0 => ?_)
  · exfalso
    simp at hc0
  try (exfalso; first | with_reducible exact absurd hc0 Bool.false_ne_true | with_reducible exact absurd hc0.symm Bool.false_ne_true | (simp only [nrm] at hc0; omega) | (simp at hc0; done))
  all_goals
   try simp only [nrm] at hc0
   refine wp_seq_k ?_; intro K6 hK6
   refine wlit ?_
   refine wl_v (x_move (tmP rfl rfl)) ?_
   refine wl_e rfl ?_; intro K hK
   refine ow_call Tryd.func28 rfl rfl (evs_cons (tmP rfl rfl) <| evs_cons (ev_cN 4) <| evs_nil) (num_c gr A0 A0 0 4 4 4 l false _ _ (hS.enter [0] [1] rfl rfl) off_zero (by omega) (by omega) hl hb (by omega)) ?_
   rintro e w ⟨A1, c1, rfl, hS2, hA, hcp⟩
   refine ⟨_, rfl, ?_⟩
   replace hS := hS.turn 0 rfl rfl hS2 rfl
   clear hS2
   try replace hS := St.nm (M' := [_, .row _ _ _ _ _, .blk _ _ [_, _, _], .vw _ _]) hS rfl
   refine hK _ _ ?_; clear hK K
   refine wl_v (x_build (bc_skip (.bool false) <| bc_skip (.int .u64 0) <| bc_take (tmI rfl rfl) <| bc_nil) (by kernel_rfl)) ?_
   refine wl_e rfl ?_; intro K hK
   refine ow_storeA hS 2 rfl ts_24 (tmP rfl rfl) (tmA rfl rfl) rfl rfl rfl ?_
   clear hS; intro w hS
   try replace hS := St.nm (M' := [_, .row _ _ _ _ _, .blk _ _ [_, _, _], .vw _ _]) hS rfl
   refine hK _ _ ?_; clear hK K
   refine wl_v (x_assign (ev_cN 0)) ?_
   refine wl_nil ?_
   refine then_n (hK6 _ _ ?_); clear hK6 K6
   refine wp_ret ?_
   refine inb_r ?_
   refine then_r ?_
   refine ret2 rfl (.cell rfl rfl (load_rowB (cs := [_, _, _]) hS.ok 2 rfl Tryd.underlying24 rfl ts_24 rfl)) (.tmp rfl (show _ = Value.int _ _ from rfl)) ?_
   rw [List.drop_zero, List.take_of_length_le (by omega)]
   exact ⟨rfl, hS.kp⟩

set_option maxRecDepth 100000 in
set_option maxHeartbeats 4000000 in
theorem ad_v6_c (h l : Nat) (w0 : World) :
    Calls Tryd.prog 34 #[.int .u64 (h : Int), .int .u64 (l : Int)] w0 fun e w' => e = .returned (.agg (Ad.V ⟨true, h, l⟩).toArray) ∧ Kp [] w0 w' := by
  have hS := St.sv w0
  refine ent (n := 8) Tryd.func34 rfl rfl ?_
  refine wp_seq_k ?_; intro K1 hK1
  refine wlit ?_
  refine wl_e rfl ?_; intro K hK
  refine ow_alloc hS tz_24 rfl ?_
  clear hS; intro g0_0 w hg0_0 hS
  refine hK _ _ ?_; clear hK K
  refine wl_nil ?_
  refine then_n (hK1 _ _ ?_); clear hK1 K1
  refine wp_seq_k ?_; intro K2 hK2
  refine wlit ?_
  refine wl_v (x_move (tmI rfl rfl)) ?_
  refine wl_v (x_move (tmI rfl rfl)) ?_
  refine wl_v (x_build (bc_take ev_c <| bc_take (tmI rfl rfl) <| bc_take (tmI rfl rfl) <| bc_nil) (by kernel_rfl)) ?_
  refine wl_e rfl ?_; intro K hK
  refine ow_storeA hS 0 rfl ts_24 (tmP rfl rfl) (tmA rfl rfl) rfl rfl rfl ?_
  clear hS; intro w hS
  try replace hS := St.nm (M' := [.blk _ _ [_, _, _], _]) hS rfl
  refine hK _ _ ?_; clear hK K
  refine wl_nil ?_
  refine then_n (hK2 _ _ ?_); clear hK2 K2
  refine wp_ret ?_
  refine ret1 rfl (.cell rfl rfl (load_rowB (cs := [_, _, _]) hS.ok 0 rfl Tryd.underlying24 rfl ts_24 rfl)) ?_
  exact ⟨rfl, hS.kp⟩

set_option maxRecDepth 100000 in
set_option maxHeartbeats 4000000 in
theorem ad_of16_c (A : Option Addr) (c : Nat) (l : List Nat) (w0 : World) (hv : View w0 w0.heap.size A (l.map u8v)) (hl : l.length = 16) (hb : Bytes l) :
    Calls Tryd.prog 24 #[.slice A 16 c] w0 fun e w' => e = .returned (.tuple #[.agg (Ad.V ⟨true, getN l 0 8, getN l 8 8⟩).toArray, .int .i64 0]) ∧ Kp [] w0 w' := by
  have hS := (St.sv w0).vcons rfl hv
  refine ent (n := 24) Tryd.func24 rfl rfl ?_
  refine wp_seq_k ?_; intro K1 hK1
  refine wlit ?_
  refine wl_e rfl ?_; intro K hK
  refine ow_alloc hS tz_24 rfl ?_
  clear hS; intro g0_0 w hg0_0 hS
  refine hK _ _ ?_; clear hK K
  refine wl_v (x_assign (ev_cN 0)) ?_
  refine wl_nil ?_
  refine then_n (hK1 _ _ ?_); clear hK1 K1
  refine wp_seq_k ?_; intro K2 hK2
  refine wlit ?_
  refine wl_v (x_move (tmS rfl rfl)) ?_
  refine wl_e rfl ?_; intro K hK
  refine ow_call Tryd.func25 rfl rfl (evs_cons (tmS rfl rfl) <| evs_nil) (read_c 16 A c l _ (viewV hS.ok 1 rfl) hl (by omega)) ?_
  rintro e w ⟨gr, A0, rfl, hS2⟩
  refine ⟨_, rfl, ?_⟩
  replace hS := hS.adds hS2 rfl -- +gr,rowb
  clear hS2
  refine hK _ _ ?_; clear hK K
  refine wl_v (x_assign (tmP rfl rfl)) ?_
  refine wl_nil ?_
  refine then_n (hK2 _ _ ?_); clear hK2 K2
  refine wp_seq_k ?_; intro K3 hK3
  refine wp_seq_k ?_; intro K4 hK4
  refine wlit ?_
  refine wl_v (x_move (tmS rfl rfl)) ?_
  refine wl_v (x_len Tryd.underlying33 (tmS rfl rfl)) ?_
  refine wl_nil ?_
  refine then_n (hK4 _ _ ?_); clear hK4 K4
  refine wp_block ?_
  refine wp_seq_k ?_; intro K5 hK5
  refine wlit ?_
  refine wl_v (x_eql (tmI rfl rfl) (ev_cN 4)) ?_
  refine wl_v (x_assign (tmB rfl rfl)) ?_
  refine wl_nil ?_
  refine then_n (hK5 _ _ ?_); clear hK5 K5
  refine cnd (tm rfl) (fun hc0 => ?_) (fun hc0 => ?_)
  · exfalso
    simp at hc0
  try (exfalso; first | with_reducible exact absurd hc0 Bool.false_ne_true | with_reducible exact absurd hc0.symm Bool.false_ne_true | (simp only [nrm] at hc0; omega) | (simp at hc0; done))
  all_goals
   try simp only [nrm] at hc0
   refine wp_seq_k ?_; intro K6 hK6
   refine wlit ?_
   refine wl_v (x_eql (tmI rfl rfl) (ev_cN 16)) ?_
   refine wl_v (x_assign (tmB rfl rfl)) ?_
   refine wl_nil ?_
   refine then_n (hK6 _ _ ?_); clear hK6 K6
   refine cnds (tm rfl) (fun hc1 => ?_) (fun hc1 => ?_)
   · exfalso
     simp at hc1
   try (exfalso; first | with_reducible exact absurd hc1 Bool.false_ne_true | with_reducible exact absurd hc1.symm Bool.false_ne_true | (simp only [nrm] at hc1; omega) | (simp at hc1; done))
   all_goals
    try simp only [nrm] at hc1
    refine wp_seq_k ?_; intro K7 hK7
    refine wlit ?_
    refine wl_v (x_move (tmP rfl rfl)) ?_
    refine wl_e rfl ?_; intro K hK
    refine ow_call Tryd.func28 rfl rfl (evs_cons (tmP rfl rfl) <| evs_cons (ev_cN 8) <| evs_nil) (num_c gr A0 A0 0 8 16 16 l false _ _ (hS.enter [0] [1] rfl rfl) off_zero (by omega) (by omega) hl hb (by omega)) ?_
    rintro e w ⟨A1, c1, rfl, hS2, hA, hcp⟩
    refine ⟨_, rfl, ?_⟩
    replace hS := hS.turn 0 rfl rfl hS2 rfl
    clear hS2
    try replace hS := St.nm (M' := [_, .row _ _ _ _ _, .blk _ _ [_, _, _], .vw _ _]) hS rfl
    refine hK _ _ ?_; clear hK K
    refine wl_v (x_assign (tmI rfl rfl)) ?_
    refine wl_nil ?_
    refine then_n (hK7 _ _ ?_); clear hK7 K7
    refine wp_seq_k ?_; intro K8 hK8
    refine wlit ?_
    refine wl_v (x_move (tmI rfl rfl)) ?_
    refine wl_v (x_move (tmP rfl rfl)) ?_
    refine wl_e rfl ?_; intro K hK
    refine ow_call Tryd.func28 rfl rfl (evs_cons (tmP rfl rfl) <| evs_cons (ev_cN 8) <| evs_nil) (num_c gr A0 A1 (0 + 8) 8 16 c1 l false _ _ (hS.enter [0] [1] rfl rfl) hA (by omega) hcp hl hb (by omega)) ?_
    rintro e w ⟨A2, c2, rfl, hS2, hA, hcp⟩
    refine ⟨_, rfl, ?_⟩
    replace hS := hS.turn 0 rfl rfl hS2 rfl
    clear hS2
    try replace hS := St.nm (M' := [_, .row _ _ _ _ _, .blk _ _ [_, _, _], .vw _ _]) hS rfl
    refine hK _ _ ?_; clear hK K
    refine wl_e rfl ?_; intro K hK
    refine ow_call Tryd.func34 rfl rfl (evs_cons (tmI rfl rfl) <| evs_cons (tmI rfl rfl) <| evs_nil) (ad_v6_c _ _ _) ?_
    rintro e w ⟨rfl, hk⟩
    refine ⟨_, rfl, ?_⟩
    replace hS := hS.kept hk
    clear hk
    refine hK _ _ ?_; clear hK K
    refine wl_e rfl ?_; intro K hK
    refine ow_storeA hS 2 rfl ts_24 (tmP rfl rfl) (tmA rfl rfl) rfl rfl rfl ?_
    clear hS; intro w hS
    try replace hS := St.nm (M' := [_, .row _ _ _ _ _, .blk _ _ [_, _, _], .vw _ _]) hS rfl
    refine hK _ _ ?_; clear hK K
    refine wl_v (x_assign (ev_cN 0)) ?_
    refine wl_nil ?_
    refine then_n (hK8 _ _ ?_); clear hK8 K8
    refine wp_ret ?_
    refine inb_r ?_
    refine then_r ?_
    refine ret2 rfl (.cell rfl rfl (load_rowB (cs := [_, _, _]) hS.ok 2 rfl Tryd.underlying24 rfl ts_24 rfl)) (.tmp rfl (show _ = Value.int _ _ from rfl)) ?_
    exact ⟨rfl, hS.kp⟩

end Go.Proofs.YtocnmcndcdncmaaDoor
