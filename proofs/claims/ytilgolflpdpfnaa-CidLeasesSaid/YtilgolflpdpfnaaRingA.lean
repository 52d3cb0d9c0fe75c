
/- The law's awake of ring; reading a ring. Conditions: none. -/
import Derived.Test.YtilgolflpdpfnaaRingN
import Derived.Test.YtilgolflpdpfnaaArrO
import Derived.Test.YtilgolflpdpfnaaArgs
namespace Go.Proofs.Ytilgolflpdpfnaa
open Go.ChangeShapes Go.WideShapes Go.ChangeAt Go.RowKit
structure RRing where
  master : Nat → Nat
  now : Nat
def RRing.V (s : RRing) : List Value := [u8v (s.master 0), u8v (s.master 1), u8v (s.master 2), u8v (s.master 3), u8v (s.master 4), u8v (s.master 5), u8v (s.master 6), u8v (s.master 7), u8v (s.master 8), u8v (s.master 9), u8v (s.master 10), u8v (s.master 11), u8v (s.master 12), u8v (s.master 13), u8v (s.master 14), u8v (s.master 15), .int .u64 (s.now : Int)]
theorem RRing.len (s : RRing) : s.V.length = 17 := rfl
def RRing.ok (w : World) (s : RRing) : Prop := Bytes (kL s.master) ∧ s.now < 18446744073709551616
instance : Inhabited RRing := ⟨⟨default, 0⟩⟩
set_option maxRecDepth 100000 in
theorem RRing.open_t {H : Type} {enc : TypeId × Value → H} {w : World} {fuel : Nat} {cs : List Value} {x : DataW H × List MemPlace} (hf : DataW.trod enc Try.prog w 0 (fun _ => true) true fuel 66 cs = some x) (hlt : ∀ p ∈ x.2, p.block < w.heap.size) : ∃ s : RRing, cs = s.V ∧ s.ok w := by
  have hC : Try.prog.cellsOf 66 = 17 := by kernel_rfl
  have hl := (DataW.trod_struct Try.underlying66 hf).choose_spec.choose_spec.2.2.1
  rw [hC] at hl
  obtain ⟨y0, k0, t0, b0⟩ := field_t Try.underlying66 hf hlt 0 _ rfl
  have hC0 : Try.prog.cellsOf 64 = 16 := by kernel_rfl
  obtain ⟨s0, e0, o0⟩ := t_k16 Try.underlying64 Try.underlying5 (by kernel_rfl) (by kernel_rfl) t0 b0
  have d0 := split_drop cs 0 16 (hC0 ▸ e0)
  obtain ⟨y1, k1, t1, b1⟩ := field_t Try.underlying66 hf hlt 1 _ rfl
  have hC1 : Try.prog.cellsOf 24 = 1 := by kernel_rfl
  obtain ⟨s1, e1, o1⟩ := t_u64 Try.underlying24 t1 b1
  have d1 := split_drop cs 16 1 (hC1 ▸ e1)
  refine ⟨⟨s0, s1⟩, ?_, ⟨o0, o1⟩⟩
  have dn : cs.drop 17 = [] := List.drop_eq_nil_of_le (by omega)
  rw [← List.drop_zero (l := cs)]
  refine d0.trans ?_
  rw [show cs.drop (0 + 16) = _ from d1]
  rw [show cs.drop (16 + 1) = [] from dn]
  rfl
set_option maxRecDepth 100000 in
theorem RRing.open_a {H : Type} {enc : TypeId × Value → H} {w : World} {r : Reach} {b0 : Nat} {v : Value} {d : DataW H} {ps : List MemPlace} (hval : Value.okWide Try.prog w r b0 66 v) (hd : DataW.Trod enc Try.prog w 0 (fun _ => true) true 66 v d ps) (hlt : ∀ p ∈ ps, p.block < w.heap.size) : ∃ s : RRing, v = .agg s.V.toArray ∧ s.ok w := by
  obtain ⟨cs, rfl, _⟩ := okWide_struct Try.underlying66 hval
  obtain ⟨fuel, hf⟩ := hd
  obtain ⟨s, e, h⟩ := RRing.open_t hf hlt
  exact ⟨s, by rw [← e]; simp [Value.cells], h⟩
theorem k1_bytes : Bytes (kL (kF [1])) := by
  intro x hx
  have h : ∀ x ∈ kL (kF [1]), x < 256 := by decide
  exact h x hx
set_option maxRecDepth 100000 in
set_option maxHeartbeats 4000000 in
theorem law11_awake_c (w0 : World) :
    Calls Try.prog 42 #[] w0 fun e w' => e = .returned (.bool true) ∧ Kp [] w0 w' := by
  have hS := St.sv w0
  refine ent (n := 22) Try.func42 rfl rfl ?_
  refine wp_seq_k ?_; intro K1 hK1
  refine wlit ?_
  refine wl_v (x_assign ev_c) ?_
  refine wl_nil ?_
  refine then_n (hK1 _ _ ?_); clear hK1 K1
  refine wp_seq_k ?_; intro K2 hK2
  refine wlit ?_
  refine wl_v (x_build (bc_take (ev_cN 1) <| bc_skip (.int .u8 0) <| bc_skip (.int .u8 0) <| bc_skip (.int .u8 0) <| bc_skip (.int .u8 0) <| bc_skip (.int .u8 0) <| bc_skip (.int .u8 0) <| bc_skip (.int .u8 0) <| bc_skip (.int .u8 0) <| bc_skip (.int .u8 0) <| bc_skip (.int .u8 0) <| bc_skip (.int .u8 0) <| bc_skip (.int .u8 0) <| bc_skip (.int .u8 0) <| bc_skip (.int .u8 0) <| bc_skip (.int .u8 0) <| bc_nil) (by kernel_rfl)) ?_
  refine wl_e rfl ?_; intro K hK
  refine ow_call Try.func36 rfl rfl (evs_cons (tmA rfl rfl) <| evs_cons (ev_cN 0) <| evs_nil) (ring_new_c (kF [1]) 0 _) ?_
  rintro e w ⟨rfl, hk⟩
  refine ⟨_, rfl, ?_⟩
  replace hS := hS.kept hk
  clear hk
  refine hK _ _ ?_; clear hK K
  refine wl_e rfl ?_; intro K hK
  refine ow_call Try.func37 rfl rfl (evs_cons (tmA rfl rfl) <| evs_cons (ev_cN 1) <| evs_nil) (ring_at_c (kF [1]) 0 1 _ k1_bytes (by omega)) ?_
  rintro e w ⟨rfl, hk⟩
  refine ⟨_, rfl, ?_⟩
  replace hS := hS.kept hk
  clear hk
  refine hK _ _ ?_; clear hK K
  refine wl_v (x_move (tmT rfl rfl)) ?_
  refine wl_v (x_ext (tmT rfl rfl) rfl) ?_
  refine wl_v (x_ext (tmT rfl rfl) rfl) ?_
  refine wl_e rfl ?_; intro K hK
  refine ow_alloc hS tz_67 rfl ?_
  clear hS; intro g1_6 w hg1_6 hS
  refine hK _ _ ?_; clear hK K
  refine wl_e rfl ?_; intro K hK
  refine ow_storeA hS 0 rfl ts_67 (tmP rfl rfl) (tmA rfl rfl) rfl rfl rfl ?_
  clear hS; intro w hS
  try replace hS := St.nm (M' := [.blk _ _ [_, _, _, _, _, _, _, _, _, _, _, _, _, _, _, _], _]) hS rfl
  refine hK _ _ ?_; clear hK K
  refine wl_v (x_assign (tmB rfl rfl)) ?_
  refine wl_nil ?_
  refine then_n (hK2 _ _ ?_); clear hK2 K2
  refine wp_seq_k ?_; intro K3 hK3
  refine wlit ?_
  refine wl_v (x_build (bc_take (ev_cN 1) <| bc_skip (.int .u8 0) <| bc_skip (.int .u8 0) <| bc_skip (.int .u8 0) <| bc_skip (.int .u8 0) <| bc_skip (.int .u8 0) <| bc_skip (.int .u8 0) <| bc_skip (.int .u8 0) <| bc_skip (.int .u8 0) <| bc_skip (.int .u8 0) <| bc_skip (.int .u8 0) <| bc_skip (.int .u8 0) <| bc_skip (.int .u8 0) <| bc_skip (.int .u8 0) <| bc_skip (.int .u8 0) <| bc_skip (.int .u8 0) <| bc_nil) (by kernel_rfl)) ?_
  refine wl_e rfl ?_; intro K hK
  refine ow_call Try.func36 rfl rfl (evs_cons (tmA rfl rfl) <| evs_cons (ev_cN 1) <| evs_nil) (ring_new_c (kF [1]) 1 _) ?_
  rintro e w ⟨rfl, hk⟩
  refine ⟨_, rfl, ?_⟩
  replace hS := hS.kept hk
  clear hk
  refine hK _ _ ?_; clear hK K
  refine wl_e rfl ?_; intro K hK
  refine ow_call Try.func37 rfl rfl (evs_cons (tmA rfl rfl) <| evs_cons (ev_cN 0) <| evs_nil) (ring_at_c (kF [1]) 1 0 _ k1_bytes (by omega)) ?_
  rintro e w ⟨rfl, hk⟩
  refine ⟨_, rfl, ?_⟩
  replace hS := hS.kept hk
  clear hk
  refine hK _ _ ?_; clear hK K
  refine wl_v (x_move (tmT rfl rfl)) ?_
  refine wl_v (x_ext (tmT rfl rfl) rfl) ?_
  refine wl_v (x_ext (tmT rfl rfl) rfl) ?_
  refine wl_e rfl ?_; intro K hK
  refine ow_alloc hS tz_67 rfl ?_
  clear hS; intro g2_6 w hg2_6 hS
  refine hK _ _ ?_; clear hK K
  refine wl_e rfl ?_; intro K hK
  refine ow_storeA hS 0 rfl ts_67 (tmP rfl rfl) (tmA rfl rfl) rfl rfl rfl ?_
  clear hS; intro w hS
  try replace hS := St.nm (M' := [.blk _ _ [_, _, _, _, _, _, _, _, _, _, _, _, _, _, _, _], .blk _ _ [_, _, _, _, _, _, _, _, _, _, _, _, _, _, _, _], _]) hS rfl
  refine hK _ _ ?_; clear hK K
  refine wl_v (x_assign (tmB rfl rfl)) ?_
  refine wl_nil ?_
  refine then_n (hK3 _ _ ?_); clear hK3 K3
  refine wp_seq_k ?_; intro K4 hK4
  refine wlit ?_
  refine wl_v (x_move (tmB rfl rfl)) ?_
  refine wl_v (x_not (tmB rfl rfl)) ?_
  refine wl_v (x_move (tmB rfl rfl)) ?_
  refine gs_wls (tm (t := 19) rfl) (fun hg3_2 => ?_) (fun hg3_2 => ?_)
  · exfalso
    exact absurd hg3_2 (by decide)
  have hg3_2' := hg3_2; (try simp only [nrm] at hg3_2'); try (exfalso; first | with_reducible exact absurd hg3_2 Bool.false_ne_true | with_reducible exact absurd hg3_2.symm Bool.false_ne_true | omega | (simp at hg3_2; done))
  all_goals
   refine wl_gv (want_y rfl rfl rfl rfl (by rw [hg3_2]; rfl)) (x_move (tmB rfl rfl)) ?_
   refine wl_v (x_pickT (tmB rfl rfl) hg3_2 (tmB rfl rfl)) ?_
   refine wl_v (x_assign (tmB rfl rfl)) ?_
   refine wl_nil ?_
   refine then_n (hK4 _ _ ?_); clear hK4 K4
   refine wp_ret ?_
   refine ret1 rfl (.tmp rfl (show _ = Value.bool _ from rfl)) ?_
   exact ⟨rfl, hS.kp⟩
end Go.Proofs.Ytilgolflpdpfnaa
